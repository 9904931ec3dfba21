import PyProof.Rows.All
import Wide.All
import OpenK.AllK
import Wide.FinOn
import Lean
import PyProof.EqAt
import PyProof.EqKinds
import PyProof.TupleCall
import PySem.Challenge.RW_lowwater_k14_squares_looked_at
set_option Elab.async false
set_option linter.all false
set_option maxRecDepth 100000
namespace L2
open PySem PySem.Spec PyProof.Rows

noncomputable abbrev Key := Sum Int Str
noncomputable def keyIs : Key → Value → Bool
  | .inl k, v => Value.isInt k v
  | .inr x, v => Value.isStrOf x v
noncomputable def keyH (w : World) : Key → Int
  | .inl k => hashInt k
  | .inr x => hashStr w x
theorem keyIs_shape : ∀ {k : Key} {v : Value}, keyIs k v = true → (∃ i t, k = Sum.inl i ∧ v = Value.int i t) ∨ (∃ x t, k = Sum.inr x ∧ v = Value.str x t)
  | .inl i, v, h => by
    obtain ⟨t, e⟩ := Value.isInt_shape (k := i) (v := v) h
    exact .inl ⟨i, t, rfl, e⟩
  | .inr x, v, h => by
    obtain ⟨t, e⟩ := Value.isStrOf_shape (x := x) (v := v) h
    exact .inr ⟨x, t, rfl, e⟩
theorem keyIs_int (i : Int) (t : Tok) : keyIs (.inl i) (.int i t) = true := by simp [keyIs, Value.isInt]
theorem keyIs_str (x : Str) (t : Tok) : keyIs (.inr x) (.str x t) = true := by simp [keyIs, Value.isStrOf]
theorem key_ll (a b : Int) : decide ((Sum.inl a : Key) = Sum.inl b) = (a == b) := by
  by_cases e : a = b
  · subst e; simp
  · have h : ¬ (Sum.inl a : Key) = Sum.inl b := fun q => e (Sum.inl.inj q)
    rw [decide_eq_false h]
    exact (beq_eq_false_iff_ne.mpr e).symm
theorem key_rr (a b : Str) : decide ((Sum.inr a : Key) = Sum.inr b) = decide (a = b) := by
  by_cases e : a = b
  · subst e; simp
  · have h : ¬ (Sum.inr a : Key) = Sum.inr b := fun q => e (Sum.inr.inj q)
    rw [decide_eq_false h, decide_eq_false e]
theorem key_lr (a : Int) (b : Str) : decide ((Sum.inl a : Key) = Sum.inr b) = false := decide_eq_false (fun q => nomatch q)
theorem key_rl (a : Str) (b : Int) : decide ((Sum.inr a : Key) = Sum.inl b) = false := decide_eq_false (fun q => nomatch q)

noncomputable def mixKind (prog : Program) (w : World) : PySem.KeyKind prog w Key where
  is := keyIs
  hash := keyH w
  inj := fun v a b ha hb => by
    rcases keyIs_shape ha with ⟨i, t, rfl, rfl⟩ | ⟨x, t, rfl, rfl⟩
    · rcases keyIs_shape hb with ⟨j, u, rfl, e⟩ | ⟨y, u, rfl, e⟩
      · injection e with e1 _; rw [e1]
      · exact nomatch e
    · rcases keyIs_shape hb with ⟨j, u, rfl, e⟩ | ⟨y, u, rfl, e⟩
      · exact nomatch e
      · injection e with e1 _; rw [e1]
  byValue := fun k v h => by
    rcases keyIs_shape h with ⟨i, t, rfl, rfl⟩ | ⟨x, t, rfl, rfl⟩ <;> rfl
  pyHash := fun hv h => by
    rcases keyIs_shape hv with ⟨i, t, rfl, rfl⟩ | ⟨x, t, rfl, rfl⟩
    · exact wpAny_pyHash_int h
    · exact wpAny_pyHash_str h
  eqBool := fun hu hv h => by
    rcases keyIs_shape hu with ⟨i, t, rfl, rfl⟩ | ⟨x, t, rfl, rfl⟩
    · rcases keyIs_shape hv with ⟨j, u, rfl, rfl⟩ | ⟨y, u, rfl, rfl⟩
      · rw [key_ll] at h; exact wpAny_eqBool_int h
      · rw [key_lr] at h; exact SeqAt.EqAt.int_str i t y u _ _ _ _ h
    · rcases keyIs_shape hv with ⟨j, u, rfl, rfl⟩ | ⟨y, u, rfl, rfl⟩
      · rw [key_rl] at h; exact SeqAt.EqAt.str_int x t j u _ _ _ _ h
      · rw [key_rr] at h; exact wpAny_eqBool_str h
  «strs» := fun k x t v h => by
    rcases keyIs_shape h with ⟨i, u, rfl, e⟩ | ⟨y, u, rfl, e⟩
    · exact nomatch e
    · injection e with e1 _
      subst e1
      cases v <;> rfl

theorem mixKind_int (prog : Program) (w : World) (i : Int) (t : Tok) : (mixKind prog w).is (.inl i) (.int i t) = true := keyIs_int i t
theorem mixKind_str (prog : Program) (w : World) (x : Str) (t : Tok) : (mixKind prog w).is (.inr x) (.str x t) = true := keyIs_str x t
end L2

namespace L2
open PySem PySem.Spec PyProof.Rows

inductive V where
  | non | bl (b : Bool) | int (i : Int) | str (x : Str) | byt (b : Array UInt8) | flt (b : UInt64) | ref (a : Addr) | ty (n : String)
  deriving DecidableEq

noncomputable def RelV : V → Value → Prop
  | .non, u => u = Value.none
  | .bl b, u => u = Value.bool b
  | .int i, u => ∃ t, u = Value.int i t
  | .str x, u => ∃ t, u = Value.str x t
  | .byt b, u => ∃ t, u = Value.bytes b t
  | .flt b, u => ∃ t, u = Value.float b t
  | .ref a, u => u = Value.ref a
  | .ty n, u => u = Value.type n

noncomputable abbrev Vals : List V → List Value → Prop := Paired RelV
theorem Vals.length {xs : List V} {us : List Value} (r : Vals xs us) : xs.length = us.length := Paired.length r
theorem Vals.get : ∀ {xs : List V} {us : List Value} {i : Nat} {x : V}, Vals xs us → xs[i]? = some x → ∃ u, us[i]? = some u ∧ RelV x u
  | _, _, _, _, .nil, e => by simp at e
  | _, _, 0, _, .cons r _, e => by simp at e; subst e; exact ⟨_, rfl, r⟩
  | _, _, i + 1, x, .cons _ t, e => by
    obtain ⟨u, h1, h2⟩ := Vals.get (i := i) (x := x) t (by simpa using e)
    exact ⟨u, by simpa using h1, h2⟩
theorem Vals.set {x : V} {u : Value} (r : RelV x u) : ∀ {xs : List V} {us : List Value} (i : Nat), Vals xs us → Vals (xs.set i x) (us.set i u)
  | _, _, _, .nil => .nil
  | _, _, 0, .cons _ t => .cons r t
  | _, _, i + 1, .cons q t => .cons q (Vals.set r i t)
theorem Vals.append : ∀ {xs ys : List V} {us ws : List Value}, Vals xs us → Vals ys ws → Vals (xs ++ ys) (us ++ ws)
  | _, _, _, _, .nil, s => s
  | _, _, _, _, .cons r t, s => .cons r (Vals.append t s)
theorem Vals.take : ∀ {xs : List V} {us : List Value} (n : Nat), Vals xs us → Vals (xs.take n) (us.take n)
  | _, _, 0, _ => .nil
  | _, _, _ + 1, .nil => .nil
  | _, _, n + 1, .cons r t => .cons r (Vals.take n t)
theorem Vals.drop : ∀ {xs : List V} {us : List Value} (n : Nat), Vals xs us → Vals (xs.drop n) (us.drop n)
  | _, _, 0, r => r
  | _, _, _ + 1, .nil => .nil
  | _, _, n + 1, .cons _ t => Vals.drop n t

noncomputable def RelO : Option V → Option Value → Prop
  | some v, some u => RelV v u
  | none, none => True
  | _, _ => False
noncomputable def KV {κ : Type} : List (κ × V) → List (κ × Value) → Prop := Paired fun (p : κ × V) (q : κ × Value) => p.1 = q.1 ∧ RelV p.2 q.2

noncomputable def kV : Key → V
  | .inl i => .int i
  | .inr x => .str x

inductive HO where
  | lst (xs : List V)
  | tup (xs : List V)
  | dK (kvs : List (Key × V)) | dT (kvs : List (List Key × V))
  | set (S : Int → Bool) (n : Nat)
  | ins (C dx : Addr) (fs : List (Str × V))
  | own (x : Addr)
  | xd (fs : List (Str × V))
  | met (f x : Addr)
  | rng (lo hi : Int)
  | frz (o : Obj) (u : HO)
  | tbl (ps : Array Value)
  | ext (φ : Heap → Prop)

noncomputable abbrev Hp := Addr → Option HO
noncomputable def upd (H : Hp) (a : Addr) (o : HO) : Hp := fun b => if b = a then some o else H b
theorem upd_same {H : Hp} {a : Addr} {o : HO} : upd H a o a = some o := by unfold upd; rw [if_pos rfl]
theorem upd_ne {H : Hp} {a b : Addr} {o : HO} (h : b ≠ a) : upd H a o b = H b := by unfold upd; rw [if_neg h]
theorem ne_of {H : Hp} {a b : Addr} {o u : HO} (h : H a = some o) (h' : H b = some u) (d : o ≠ u) : a ≠ b := by
  intro e; subst e; rw [h] at h'; exact d (Option.some.inj h')
theorem ne_of_none {H : Hp} {a b : Addr} {o : HO} (h : H a = some o) (h' : H b = none) : a ≠ b := by
  intro e; subst e; rw [h] at h'; cases h'

section
variable (P : Program) (w : World)
noncomputable def ObjOk (H : Hp) (h : Heap) (a : Addr) : HO → Prop
  | .lst xs => xs.length ≤ sizeLine ∧ ∃ (its : List Value) (n : Nat), Vals xs its ∧ h.get? a = some { cls := .type "list", data := .seq its.toArray n }
  | .tup xs => xs.length ≤ sizeLine ∧ ∃ its : List Value, Vals xs its ∧ IsTup h a its.toArray
  | .dK kvs => kvs.length ≤ sizeLine ∧ (a == sysModules) = false ∧ ∃ vs, KV kvs vs ∧ h.DictOf (mixKind P w) a vs
  | .dT kvs => kvs.length ≤ sizeLine ∧ (a == sysModules) = false ∧ ∃ xs : List (List Key × Addr × Value),
      Paired (fun (p : List Key × V) (q : List Key × Addr × Value) => p.1 = q.1 ∧ H q.2.1 = some (.tup (p.1.map kV)) ∧ RelV p.2 q.2.2) kvs xs ∧
      ∃ o es ep, h.get? a = some o ∧ o.ExactDict ∧ o.data = .dict es ep ∧ es.toList = xs.map (entryOfKey (tupleKind (mixKind P w))) ∧ (xs.map (·.1)).Nodup
  | .set S n => h.SetOf (intKind P w) a S n
  | .ins C dx fs => H dx = some (.own a) ∧ fs.length ≤ 1000 ∧ dx ≠ a ∧ h.get? a = some (PySem.W.instObj C dx) ∧
      ∃ mA, h.Ns1 dx mA ∧ (∀ f, RelO (fs.lookup f) (mA f)) ∧ PySem.Within mA (fs.map (·.1))
  | .own _ => ∃ o, h.get? a = some o
  | .xd fs => ∃ mA, h.Ns1 a mA ∧ ∀ f, RelO (fs.lookup f) (mA f)
  | .rng lo hi => ∃ t u v, h.get? a = some { cls := .type "range", data := .fields #[.int lo t, .int hi u, .int 1 v] }
  | .frz o u => h.get? a = some o ∧ ObjOk H h a u
  | .tbl ps => h.get? a = some { cls := .none, data := .fields ps }
  | .met f x => h.get? a = some (PySem.W.methodObj (.ref f) (.ref x))
  | .ext φ => φ h ∧ (∃ o, h.get? a = some o) ∧ ∀ h1 h2 : Heap, φ h1 → (∀ o, h1.get? a = some o → h2.get? a = some o) → φ h2
noncomputable def HOk (H : Hp) (h : Heap) : Prop := ∀ a o, H a = some o → ObjOk P w H h a o
end

section
variable {P : Program} {w : World} {H H' : Hp} {h h' : Heap} {a : Addr} {o : HO}
theorem ObjOk.lt (x : ObjOk P w H h a o) : a < h.objs.size := by
  cases o with
  | lst xs => obtain ⟨_, _, _, _, e⟩ := x; exact Heap.lt_size e
  | tup xs => obtain ⟨_, _, _, p⟩ := x; exact p.lt
  | dK kvs => obtain ⟨_, _, _, _, o, _, _, e, _⟩ := x; exact Heap.lt_size e
  | dT kvs => obtain ⟨_, _, _, _, o, _, _, e, _⟩ := x; exact Heap.lt_size e
  | set S n => obtain ⟨o, _, _, _, e, _⟩ := x; exact Heap.lt_size e
  | ins C dx fs => obtain ⟨_, _, _, e, _⟩ := x; exact Heap.lt_size e
  | own y => obtain ⟨_, e⟩ := x; exact Heap.lt_size e
  | xd fs => obtain ⟨_, ⟨_, _, _, e, _⟩, _⟩ := x; exact Heap.lt_size e
  | rng lo hi => obtain ⟨_, _, _, e⟩ := x; exact Heap.lt_size e
  | frz ob u => obtain ⟨e, _⟩ := x; exact Heap.lt_size e
  | tbl ps => exact Heap.lt_size (show h.get? a = some _ from x)
  | met f y => exact Heap.lt_size (show h.get? a = some _ from x)
  | ext φ => obtain ⟨_, ⟨_, e⟩, _⟩ := x; exact Heap.lt_size e
theorem Paired.mapP {α β : Type} {F G : α → β → Prop} : ∀ {l₁ : List α} {l₂ : List β}, Paired F l₁ l₂ → (∀ a b, F a b → G a b) → Paired G l₁ l₂
  | _, _, .nil, _ => .nil
  | _, _, .cons r t, f => .cons (f _ _ r) (Paired.mapP t f)
theorem ObjOk.stay (x : ObjOk P w H h a o) (k : ∀ b u, (b = a ∨ H b = some (.own a)) → h.get? b = some u → h'.get? b = some u)
    (ho : ∀ b, H b = some (.own a) → H' b = some (.own a)) (ht : ∀ b xs, H b = some (.tup xs) → H' b = some (.tup xs)) : ObjOk P w H' h' a o := by
  induction o with
  | lst xs => obtain ⟨z, its, n, r, e⟩ := x; exact ⟨z, its, n, r, k _ _ (.inl rfl) e⟩
  | tup xs => obtain ⟨z, its, r, ob, e, c⟩ := x; exact ⟨z, its, r, ob, k _ _ (.inl rfl) e, c⟩
  | dK kvs => obtain ⟨z, y, vs, r, ob, es, ep, e, c⟩ := x; exact ⟨z, y, vs, r, ob, es, ep, k _ _ (.inl rfl) e, c⟩
  | dT kvs =>
    obtain ⟨z, y, xs, r, ob, es, ep, e, c⟩ := x
    exact ⟨z, y, xs, Paired.mapP r fun p q z => ⟨z.1, ht _ _ z.2.1, z.2.2⟩, ob, es, ep, k _ _ (.inl rfl) e, c⟩
  | set S n => obtain ⟨ob, es, ep, t, e, c⟩ := x; exact ⟨ob, es, ep, t, k _ _ (.inl rfl) e, c⟩
  | ins C dx fs =>
    obtain ⟨d, z, ne, e, mA, ⟨od, es, ep, e2, c⟩, r⟩ := x
    exact ⟨ho _ d, z, ne, k _ _ (.inl rfl) e, mA, ⟨od, es, ep, k _ _ (.inr d) e2, c⟩, r⟩
  | own y => obtain ⟨ob, e⟩ := x; exact ⟨ob, k _ _ (.inl rfl) e⟩
  | xd fs => obtain ⟨mA, ⟨od, es, ep, e, c⟩, r⟩ := x; exact ⟨mA, ⟨od, es, ep, k _ _ (.inl rfl) e, c⟩, r⟩
  | rng lo hi => obtain ⟨t, u, v, e⟩ := x; exact ⟨t, u, v, k _ _ (.inl rfl) e⟩
  | frz ob u ih => obtain ⟨e, q⟩ := x; exact ⟨k _ _ (.inl rfl) e, ih q⟩
  | tbl ps =>
    have e : h.get? a = some { cls := .none, data := .fields ps } := x
    show h'.get? a = some { cls := .none, data := .fields ps }
    exact k a _ (.inl rfl) e
  | met f y =>
    have e : h.get? a = some (PySem.W.methodObj (.ref f) (.ref y)) := x
    show h'.get? a = some (PySem.W.methodObj (.ref f) (.ref y))
    exact k a _ (.inl rfl) e
  | ext φ => obtain ⟨p, ⟨o, e⟩, st⟩ := x; exact ⟨st _ _ p fun o q => k _ _ (.inl rfl) q, ⟨o, k _ _ (.inl rfl) e⟩, st⟩
theorem HOk.lt (x : HOk P w H h) (e : H a = some o) : a < h.objs.size := (x a o e).lt
theorem HOk.fresh (x : HOk P w H h) (e : h.objs.size ≤ a) : H a = none := by
  cases q : H a with
  | none => rfl
  | some u => exact absurd (Nat.lt_of_lt_of_le (x.lt q) e) (Nat.lt_irrefl _)
theorem HOk.kept (x : HOk P w H h) (k : ∀ b u, h.get? b = some u → h'.get? b = some u) : HOk P w H h' := fun a o e =>
  (x a o e).stay (fun b u _ q => k b u q) (fun _ q => q) fun _ _ q => q
theorem HOk.laid (x : HOk P w H h) (k : ∀ b u, h.get? b = some u → h'.get? b = some u) (hp : h.objs.size ≤ a) (new : ObjOk P w (upd H a o) h' a o) : HOk P w (upd H a o) h' := fun b u e => by
  have hn := x.fresh hp
  by_cases hb : b = a
  · subst hb; rw [upd_same] at e; cases e; exact new
  · rw [upd_ne hb] at e
    exact (x b u e).stay (fun c v _ q => k c v q) (fun c q => by rw [upd_ne (ne_of_none q hn)]; exact q) fun c xs q => by rw [upd_ne (ne_of_none q hn)]; exact q
end

noncomputable def Rd (H : Hp) (a : Addr) (u : HO) : Prop := H a = some u ∨ ∃ o, H a = some (.frz o u)
theorem Rd.ok {P : Program} {w : World} {H : Hp} {h : Heap} {a : Addr} {u : HO} (r : Rd H a u) (x : HOk P w H h) : ObjOk P w H h a u := by
  rcases r with r | ⟨o, r⟩
  · exact x a u r
  · obtain ⟨_, q⟩ := x a _ r
    exact q
noncomputable def Mut : Option HO → Prop
  | some (.lst _) => True
  | some (.dK _) => True
  | some (.dT _) => True
  | some (.set _ _) => True
  | some (.ins _ _ _) => True
  | some (.ext _) => True
  | _ => False
section
variable {P : Program} {w : World} {H : Hp} {h h' : Heap} {x e : Addr} {o' : HO}
theorem HOk.write (ok : HOk P w H h) (mu : Mut (H x)) (he : e = x ∨ H e = some (.own x)) (k : ∀ b u, b ≠ e → h.get? b = some u → h'.get? b = some u) (heo : ∃ u, h'.get? e = some u)
    (new : ObjOk P w (upd H x o') h' x o') : HOk P w (upd H x o') h' := fun b u q => by
  have nown : ∀ c y, H c = some (.own y) → c ≠ x := fun c y r z => by subst z; rw [r] at mu; exact mu
  have ntup : ∀ c xs, H c = some (.tup xs) → c ≠ x := fun c xs r z => by subst z; rw [r] at mu; exact mu
  by_cases hb : b = x
  · subst hb; rw [upd_same] at q; cases q; exact new
  · rw [upd_ne hb] at q
    by_cases hbe : b = e
    · have q' : H b = some (.own x) := by
        rcases he with z | z
        · exact absurd (hbe.trans z) hb
        · rw [hbe]; exact z
      rw [q] at q'; cases q'
      obtain ⟨v, hv⟩ := heo
      exact ⟨v, by rw [hbe]; exact hv⟩
    · refine (ok b u q).stay (fun c v hc r => k c v ?_ r) (fun c r => by rw [upd_ne (nown c b r)]; exact r) fun c xs r => by rw [upd_ne (ntup c xs r)]; exact r
      rcases hc with rfl | hc
      · exact hbe
      · rintro rfl
        rcases he with z | z
        · exact nown c b hc z
        · rw [hc] at z; cases z; exact hb rfl
end

structure Un (fs ex : List Addr) (H H' : Hp) (h h' : Heap) : Prop where
  keep : ∀ b o, h.get? b = some o → H b = none → b ∉ fs → b ∉ ex → h'.get? b = some o
  slot : ∀ b o, h.get? b = some o → H b = none → b ∈ fs → b ∉ ex → ∃ sl, h'.get? b = some { o with slots := sl }
  free : ∀ b o, h.get? b = some o → H b = none → b ∉ ex → H' b = none
  there : ∀ b o, h.get? b = some o → b ∉ ex → ∃ o', h'.get? b = some o'
  tups : ∀ b xs, H b = some (.tup xs) → H' b = some (.tup xs)
  frzs : ∀ b o u, H b = some (.frz o u) → H' b = some (.frz o u)
  tbls : ∀ b ps, H b = some (.tbl ps) → ∃ more, H' b = some (.tbl (ps ++ more))
section
variable {fs fs' ex ex' : List Addr} {H H1 H2 : Hp} {h h1 h2 h' : Heap} {a x e : Addr} {o : HO}
theorem Un.any (u : Un fs ex H H1 h h1) {b : Addr} {ob : Obj} (q : h.get? b = some ob) (n : H b = none) (hx : b ∉ ex) : ∃ sl, h1.get? b = some { ob with slots := sl } := by
  by_cases hb : b ∈ fs
  · exact u.slot b ob q n hb hx
  · exact ⟨ob.slots, u.keep b ob q n hb hx⟩
theorem Un.kept (k : ∀ b u, h.get? b = some u → h'.get? b = some u) : Un fs ex H H h h' :=
  ⟨fun b ob q _ _ _ => k b ob q, fun b ob q _ _ _ => ⟨ob.slots, k b ob q⟩, fun _ _ _ n _ => n, fun b ob q _ => ⟨ob, k b ob q⟩, fun _ _ q => q, fun _ _ _ q => q, fun _ ps q => ⟨#[], by rw [q]; simp⟩⟩
theorem Un.refl : Un fs ex H H h h := Un.kept fun _ _ q => q
theorem Un.laid (k : ∀ b u, h.get? b = some u → h'.get? b = some u) (hp : h.objs.size ≤ a) (hn : H a = none) : Un fs ex H (upd H a o) h h' where
  keep := fun b u q _ _ _ => k b u q
  slot := fun b u q _ _ _ => ⟨u.slots, k b u q⟩
  free := fun b u q n _ => by rw [upd_ne (Nat.ne_of_lt (Nat.lt_of_lt_of_le (Heap.lt_size q) hp))]; exact n
  there := fun b u q _ => ⟨u, k b u q⟩
  tups := fun b xs q => by rw [upd_ne (ne_of_none q hn)]; exact q
  frzs := fun b u xs q => by rw [upd_ne (ne_of_none q hn)]; exact q
  tbls := fun b ps q => ⟨#[], by rw [upd_ne (ne_of_none q hn), q]; simp⟩
theorem Un.write (mu : Mut (H x)) (he : e = x ∨ H e = some (.own x)) (k : ∀ b u, b ≠ e → h.get? b = some u → h'.get? b = some u) (heo : ∃ u, h'.get? e = some u) : Un fs ex H (upd H x o) h h' := by
  have hx : ∀ b, H b = none → b ≠ x := fun b n z => by subst z; rw [n] at mu; exact mu
  have hb : ∀ b, H b = none → b ≠ e := fun b n z => by
    subst z
    rcases he with r | r
    · exact hx b n r
    · rw [n] at r; cases r
  have hm : ∀ b u, H b = some u → ¬ Mut (some u) → b ≠ x := fun b u q nm z => by subst z; rw [q] at mu; exact nm mu
  refine ⟨fun b u q n _ _ => k b u (hb b n) q, fun b u q n _ _ => ⟨u.slots, k b u (hb b n) q⟩, fun b u q n _ => by rw [upd_ne (hx b n)]; exact n, fun b u q _ => ?_,
    fun b xs q => by rw [upd_ne (hm b _ q fun z => z)]; exact q, fun b u xs q => by rw [upd_ne (hm b _ q fun z => z)]; exact q, fun b ps q => ⟨#[], by rw [upd_ne (hm b _ q fun z => z), q]; simp⟩⟩
  by_cases hbe : b = e
  · subst hbe; exact heo
  · exact ⟨u, k b u hbe q⟩
end

noncomputable def trk (h : Heap) (H : Hp) : List Addr := (List.range h.objs.size).filter fun a => (H a).isSome
noncomputable def hidT (h : Heap) (H : Hp) : Heap := PySem.W.hideAll h (trk h H)
theorem hidT_size (h : Heap) (H : Hp) : (hidT h H).objs.size = h.objs.size := PySem.W.hideAll_size _ _
theorem hidT_get {h : Heap} {H : Hp} {b : Addr} {o : Obj} (e : h.get? b = some o) (n : H b = none) : (hidT h H).get? b = some o :=
  PySem.W.hideAll_get _ e fun hm => by
    have q : (H b).isSome = true := (List.mem_filter.mp hm).2
    rw [n] at q; simp at q
theorem of_hidT {h : Heap} {H : Hp} {b : Addr} {o : Obj} (e : (hidT h H).get? b = some o) : h.get? b = some o ∧ H b = none := by
  have e' : h.get? b = some o := PySem.W.of_hideAll (trk h H) e
  refine ⟨e', ?_⟩
  cases q : H b with
  | none => rfl
  | some x =>
    have hm : b ∈ trk h H := List.mem_filter.mpr ⟨List.mem_range.mpr (Heap.lt_size e'), by simp [q]⟩
    have z : (hidT h H).get? b = none := PySem.W.hideAll_none (trk h H) hm
    rw [z] at e; cases e

noncomputable def allNews (g h : Heap) (L : Addr) : List (Addr × Obj) := (List.range h.objs.size).filterMap fun a => if a = L ∨ (g.get? a).isSome = true then none else (h.get? a).map fun o => (a, o)
theorem mem_allNews {g h : Heap} {L a : Addr} {o : Obj} (h1 : a ≠ L) (h2 : g.get? a = none) (h3 : h.get? a = some o) : (a, o) ∈ allNews g h L :=
  List.mem_filterMap.mpr ⟨a, List.mem_range.mpr (Heap.lt_size h3), by simp [h1, h2, h3]⟩
theorem of_mem_allNews {g h : Heap} {L : Addr} {p : Addr × Obj} (hp : p ∈ allNews g h L) : p.1 ≠ L ∧ g.get? p.1 = none ∧ h.get? p.1 = some p.2 := by
  obtain ⟨b, _, e⟩ := List.mem_filterMap.mp hp
  split at e
  · cases e
  · rename_i hn
    cases q : h.get? b with
    | none => rw [q] at e; simp at e
    | some u =>
      rw [q] at e
      simp only [Option.map_some, Option.some.injEq] at e
      subst e
      refine ⟨fun z => hn (.inl z), ?_, q⟩
      show g.get? b = none
      cases r : g.get? b with
      | none => rfl
      | some v => exact (hn (.inr (by simp [r]))).elim
theorem news_all {g h : Heap} {L : Addr} : News g L h (allNews g h L) := fun p hp => let ⟨a, b, c⟩ := of_mem_allNews hp; ⟨c, a, b⟩
end L2

namespace L2
open PySem PySem.Spec PyProof.Rows

structure Mod (K : PySem.W.Frag) (mg : Str → Option Value) (base : Heap) : Prop where
  kin : K.In base
  glob : base.Ns mainGlobals mg
  blt : ∃ mb, base.Ns builtinsNs mb ∧ ∀ x : Str, x ≠ "__name__" → mb x = bootBuiltins x
  nolimit : base.NoLimit

structure Cx where
  prog : Program
  w : World
  K : PySem.W.Frag
  mg : Str → Option Value
  base : Heap
  A : Around
  N : List Str
  s₀ : Shared
  H₀ : Hp
  env : Env
  outer : List Env
  stack : List Env
  ex : List Addr
  fn : Str → Bool
  calm : Bool
  pn : List (Addr × Obj)
  xe : Value → Shared → Prop
noncomputable def frs (l : List Env) : List Addr := l.filterMap (·.frame)
noncomputable abbrev Cx.fs (X : Cx) : List Addr := frs X.outer

noncomputable def Vis (sc : Scope) (x : Str) : Prop := sc.names.lookup x = some .local ∨ sc.names.lookup x = some .cell ∨ sc.names.lookup x = some .free
noncomputable def Loc (sc : Scope) (x : Str) : Prop := sc.names.lookup x = some .local ∨ sc.names.lookup x = some .cell
noncomputable def Look (env : Env) (h : Heap) (m : Str → Option Value) (x : Str) (u : Value) : Prop :=
  (env.kindOf x = some .local ∧ m x = some u) ∨ ((env.kindOf x = some .cell ∨ env.kindOf x = some .free) ∧ ∃ c, env.cells.lookup x = some c ∧ h.IsCell c (some u))

structure Cx.Ok (X : Cx) : Prop where
  mod : Mod X.K X.mg X.base
  kind : X.env.scope.kind = .function
  glob : X.env.globals = mainGlobals
  blt : X.env.builtins = builtinsNs
  above : X.s₀.heap.objs.size ≤ X.env.locals
  inj : ∀ x y c, X.env.cells.lookup x = some c → X.env.cells.lookup y = some c → x = y
  has : ∀ x, (X.env.kindOf x = some .cell ∨ X.env.kindOf x = some .free) → ∃ c, X.env.cells.lookup x = some c
  cab : ∀ x c, X.fn x = true → X.env.cells.lookup x = some c → X.s₀.heap.objs.size ≤ c
  hd : X.calm = true → X.A.handled = none
  frames : X.A.frames = some X.stack
  stk : X.stack = X.outer ∨ (X.stack = X.env :: X.outer ∧ X.env.frame = some X.env.locals)
  exf : ∀ b ∈ X.ex, b ≠ X.env.locals ∧ ∀ x c, X.env.cells.lookup x = some c → c ≠ b
  bs : ∀ b o, X.base.get? b = some o → X.s₀.heap.get? b = some o ∧ X.H₀ b = none
  bsz : X.base.objs.size ≤ X.s₀.heap.objs.size
  noex : ∀ b o, X.base.get? b = some o → b ∉ X.ex
  exfs : ∀ b ∈ X.ex, b ∉ X.fs
  funs : X.s₀.heap.FunFrames X.base X.outer
  frf : ∀ b ∈ X.fs, X.H₀ b = none

structure Inv (X : Cx) (pins : List (Addr × Obj)) (σ : List (Option V)) (H : Hp) (s : Shared) : Prop where
  ok : X.Ok
  os : s.os = X.s₀.os
  bare : AllBare s.gens
  base : Un X.fs X.ex X.H₀ H X.s₀.heap s.heap
  loc : ∃ m, s.heap.Ns X.env.locals m ∧ ∀ (i : Nat) (x : Str) (v : V), X.N[i]? = some x → σ[i]? = some (some v) → Vis X.env.scope x → ∃ u, RelV v u ∧ Look X.env s.heap m x u
  cell : ∀ x c, X.env.cells.lookup x = some c → ∃ v, s.heap.IsCell c v
  free : H X.env.locals = none
  freeC : ∀ x c, X.env.cells.lookup x = some c → H c = none
  pin : ∀ p ∈ X.pn ++ pins, s.heap.get? p.1 = some p.2 ∧ H p.1 = none ∧ p.1 ≠ X.env.locals ∧ p.1 ∉ X.fs ∧ ∀ v, p.2.data ≠ .cell v
  hok : HOk X.prog X.w H s.heap
  len : σ.length = X.N.length

section
variable {X : Cx} {pins : List (Addr × Obj)} {σ : List (Option V)} {H H' : Hp} {s : Shared} {h' : Heap}

theorem Cx.Ok.nofr (ok : X.Ok) {b : Addr} {o : Obj} (e : X.base.get? b = some o) : b ∉ X.fs := fun hb => by
  have := (ok.funs.mem hb).1
  rw [e] at this; cases this
theorem Inv.bs (I : Inv X pins σ H s) : ∀ b o, X.base.get? b = some o → s.heap.get? b = some o ∧ H b = none := fun b o e =>
  ⟨I.base.keep b o (I.ok.bs b o e).1 (I.ok.bs b o e).2 (I.ok.nofr e) (I.ok.noex b o e), I.base.free b o (I.ok.bs b o e).1 (I.ok.bs b o e).2 (I.ok.noex b o e)⟩
theorem Inv.bk (I : Inv X pins σ H s) : ∀ b o, X.base.get? b = some o → s.heap.get? b = some o := fun b o e => (I.bs b o e).1
theorem Inv.mod (I : Inv X pins σ H s) : Mod X.K X.mg X.base := I.ok.mod
theorem Inv.kIn (I : Inv X pins σ H s) : X.K.In s.heap := I.ok.mod.kin.keeps I.bk
theorem Inv.fr (I : Inv X pins σ H s) : ∃ m, Fr X.base X.env.locals s.heap m :=
  let ⟨m, hn, _⟩ := I.loc
  ⟨m, hn, I.bk, Nat.le_trans I.ok.bsz I.ok.above⟩
theorem Inv.lt (I : Inv X pins σ H s) : X.env.locals < s.heap.objs.size := let ⟨_, hn, _⟩ := I.loc; hn.lt
theorem Inv.sz (I : Inv X pins σ H s) : X.s₀.heap.objs.size ≤ s.heap.objs.size := Nat.le_trans I.ok.above (Nat.le_of_lt I.lt)
theorem Inv.nofs (I : Inv X pins σ H s) {a : Addr} (h : s.heap.objs.size ≤ a) : a ∉ X.fs := fun hb => by
  obtain ⟨_, o, ho, _⟩ := I.ok.funs.mem hb
  exact absurd (Nat.lt_of_lt_of_le (Heap.lt_size ho) (Nat.le_trans I.sz h)) (Nat.lt_irrefl _)
theorem Inv.cne (I : Inv X pins σ H s) : ∀ x c, X.env.cells.lookup x = some c → c ≠ X.env.locals := fun x c e z => by
  obtain ⟨v, o, ho, hd⟩ := I.cell x c e
  obtain ⟨m, ⟨o', es, ep, ho', hd', _⟩, _⟩ := I.loc
  rw [z, ho'] at ho; cases ho; rw [hd'] at hd; cases hd
theorem Inv.funs (I : Inv X pins σ H s) : s.heap.FunFrames X.base X.outer := by
  have all : ∀ (l : List Env), (∀ b ∈ frs l, b ∈ X.fs) → X.s₀.heap.FunFrames X.base l → s.heap.FunFrames X.base l := by
    intro l
    induction l with
    | nil => intro _ _; trivial
    | cons env r ih =>
      intro hs hl
      obtain ⟨hk, ⟨L, o, hf, hn, ho, hd⟩, hr⟩ := hl
      have hL : L ∈ X.fs := hs L (by unfold frs; rw [List.filterMap_cons, hf]; exact List.mem_cons_self)
      obtain ⟨sl, e⟩ := I.base.slot L o ho (I.ok.frf L hL) hL fun z => I.ok.exfs L z hL
      exact ⟨hk, ⟨L, _, hf, hn, e, hd⟩, ih (fun b hb => hs b (by unfold frs; rw [List.filterMap_cons, hf]; exact List.mem_cons_of_mem _ hb)) hr⟩
  exact all X.outer (fun _ hb => hb) I.ok.funs

theorem Inv.stack (I : Inv X pins σ H s) : s.heap.FunFrames X.base X.stack := by
  rcases I.ok.stk with e | ⟨e, hf⟩
  · rw [e]; exact I.funs
  · rw [e]
    obtain ⟨m, hn, _⟩ := I.loc
    refine .cons (by rw [I.ok.kind]; decide) hf hn ?_ I.funs
    exact Heap.get?_none_of_le (Nat.le_trans I.ok.bsz I.ok.above)
theorem Inv.stkSub (I : Inv X pins σ H s) : ∀ b ∈ frs X.stack, b ∈ X.env.locals :: X.fs := fun b hb => by
  rcases I.ok.stk with e | ⟨e, hf⟩
  · rw [e] at hb; exact List.mem_cons_of_mem _ hb
  · rw [e] at hb
    unfold frs at hb
    rw [List.filterMap_cons, hf] at hb
    exact hb
theorem Inv.stkFree (I : Inv X pins σ H s) : ∀ b ∈ frs X.stack, H b = none := fun b hb => by
  rcases List.mem_cons.mp (I.stkSub b hb) with e | hb
  · rw [e]; exact I.free
  · obtain ⟨_, o, ho, _⟩ := I.ok.funs.mem hb
    exact I.base.free b o ho (I.ok.frf b hb) fun z => I.ok.exfs b z hb

theorem Inv.step {g' : Array GenState} {t' : Nat} {d' : Drawn} {ch : List Addr} (I : Inv X pins σ H s)
    (hch : ∀ b ∈ ch, (b ∈ X.ex ∨ X.s₀.heap.objs.size ≤ b) ∧ b ≠ X.env.locals ∧ (∀ x c, X.env.cells.lookup x = some c → c ≠ b) ∧ ∀ p ∈ X.pn ++ pins, p.1 ≠ b)
    (keep : ∀ b o, b ≠ X.env.locals → b ∉ X.fs → b ∉ ch → s.heap.get? b = some o → H b = none → h'.get? b = some o)
    (slot : ∀ b o, b ≠ X.env.locals → b ∈ X.fs → b ∉ ch → s.heap.get? b = some o → H b = none → ∃ sl, h'.get? b = some { o with slots := sl }) (free : ∀ b o, b ∉ ch → s.heap.get? b = some o → H b = none → H' b = none)
    (there : ∀ b o, b ∉ ch → s.heap.get? b = some o → ∃ o', h'.get? b = some o')
    (tups : ∀ b xs, H b = some (.tup xs) → H' b = some (.tup xs)) (frzs : ∀ b o u, H b = some (.frz o u) → H' b = some (.frz o u)) (tbls : ∀ b ps, H b = some (.tbl ps) → ∃ more, H' b = some (.tbl (ps ++ more)))
    (ns : ∀ m, s.heap.Ns X.env.locals m → h'.Ns X.env.locals m) (hok : HOk X.prog X.w H' h') (hg : AllBare g') :
    Inv X pins σ H' { s with heap := h', gens := g', drawn := d', toks := t' } := by
  have neL : ∀ b o, X.s₀.heap.get? b = some o → b ≠ X.env.locals := fun b o e => Nat.ne_of_lt (Nat.lt_of_lt_of_le (Heap.lt_size e) I.ok.above)
  have neC : ∀ b o, X.s₀.heap.get? b = some o → b ∉ X.ex → b ∉ ch := fun b o e hx hb => by
    rcases (hch b hb).1 with z | z
    · exact hx z
    · exact absurd (Nat.lt_of_lt_of_le (Heap.lt_size e) z) (Nat.lt_irrefl _)
  have cellK : ∀ x c, X.env.cells.lookup x = some c → ∀ v, s.heap.IsCell c v → h'.IsCell c v := fun x c e v ⟨o, ho, hd⟩ => by
    have nch : c ∉ ch := fun z => (hch c z).2.2.1 x c e rfl
    by_cases hc : c ∈ X.fs
    · obtain ⟨sl, q⟩ := slot c o (I.cne x c e) hc nch ho (I.freeC x c e)
      exact ⟨_, q, hd⟩
    · exact ⟨o, keep c o (I.cne x c e) hc nch ho (I.freeC x c e), hd⟩
  refine ⟨I.ok, I.os, hg, ⟨fun b o e n hb hx => ?_, fun b o e n hb hx => ?_, fun b o e n hx => ?_, fun b o e hx => ?_, fun b xs e => tups b xs (I.base.tups b xs e), fun b o xs e => frzs b o xs (I.base.frzs b o xs e), fun b ps e => ?_⟩, ?_, fun x c e => ?_, ?_, fun x c e => ?_, fun p hp => ?_, hok, I.len⟩
  · exact keep b o (neL b o e) hb (neC b o e hx) (I.base.keep b o e n hb hx) (I.base.free b o e n hx)
  · obtain ⟨sl, e1⟩ := I.base.slot b o e n hb hx
    obtain ⟨sl', e2⟩ := slot b _ (neL b o e) hb (neC b o e hx) e1 (I.base.free b o e n hx)
    exact ⟨sl', e2⟩
  · obtain ⟨o', e1⟩ := I.base.there b o e hx
    exact free b o' (neC b o e hx) e1 (I.base.free b o e n hx)
  · obtain ⟨o', e1⟩ := I.base.there b o e hx
    exact there b o' (neC b o e hx) e1
  · obtain ⟨m1, e1⟩ := I.base.tbls b ps e
    obtain ⟨m2, e2⟩ := tbls b _ e1
    exact ⟨m1 ++ m2, by rw [e2, Array.append_assoc]⟩
  · obtain ⟨m, hn, hl⟩ := I.loc
    refine ⟨m, ns m hn, fun i x v e1 e2 e3 => ?_⟩
    obtain ⟨u, r, l⟩ := hl i x v e1 e2 e3
    refine ⟨u, r, ?_⟩
    rcases l with l | ⟨k, c, e, z⟩
    · exact .inl l
    · exact .inr ⟨k, c, e, cellK x c e _ z⟩
  · obtain ⟨v, z⟩ := I.cell x c e
    exact ⟨v, cellK x c e v z⟩
  · obtain ⟨m, ⟨o, _, _, ho, _⟩, _⟩ := I.loc
    exact free _ o (fun z => (hch _ z).2.1 rfl) ho I.free
  · obtain ⟨v, o, ho, hd⟩ := I.cell x c e
    exact free c o (fun z => (hch c z).2.2.1 x c e rfl) ho (I.freeC x c e)
  · obtain ⟨e, n, ne, nf, d⟩ := I.pin p hp
    have nch : p.1 ∉ ch := fun z => (hch p.1 z).2.2.2 p hp rfl
    exact ⟨keep p.1 p.2 ne nf nch e n, free p.1 p.2 nch e n, ne, nf, d⟩
theorem Inv.un {t' : Nat} (I : Inv X pins σ H s) (u : Un X.fs [] H H' s.heap h') (hok : HOk X.prog X.w H' h') : Inv X pins σ H' { s with heap := h', toks := t' } := by
  obtain ⟨m, ⟨o, es, ep, ho, r⟩, _⟩ := id I.loc
  obtain ⟨sl, hL⟩ := u.any ho I.free (by simp)
  exact I.step (g' := s.gens) (d' := s.drawn) (ch := []) (fun _ z => nomatch z) (fun b o _ hb _ e n => u.keep b o e n hb (by simp)) (fun b o _ hb _ e n => u.slot b o e n hb (by simp)) (fun b o _ e n => u.free b o e n (by simp)) (fun b o _ e => u.there b o e (by simp)) u.tups u.frzs u.tbls (fun m' hm => by
    obtain ⟨o', es', ep', ho', r'⟩ := hm
    rw [ho] at ho'; cases ho'
    exact ⟨_, es', ep', hL, r'⟩) hok I.bare
theorem Inv.call {g' : Array GenState} {t' : Nat} {d' : Drawn} {ch : List Addr} (I : Inv X pins σ H s) (u : Un (frs X.stack) ch H H' s.heap h') (hok : HOk X.prog X.w H' h') (hg : AllBare g')
    (hch : ∀ b ∈ ch, (b ∈ X.ex ∨ X.s₀.heap.objs.size ≤ b) ∧ b ≠ X.env.locals ∧ (∀ x c, X.env.cells.lookup x = some c → c ≠ b) ∧ ∀ p ∈ X.pn ++ pins, p.1 ≠ b) :
    Inv X pins σ H' { s with heap := h', gens := g', drawn := d', toks := t' } := by
  obtain ⟨m, ⟨o, es, ep, ho, r⟩, _⟩ := id I.loc
  obtain ⟨sl, hL⟩ := u.any ho I.free fun z => (hch _ z).2.1 rfl
  exact I.step (ch := ch) hch (fun b o hL hb hc e n => u.keep b o e n (fun z => (List.mem_cons.mp (I.stkSub b z)).elim hL hb) hc) (fun b o _ _ hc e n => u.any e n hc) (fun b o hc e n => u.free b o e n hc) (fun b o hc e => u.there b o e hc) u.tups u.frzs u.tbls (fun m' hm => by
    obtain ⟨o', es', ep', ho', r'⟩ := hm
    rw [ho] at ho'; cases ho'
    exact ⟨_, es', ep', hL, r'⟩) hok hg
theorem Inv.turned {t' : Nat} {it : Addr} (I : Inv X pins σ H s) (k : ∀ b o, b ≠ it → s.heap.get? b = some o → h'.get? b = some o) (hn : H it = none) (hL : it ≠ X.env.locals)
    (h1 : it ∈ X.ex ∨ X.s₀.heap.objs.size ≤ it) (h2 : ∀ x c, X.env.cells.lookup x = some c → c ≠ it) (h3 : ∀ p ∈ X.pn ++ pins, p.1 ≠ it) : Inv X pins σ H { s with heap := h', toks := t' } := by
  have nit : ∀ b u, H b = some u → b ≠ it := fun b u e z => by rw [z, hn] at e; cases e
  refine I.step (g' := s.gens) (d' := s.drawn) (ch := [it]) (fun b hb => ?_) (fun b o _ _ hc e _ => k b o (fun z => hc (by simp [z])) e) (fun b o _ _ hc e _ => ⟨o.slots, k b o (fun z => hc (by simp [z])) e⟩) (fun _ _ _ _ n => n)
    (fun b o hc e => ⟨o, k b o (fun z => hc (by simp [z])) e⟩) (fun _ _ e => e) (fun _ _ _ e => e) (fun b ps e => ⟨#[], by rw [e]; simp⟩) (fun m hm => ?_) (fun b u e => ?_) I.bare
  · have e : b = it := by simpa using hb
    subst e
    exact ⟨h1, hL, h2, h3⟩
  · obtain ⟨o, es, ep, ho, r⟩ := hm
    exact ⟨o, es, ep, k _ o (Ne.symm hL) ho, r⟩
  · refine (I.hok b u e).stay (fun c v hc q => k c v ?_ q) (fun _ q => q) fun _ _ q => q
    rcases hc with z | z
    · rw [z]; exact nit b u e
    · exact nit c _ z
theorem Inv.tok (I : Inv X pins σ H s) (t : Nat) : Inv X pins σ H { s with toks := t } := I.un (h' := s.heap) (t' := t) Un.refl I.hok
theorem Inv.kept {t' : Nat} (I : Inv X pins σ H s) (k : ∀ b u, s.heap.get? b = some u → h'.get? b = some u) : Inv X pins σ H { s with heap := h', toks := t' } := I.un (Un.kept k) (I.hok.kept k)
theorem Inv.laid {a : Addr} {o : HO} {t' : Nat} (I : Inv X pins σ H s) (k : ∀ b u, s.heap.get? b = some u → h'.get? b = some u) (hp : s.heap.objs.size ≤ a) (new : ObjOk X.prog X.w (upd H a o) h' a o) :
    Inv X pins σ (upd H a o) { s with heap := h', toks := t' } := I.un (Un.laid k hp (I.hok.fresh hp)) (I.hok.laid k hp new)
theorem Inv.write {x e : Addr} {o : HO} {t' : Nat} (I : Inv X pins σ H s) (mu : Mut (H x)) (he : e = x ∨ H e = some (.own x)) (k : ∀ b u, b ≠ e → s.heap.get? b = some u → h'.get? b = some u) (heo : ∃ u, h'.get? e = some u)
    (new : ObjOk X.prog X.w (upd H x o) h' x o) : Inv X pins σ (upd H x o) { s with heap := h', toks := t' } := I.un (Un.write mu he k heo) (I.hok.write mu he k heo new)
theorem Inv.weak {σ' : List (Option V)} (I : Inv X pins σ H s) (hl : σ'.length = σ.length) (w : ∀ (i : Nat) v, σ'[i]? = some (some v) → σ[i]? = some (some v)) : Inv X pins σ' H s :=
  ⟨I.ok, I.os, I.bare, I.base, let ⟨m, hn, hl'⟩ := I.loc; ⟨m, hn, fun i x v e1 e2 e3 => hl' i x v e1 (w i v e2) e3⟩, I.cell, I.free, I.freeC, I.pin, I.hok, hl.trans I.len⟩
theorem Inv.pins_of {pins' : List (Addr × Obj)} (I : Inv X pins σ H s) (h : ∀ p ∈ pins', s.heap.get? p.1 = some p.2 ∧ H p.1 = none ∧ p.1 ≠ X.env.locals ∧ p.1 ∉ X.fs ∧ ∀ v, p.2.data ≠ .cell v) : Inv X pins' σ H s :=
  ⟨I.ok, I.os, I.bare, I.base, I.loc, I.cell, I.free, I.freeC, fun p hp => (List.mem_append.mp hp).elim (fun z => I.pin p (List.mem_append_left _ z)) (h p), I.hok, I.len⟩

theorem nodup_ix {N : List Str} (hN : N.Nodup) {i j : Nat} {x : Str} (a : N[i]? = some x) (b : N[j]? = some x) : i = j := by
  obtain ⟨h1, e1⟩ := List.getElem?_eq_some_iff.mp a
  obtain ⟨h2, e2⟩ := List.getElem?_eq_some_iff.mp b
  exact (List.getElem_inj hN).mp (e1.trans e2.symm)

theorem store_ok2 {M : Model} {A : Around} {E : Value → Shared → Prop} {i : Nat} {x : Str} {v : V} {u : Value} {Q : Unit → Shared → Prop} (I : Inv X pins σ H s) (hN : X.N.Nodup) (hi : X.N[i]? = some x) (hx : Loc X.env.scope x) (r : RelV v u)
    (h : ∀ s', Inv X pins (σ.set i (some v)) H s' → (∃ a, Heap.SameBut a s.heap s'.heap ∧ (a = X.env.locals ∨ X.env.cells.lookup x = some a)) → Q () s') (hf : X.fn x = true ∨ X.env.scope.names.lookup x = some .local := by first | exact .inl rfl | exact .inr rfl | assumption) : wpAny M A (storeName X.env x u) Q E s := by
  obtain ⟨m, hn, hl⟩ := id I.loc
  have hcls : (X.env.scope.kind == .class || (X.env.scope.kind == .module && X.env.locals != X.env.globals)) = false := by rw [I.ok.kind]; rfl
  have hiσ : i < σ.length := by rw [I.len]; exact (List.getElem?_eq_some_iff.mp hi).1
  have cne := I.cne
  have tracked : ∀ {a : Addr} {h' : Heap}, (∃ o, s.heap.get? a = some o ∧ H a = none) → Heap.SameBut a s.heap h' → HOk X.prog X.w H h' := fun {a h'} ha hs b ob e => by
    obtain ⟨_, _, hfree⟩ := ha
    refine (I.hok b ob e).stay (fun c w' hc q => (hs.2 c ?_).trans q) (fun _ q => q) fun _ _ q => q
    rintro rfl
    rcases hc with rfl | hc
    · rw [hfree] at e; cases e
    · rw [hfree] at hc; cases hc
  rcases hx with hk | hk
  · refine wpAny_storeName_local hk hn (fun h' hn' hs => ?_) hcls
    obtain ⟨oL, _, _, hoL, _⟩ := id hn
    refine h _ ⟨I.ok, I.os, I.bare, ⟨fun b o e n hb hx => ?_, fun b o e n hb hx => ?_, I.base.free, fun b o e hx => ?_, I.base.tups, I.base.frzs, I.base.tbls⟩, ⟨_, hn', fun j y v' e1 e2 e3 => ?_⟩, fun y c e => ?_, I.free, I.freeC, fun p hp => ?_, tracked ⟨oL, hoL, I.free⟩ hs, by simpa using I.len⟩ ⟨_, hs, .inl rfl⟩
    · exact (hs.2 b (Nat.ne_of_lt (Nat.lt_of_lt_of_le (Heap.lt_size e) I.ok.above))).trans (I.base.keep b o e n hb hx)
    · obtain ⟨sl, e1⟩ := I.base.slot b o e n hb hx
      exact ⟨sl, (hs.2 b (Nat.ne_of_lt (Nat.lt_of_lt_of_le (Heap.lt_size e) I.ok.above))).trans e1⟩
    · obtain ⟨o', e1⟩ := I.base.there b o e hx
      exact ⟨o', (hs.2 b (Nat.ne_of_lt (Nat.lt_of_lt_of_le (Heap.lt_size e) I.ok.above))).trans e1⟩
    · by_cases hj : j = i
      · subst hj
        rw [hi] at e1; cases e1
        rw [List.getElem?_set_self hiσ] at e2
        cases e2
        exact ⟨u, r, .inl ⟨hk, by simp⟩⟩
      · rw [List.getElem?_set_ne (Ne.symm hj)] at e2
        obtain ⟨u', r', q⟩ := hl j y v' e1 e2 e3
        refine ⟨u', r', ?_⟩
        rcases q with ⟨k, e⟩ | ⟨k, c, e, z⟩
        · refine .inl ⟨k, ?_⟩
          have : y ≠ x := fun e => hj (nodup_ix hN e1 (e ▸ hi))
          simp [this, e]
        · exact .inr ⟨k, c, e, z.sameBut hs (cne y c e)⟩
    · obtain ⟨w', z⟩ := I.cell y c e
      exact ⟨w', z.sameBut hs (cne y c e)⟩
    · obtain ⟨e, n, ne, nf, d⟩ := I.pin p hp
      exact ⟨(hs.2 p.1 ne).trans e, n, ne, nf, d⟩
  · have hfn : X.fn x = true := by
      rcases hf with z | z
      · exact z
      · rw [z] at hk; cases hk
    obtain ⟨c, hc⟩ := I.ok.has x (.inl hk)
    obtain ⟨w', z⟩ := I.cell x c hc
    refine wpAny_storeName_cell I.ok.kind hk hc z (fun h' hc' hs => ?_)
    obtain ⟨oc, hoc, hocd⟩ := id z
    refine h { s with heap := h' } ⟨I.ok, I.os, I.bare, ⟨fun b o e n hb hx => ?_, fun b o e n hb hx => ?_, I.base.free, fun b o e hx => ?_, I.base.tups, I.base.frzs, I.base.tbls⟩, ⟨m, hn.sameBut hs (Ne.symm (cne x c hc)), fun j y v' e1 e2 e3 => ?_⟩, fun y c' e => ?_, I.free, I.freeC, fun p hp => ?_, tracked ⟨oc, hoc, I.freeC x c hc⟩ hs, by simpa using I.len⟩ ⟨c, hs, .inr hc⟩
    · exact (hs.2 b (Nat.ne_of_lt (Nat.lt_of_lt_of_le (Heap.lt_size e) (I.ok.cab x c hfn hc)))).trans (I.base.keep b o e n hb hx)
    · obtain ⟨sl, e1⟩ := I.base.slot b o e n hb hx
      exact ⟨sl, (hs.2 b (Nat.ne_of_lt (Nat.lt_of_lt_of_le (Heap.lt_size e) (I.ok.cab x c hfn hc)))).trans e1⟩
    · obtain ⟨o', e1⟩ := I.base.there b o e hx
      exact ⟨o', (hs.2 b (Nat.ne_of_lt (Nat.lt_of_lt_of_le (Heap.lt_size e) (I.ok.cab x c hfn hc)))).trans e1⟩
    · by_cases hj : j = i
      · subst hj
        rw [hi] at e1; cases e1
        rw [List.getElem?_set_self hiσ] at e2
        cases e2
        exact ⟨u, r, .inr ⟨.inl hk, c, hc, hc'⟩⟩
      · rw [List.getElem?_set_ne (Ne.symm hj)] at e2
        obtain ⟨u', r', q⟩ := hl j y v' e1 e2 e3
        refine ⟨u', r', ?_⟩
        rcases q with q | ⟨k, c', e, z'⟩
        · exact .inl q
        · refine .inr ⟨k, c', e, z'.sameBut hs ?_⟩
          rintro rfl
          exact hj (nodup_ix hN e1 (I.ok.inj _ _ _ e hc ▸ hi))
    · by_cases hcc : c' = c
      · subst hcc; exact ⟨_, hc'⟩
      · obtain ⟨w2, z2⟩ := I.cell y c' e
        exact ⟨w2, z2.sameBut hs hcc⟩
    · obtain ⟨e, n, ne, nf, d⟩ := I.pin p hp
      refine ⟨(hs.2 p.1 ?_).trans e, n, ne, nf, d⟩
      intro q
      rw [q, hoc] at e
      have q' : oc = p.2 := Option.some.inj e
      exact d w' (by rw [← q']; exact hocd)
theorem store_ok {M : Model} {A : Around} {E : Value → Shared → Prop} {i : Nat} {x : Str} {v : V} {u : Value} {Q : Unit → Shared → Prop} (I : Inv X pins σ H s) (hN : X.N.Nodup) (hi : X.N[i]? = some x) (hx : Loc X.env.scope x) (r : RelV v u)
    (h : ∀ s', Inv X pins (σ.set i (some v)) H s' → Q () s') (hf : X.fn x = true ∨ X.env.scope.names.lookup x = some .local := by first | exact .inl rfl | exact .inr rfl | assumption) : wpAny M A (storeName X.env x u) Q E s :=
  store_ok2 I hN hi hx r (fun s' I' _ => h s' I') hf
theorem Inv.call' {s' : Shared} {ch : List Addr} (I : Inv X pins σ H s) (ho : s'.os = s.os) (u : Un (frs X.stack) ch H H' s.heap s'.heap) (hok : HOk X.prog X.w H' s'.heap) (hg : AllBare s'.gens)
    (hch : ∀ b ∈ ch, (b ∈ X.ex ∨ X.s₀.heap.objs.size ≤ b) ∧ b ≠ X.env.locals ∧ (∀ x c, X.env.cells.lookup x = some c → c ≠ b) ∧ ∀ p ∈ X.pn ++ pins, p.1 ≠ b) : Inv X pins σ H' s' := by
  obtain ⟨h', g', d', t', o'⟩ := s'
  have e : o' = s.os := ho
  subst e
  exact I.call (g' := g') (t' := t') (d' := d') u hok hg hch
end

noncomputable abbrev XK := Value → Option Addr → Hp → Prop
noncomputable abbrev St := List (Option V)
noncomputable abbrev VK := V → Hp → Prop
noncomputable abbrev TE := St → Hp → VK → Prop
noncomputable abbrev TT := St → Hp → (Bool → Hp → Prop) → Prop
noncomputable abbrev TA := St → Hp → (List V → Hp → Prop) → Prop
structure Ends where
  nx : St → Hp → Prop
  rt : VK
  bk : St → Hp → Prop := fun _ _ => False
  ct : St → Hp → Prop := fun _ _ => False
noncomputable abbrev TS := Ends → St → Hp → Prop

noncomputable def EP (X : Cx) (pins : List (Addr × Obj)) (σ : St) (Q : VK) (u : Value) (s' : Shared) : Prop := ∃ v H', Inv X pins σ H' s' ∧ RelV v u ∧ Q v H'
noncomputable def TP (X : Cx) (pins : List (Addr × Obj)) (σ : St) (Q : Bool → Hp → Prop) (b : Bool) (s' : Shared) : Prop := ∃ H', Inv X pins σ H' s' ∧ Q b H'
noncomputable def AP (X : Cx) (pins : List (Addr × Obj)) (σ : St) (Q : List V → Hp → Prop) (us : List Value) (s' : Shared) : Prop := ∃ vs H', Inv X pins σ H' s' ∧ Vals vs us ∧ Q vs H'
noncomputable def SP (X : Cx) (pins : List (Addr × Obj)) (D : Ends) (f : Flow) (s' : Shared) : Prop :=
  match f with
  | .next => ∃ σ' H', Inv X pins σ' H' s' ∧ D.nx σ' H'
  | .brk => ∃ σ' H', Inv X pins σ' H' s' ∧ D.bk σ' H'
  | .cont => ∃ σ' H', Inv X pins σ' H' s' ∧ D.ct σ' H'
  | .ret u => ∃ v σ' H', Inv X pins σ' H' s' ∧ RelV v u ∧ D.rt v H'

noncomputable def PE (X : Cx) (e : Expr) (t : TE) : Prop :=
  ∀ (pins : List (Addr × Obj)) (s : Shared) (σ : St) (H : Hp) (Q : VK), Inv X pins σ H s → t σ H Q → wpAny (model X.prog X.w) X.A (eval e X.env) (EP X pins σ Q) X.xe s
noncomputable def PT (X : Cx) (e : Expr) (t : TT) : Prop :=
  ∀ (pins : List (Addr × Obj)) (s : Shared) (σ : St) (H : Hp) (Q : Bool → Hp → Prop), Inv X pins σ H s → t σ H Q → wpAny (model X.prog X.w) X.A (isTrue e X.env (eval e X.env)) (TP X pins σ Q) X.xe s
noncomputable def PW (X : Cx) (e : Expr) (t : TT) : Prop :=
  ∀ (whole : Sem Value) (pins : List (Addr × Obj)) (s : Shared) (σ : St) (H : Hp) (Q : Bool → Hp → Prop), Inv X pins σ H s → t σ H Q → wpAny (model X.prog X.w) X.A (isTrue e X.env whole) (TP X pins σ Q) X.xe s
theorem PW.pt {X : Cx} {e : Expr} {t : TT} (h : PW X e t) : PT X e t := h _
noncomputable def PA (X : Cx) (es : List Expr) (t : TA) : Prop :=
  ∀ (pos : Pos) (pins : List (Addr × Obj)) (s : Shared) (σ : St) (H : Hp) (Q : List V → Hp → Prop), Inv X pins σ H s → t σ H Q → wpAny (model X.prog X.w) X.A (spliced (backTo pos (starEach es X.env))) (AP X pins σ Q) X.xe s
noncomputable def PS (X : Cx) (st : Stmt) (t : TS) : Prop :=
  ∀ (pins : List (Addr × Obj)) (s : Shared) (σ : St) (H : Hp) (D : Ends), Inv X pins σ H s → t D σ H → wpAny (model X.prog X.w) X.A (exec st X.env) (SP X pins D) X.xe s
noncomputable def PSs (X : Cx) (st : List Stmt) (t : TS) : Prop :=
  ∀ (pins : List (Addr × Obj)) (s : Shared) (σ : St) (H : Hp) (D : Ends), Inv X pins σ H s → t D σ H → wpAny (model X.prog X.w) X.A (execs st X.env) (SP X pins D) X.xe s
theorem thn {α : Type} {t : Sem α} {Q Q' : α → Shared → Prop} {M : Model} {A : Around} {E : Value → Shared → Prop} {s : Shared} (h : wpAny M A t Q E s) (hQ : ∀ a s, Q a s → Q' a s) : wpAny M A t Q' E s := wpAny_mono h hQ fun _ _ x => x
end L2

namespace L2
open PySem PySem.Spec PyProof.Rows
section
variable {X : Cx}

theorem bin {a b : Expr} {ta tb : TE} (ha : PE X a ta) (hb : PE X b tb) {pins : List (Addr × Obj)} {s : Shared} {σ : St} {H : Hp} {R : V → V → Hp → Prop} (I : Inv X pins σ H s) (h : ta σ H fun x H1 => tb σ H1 fun y H2 => R x y H2)
    {α : Type} {Q : α → Shared → Prop} {f : Value → Value → Sem α}
    (hf : ∀ v u s2 x y H2, Inv X pins σ H2 s2 → RelV x v → RelV y u → R x y H2 → wpAny (model X.prog X.w) X.A (f v u) Q X.xe s2) :
    wpAny (model X.prog X.w) X.A (eval a X.env) (fun v s₁ => wpAny (model X.prog X.w) X.A (eval b X.env) (fun u s₂ => wpAny (model X.prog X.w) X.A (f v u) Q X.xe s₂) X.xe s₁) X.xe s := by
  refine thn (ha pins s σ H _ I h) fun v s1 ⟨x, H1, I1, r1, q1⟩ => ?_
  refine thn (hb pins s1 σ H1 _ I1 q1) fun u s2 ⟨y, H2, I2, r2, q2⟩ => ?_
  exact hf v u s2 x y H2 I2 r1 r2 q2

noncomputable def tVar (i : Nat) : TE := fun σ H Q => ∃ v, σ[i]? = some (some v) ∧ Q v H
noncomputable def tC (v : V) : TE := fun _ H Q => Q v H
theorem pe_var {i : Nat} {x : Str} {pos : Pos} (hN : X.N[i]? = some x) (hv : Vis X.env.scope x) (hd : (x == ("__debug__" : Str)) = false := by decide) (hcd : (x == ("__classdict__" : Str)) = false := by decide) : PE X (.Name x pos) (tVar i) := by
  intro pins s σ H Q I h
  obtain ⟨v, e, h⟩ := h
  obtain ⟨m, hn, hl⟩ := I.loc
  obtain ⟨u, r, l⟩ := hl i x v hN e hv
  have fin : EP X pins σ Q u s := ⟨v, H, I, r, h⟩
  rcases l with ⟨hk, hm⟩ | ⟨hk, c, hc, hcell⟩
  · exact wpAny_Name (wpAny_loadName_local I.ok.kind hk hn hm fin) hd
  · rcases hk with hk | hk
    · exact wpAny_Name (wpAny_loadName_cell I.ok.kind hk hc hcell fin) hd
    · exact wpAny_Name (wpAny_loadName_free I.ok.kind hk hc hcell fin hcd) hd
theorem pe_int {i j pos} : PE X (.Constant (.int i) j pos) (tC (.int i)) := fun _ _ _ H _ I h => wpAny_Constant_int ⟨.int i, H, I.tok _, ⟨_, rfl⟩, h⟩
theorem pe_bl {b j pos} : PE X (.Constant (.bool b) j pos) (tC (.bl b)) := fun _ _ _ H _ I h => Constant_bool ⟨.bl b, H, I, rfl, h⟩
theorem pe_non {j pos} : PE X (.Constant .none j pos) (tC .non) := fun _ _ _ H _ I h => Constant_none ⟨.non, H, I, rfl, h⟩

noncomputable def Gl (X : Cx) (x : Str) : Prop := X.env.kindOf x = some .globalImplicit
theorem ld_glob {E : Value → Shared → Prop} {pins : List (Addr × Obj)} {s : Shared} {σ : St} {H : Hp} {x : Str} {u : Value} {pos : Pos} {Q : Value → Shared → Prop} (I : Inv X pins σ H s) (hg : Gl X x) (hm : X.mg x = some u) (h : Q u s)
    (hd : (x == ("__debug__" : Str)) = false := by decide) : wpAny (model X.prog X.w) X.A (eval (.Name x pos) X.env) Q E s :=
  Calls.Name_function_global I.ok.kind hg (Calls.loadGlobal_global (by rw [I.ok.glob]; exact I.mod.glob.keeps I.bk) hm h) hd
theorem ld_blt {E : Value → Shared → Prop} {pins : List (Addr × Obj)} {s : Shared} {σ : St} {H : Hp} {x : Str} {u : Value} {pos : Pos} {Q : Value → Shared → Prop} (I : Inv X pins σ H s) (hg : Gl X x) (hm : X.mg x = none) (hv : bootBuiltins x = some u) (h : Q u s)
    (hn : x ≠ "__name__" := by decide) (hd : (x == ("__debug__" : Str)) = false := by decide) : wpAny (model X.prog X.w) X.A (eval (.Name x pos) X.env) Q E s := by
  obtain ⟨mb, h1, h2⟩ := I.mod.blt
  exact Calls.Name_function_global I.ok.kind hg (Calls.loadGlobal_builtin (by rw [I.ok.glob]; exact I.mod.glob.keeps I.bk) hm (by rw [I.ok.blt]; exact h1.keeps I.bk) ((h2 x hn).trans hv) h) hd
theorem pe_glob {x : Str} {v : V} {u : Value} {pos : Pos} (hg : Gl X x) (hm : X.mg x = some u) (r : RelV v u) (hd : (x == ("__debug__" : Str)) = false := by decide) : PE X (.Name x pos) (tC v) :=
  fun _ _ _ H _ I h => ld_glob I hg hm ⟨v, H, I, r, h⟩ hd
theorem pe_bltn {x : Str} {v : V} {u : Value} {pos : Pos} (hg : Gl X x) (hm : X.mg x = none) (hv : bootBuiltins x = some u) (r : RelV v u) (hn : x ≠ "__name__" := by decide) (hd : (x == ("__debug__" : Str)) = false := by decide) : PE X (.Name x pos) (tC v) :=
  fun _ _ _ H _ I h => ld_blt I hg hm hv ⟨v, H, I, r, h⟩ hn hd

variable {a b : Expr} {ta tb : TE} {pos : Pos}

noncomputable def PC (X : Cx) (op : CmpOp) (a b : Expr) (t : TE) : Prop :=
  ∀ (pins : List (Addr × Obj)) (s : Shared) (σ : St) (H : Hp) (Q : VK), Inv X pins σ H s → t σ H Q →
    wpAny (model X.prog X.w) X.A (eval a X.env) (fun v s₁ => wpAny (model X.prog X.w) X.A (eval b X.env) (fun u s₂ => wpAny (model X.prog X.w) X.A (compareOp op v u) (EP X pins σ Q) X.xe s₂) X.xe s₁) X.xe s
theorem nobehind (b : Expr) {op : CmpOp} (h : op ≠ .In) (h2 : op ≠ .NotIn) : behindInMarks op b = false := by
  have e1 : (op == CmpOp.In) = false := by cases op <;> first | rfl | exact absurd rfl h
  have e2 : (op == CmpOp.NotIn) = false := by cases op <;> first | rfl | exact absurd rfl h2
  cases b <;> simp [behindInMarks, e1, e2]
noncomputable def tIsN (ta : TE) : TE := fun σ H Q => ta σ H fun x H1 => Q (.bl (decide (x = .non))) H1
theorem RelV.none_iff {x : V} {v : Value} (r : RelV x v) : (v == Value.none) = decide (x = .non) := by
  cases x with
  | non => cases r; rfl
  | bl _ => cases r; rfl
  | int _ => obtain ⟨t, rfl⟩ := r; rfl
  | str _ => obtain ⟨t, rfl⟩ := r; rfl
  | byt _ => obtain ⟨t, rfl⟩ := r; rfl
  | flt _ => obtain ⟨t, rfl⟩ := r; rfl
  | ref _ => cases r; rfl
  | ty _ => cases r; rfl
theorem pc_isN {j pos'} (ha : PE X a ta) : PC X .Is a (.Constant .none j pos') (tIsN ta) := by
  intro pins s σ H Q I h
  refine thn (ha pins s σ H _ I h) fun v s1 ⟨x, H1, I1, r1, q1⟩ => ?_
  exact Constant_none (is_none_gen ⟨.bl _, H1, I1, by rw [r1.none_iff]; rfl, q1⟩)
noncomputable def tB (t : TE) : TT := fun σ H Q => t σ H fun x H1 => ∃ c, x = .bl c ∧ Q c H1
theorem pe_cmp {op : CmpOp} {t : TE} (h : PC X op a b t) (h1 : behindInMarks op b = false := by first | exact nobehind _ (by decide) (by decide) | rfl) : PE X (.Compare a [op] [b] pos) t := fun pins s σ H Q I hw => wpAny_Compare1 (h pins s σ H Q I hw) h1
theorem pt_cmp {op : CmpOp} {t : TE} (h : PC X op a b t) (h1 : behindInMarks op b = false := by first | exact nobehind _ (by decide) (by decide) | rfl) : PT X (.Compare a [op] [b] pos) (tB t) := by
  intro pins s σ H Q I hw
  refine wpAny_isTrue_Compare1 (thn (h pins s σ H _ I hw) fun v s1 h1 => thn h1 fun u s2 h2 => thn h2 fun c s3 ⟨x, H1, I1, r1, q1⟩ => ?_) h1
  obtain ⟨d, rfl, q⟩ := q1
  cases r1
  exact wpAny_truthy_bool ⟨H1, I1, q⟩
theorem pt_val {e : Expr} {t : TE} (h : PE X e t) (he : ∀ whole, isTrue e X.env whole = (do let v ← whole; standAt e.pos; holding [v] (truthy v)) := by intro _; rfl) : PT X e (tB t) := by
  intro pins s σ H Q I hw
  refine isTrue_plain (thn (h pins s σ H _ I hw) fun v s1 ⟨x, H1, I1, r1, q1⟩ => ?_) (he _)
  obtain ⟨d, rfl, q⟩ := q1
  cases r1
  exact wpAny_truthy_bool ⟨H1, I1, q⟩

variable {tA tB' : TT} {rest : List Expr}
noncomputable def tOr (t u : TT) : TT := fun σ H Q => t σ H fun c H1 => if c = true then Q true H1 else u σ H1 Q
noncomputable def tNot (t : TT) : TT := fun σ H Q => t σ H fun c H1 => Q (!c) H1
theorem pw_or1 (ha : PT X a tA) : PW X (.BoolOp .Or [a] pos) tA := by
  intro wh pins s σ H Q I h
  refine isTrue_or (thn (ha pins s σ H Q I h) fun c s1 e => ?_)
  cases c with
  | false => exact isTrue_or_nil e
  | true => exact e
theorem pw_or (ha : PT X a tA) (hb : PW X (.BoolOp .Or (b :: rest) pos) tB') : PW X (.BoolOp .Or (a :: b :: rest) pos) (tOr tA tB') := by
  intro wh pins s σ H Q I h
  refine isTrue_or (thn (ha pins s σ H _ I h) fun c s1 ⟨H1, I1, q1⟩ => ?_)
  cases c with
  | true => exact ⟨H1, I1, q1⟩
  | false => exact hb wh pins s1 σ H1 Q I1 q1
theorem pt_not (ha : PT X a tA) : PT X (.UnaryOp .Not a pos) (tNot tA) := by
  intro pins s σ H Q I h
  exact isTrue_not (ha pins s σ H (fun c H1 => Q (!c) H1) I h)
noncomputable def tAndV (ta tb : TE) : TE := fun σ H Q => ta σ H fun x H1 => ∃ c, x = .bl c ∧ if c = true then tb σ H1 Q else Q (.bl false) H1
theorem pe_one {op} {t : TE} (h : PE X a t) : PE X (.BoolOp op [a] pos) t := fun pins s σ H Q I hw => BoolOp_one (h pins s σ H Q I hw)
theorem pe_and (ha : PE X a ta) (hb : PE X (.BoolOp .And (b :: rest) pos) tb) : PE X (.BoolOp .And (a :: b :: rest) pos) (tAndV ta tb) := by
  intro pins s σ H Q I h
  refine BoolOp_and (thn (ha pins s σ H _ I h) fun v s1 ⟨x, H1, I1, r1, q1⟩ => ?_)
  obtain ⟨c, rfl, q1⟩ := q1
  cases r1
  refine wpAny_truthy_bool ?_
  cases c with
  | true => exact hb pins s1 σ H1 Q I1 q1
  | false => exact ⟨.bl false, H1, I1, rfl, q1⟩
noncomputable def tIf (t : TT) (ta tb : TE) : TE := fun σ H Q => t σ H fun c H1 => if c = true then ta σ H1 Q else tb σ H1 Q
theorem pe_ifExp {c : Expr} (hc : PT X c tA) (ha : PE X a ta) (hb : PE X b tb) : PE X (.IfExp c a b pos) (tIf tA ta tb) := by
  intro pins s σ H Q I h
  refine wpAny_IfExp (thn (hc pins s σ H _ I h) fun d s1 ⟨H1, I1, q1⟩ => ?_)
  cases d with
  | true => exact ha pins s1 σ H1 Q I1 q1
  | false => exact hb pins s1 σ H1 Q I1 q1
end
end L2

namespace L2
open PySem PySem.Spec PyProof.Rows

noncomputable def SqL (K : PySem.W.Frag) (H : Hp) (a : Addr) (xs : List V) : Prop :=
  Rd H a (.lst xs) ∨
    ∃ (o : Obj) (its : Array Value) (n : Nat), K.lookup a = some o ∧ o.cls = .type "list" ∧ o.dict = none ∧ o.data = .seq its n ∧ its.size ≤ sizeLine ∧ Vals xs its.toList
noncomputable def SqT (K : PySem.W.Frag) (H : Hp) (a : Addr) (xs : List V) : Prop :=
  Rd H a (.tup xs) ∨
    ∃ (o : Obj) (its : Array Value) (n : Nat), K.lookup a = some o ∧ o.cls = .type "tuple" ∧ o.data = .seq its n ∧ its.size ≤ sizeLine ∧ Vals xs its.toList
noncomputable def absV : Value → Option V
  | .none => some .non
  | .bool b => some (.bl b)
  | .int i _ => some (.int i)
  | .str x _ => some (.str x)
  | .bytes b _ => some (.byt b)
  | .float b _ => some (.flt b)
  | .ref a => some (.ref a)
  | .type n => some (.ty n)
  | _ => none
theorem RelV.abs {x : V} {u : Value} (r : RelV x u) : absV u = some x := by
  cases x with
  | non => cases r; rfl
  | bl _ => cases r; rfl
  | int _ => obtain ⟨t, rfl⟩ := r; rfl
  | str _ => obtain ⟨t, rfl⟩ := r; rfl
  | byt _ => obtain ⟨t, rfl⟩ := r; rfl
  | flt _ => obtain ⟨t, rfl⟩ := r; rfl
  | ref _ => cases r; rfl
  | ty _ => cases r; rfl
theorem RelV.inj {x y : V} {u : Value} (r : RelV x u) (q : RelV y u) : x = y := Option.some.inj (r.abs.symm.trans q.abs)
theorem Vals.inj : ∀ {xs ys : List V} {us : List Value}, Vals xs us → Vals ys us → xs = ys
  | _, _, _, .nil, .nil => rfl
  | _, _, _, .cons r t, .cons r' t' => by rw [r.inj r', Vals.inj t t']
section
variable {X : Cx} {pins : List (Addr × Obj)} {σ : St} {H : Hp} {s : Shared} {a : Addr} {xs ys : List V}
theorem SqL.of {K : PySem.W.Frag} (h : H a = some (.lst xs)) : SqL K H a xs := .inl (.inl h)
theorem SqT.of {K : PySem.W.Frag} (h : H a = some (.tup xs)) : SqT K H a xs := .inl (.inl h)
theorem Inv.list (I : Inv X pins σ H s) (h : SqL X.K H a xs) : ∃ its : List Value, Vals xs its ∧ PlainL s.heap a its.toArray ∧ xs.length ≤ sizeLine := by
  rcases h with h | ⟨o, its, n, hk, hc, hd, hs, hz, r⟩
  · obtain ⟨z, its, n, r, e⟩ := h.ok I.hok
    exact ⟨its, r, ⟨_, n, e, rfl, rfl, rfl⟩, z⟩
  · refine ⟨its.toList, r, ⟨o, n, I.kIn a o hk, hc, hd, by simpa using hs⟩, ?_⟩
    have e := r.length
    simp only [Array.length_toList] at e
    omega
theorem Inv.tuple (I : Inv X pins σ H s) (h : SqT X.K H a xs) : ∃ its : List Value, Vals xs its ∧ IsTup s.heap a its.toArray ∧ xs.length ≤ sizeLine := by
  rcases h with h | ⟨o, its, n, hk, hc, hs, hz, r⟩
  · obtain ⟨z, its, r, p⟩ := h.ok I.hok
    exact ⟨its, r, p, z⟩
  · refine ⟨its.toList, r, ⟨o, I.kIn a o hk, hc, n, by simpa using hs⟩, ?_⟩
    have e := r.length
    simp only [Array.length_toList] at e
    omega
theorem Inv.list_inj (I : Inv X pins σ H s) (h : SqL X.K H a xs) (h' : SqL X.K H a ys) : xs = ys := by
  obtain ⟨its, r, ⟨o, n, e, _, _, d⟩, _⟩ := I.list h
  obtain ⟨its', r', ⟨o', n', e', _, _, d'⟩, _⟩ := I.list h'
  rw [e] at e'; cases e'
  rw [d] at d'
  injection d' with d1 _
  have : its = its' := by simpa using congrArg Array.toList d1
  subst this
  exact r.inj r'
theorem Inv.tuple_inj (I : Inv X pins σ H s) (h : SqT X.K H a xs) (h' : SqT X.K H a ys) : xs = ys := by
  obtain ⟨its, r, ⟨o, e, _, n, d⟩, _⟩ := I.tuple h
  obtain ⟨its', r', ⟨o', e', _, n', d'⟩, _⟩ := I.tuple h'
  rw [e] at e'; cases e'
  rw [d] at d'
  injection d' with d1 _
  have : its = its' := by simpa using congrArg Array.toList d1
  subst this
  exact r.inj r'
end

noncomputable abbrev Cx.wish (X : Cx) (E : Value → Shared → Prop) : Cx := { X with xe := E }
noncomputable abbrev Cx.nox (X : Cx) : Cx := X.wish fun _ _ => False
theorem Cx.Ok.wish {X : Cx} (ok : X.Ok) (E : Value → Shared → Prop) : (X.wish E).Ok :=
  ⟨ok.mod, ok.kind, ok.glob, ok.blt, ok.above, ok.inj, ok.has, ok.cab, ok.hd, ok.frames, ok.stk, ok.exf, ok.bs, ok.bsz, ok.noex, ok.exfs, ok.funs, ok.frf⟩
theorem Cx.Ok.unwish {X : Cx} {E : Value → Shared → Prop} (ok : (X.wish E).Ok) : X.Ok :=
  ⟨ok.mod, ok.kind, ok.glob, ok.blt, ok.above, ok.inj, ok.has, ok.cab, ok.hd, ok.frames, ok.stk, ok.exf, ok.bs, ok.bsz, ok.noex, ok.exfs, ok.funs, ok.frf⟩
section
variable {X : Cx} {pins : List (Addr × Obj)} {σ : St} {H : Hp} {s : Shared} {E : Value → Shared → Prop}
theorem Inv.wish (I : Inv X pins σ H s) (E : Value → Shared → Prop) : Inv (X.wish E) pins σ H s := ⟨I.ok.wish E, I.os, I.bare, I.base, I.loc, I.cell, I.free, I.freeC, I.pin, I.hok, I.len⟩
theorem Inv.unwish (I : Inv (X.wish E) pins σ H s) : Inv X pins σ H s := ⟨I.ok.unwish, I.os, I.bare, I.base, I.loc, I.cell, I.free, I.freeC, I.pin, I.hok, I.len⟩
theorem SP.unwish {D : Ends} {f : Flow} {s' : Shared} (h : SP (X.wish E) pins D f s') : SP X pins D f s' := by
  cases f with
  | next => obtain ⟨σ', H', I, q⟩ := h; exact ⟨σ', H', I.unwish, q⟩
  | brk => obtain ⟨σ', H', I, q⟩ := h; exact ⟨σ', H', I.unwish, q⟩
  | cont => obtain ⟨σ', H', I, q⟩ := h; exact ⟨σ', H', I.unwish, q⟩
  | ret u => obtain ⟨v, σ', H', I, r, q⟩ := h; exact ⟨v, σ', H', I.unwish, r, q⟩
theorem PSs.nox {st : List Stmt} {t : TS} (h : PSs X.nox st t) : PSs X st t := fun pins s σ H D I hw =>
  wpAny_mono (h pins s σ H D (I.wish _) hw) (fun _ _ q => q.unwish) fun _ _ z => False.elim z
end

section
variable {X : Cx} {st : Stmt} {rest : List Stmt} {t u : TS} {e : Expr} {te : TE} {pos : Pos}
noncomputable def tNext : TS := fun D σ H => D.nx σ H
noncomputable def tSeq (t u : TS) : TS := fun D σ H => t { D with nx := u D } σ H
theorem pss_nil : PSs X [] tNext := fun _ _ σ H _ I h => wpAny_execs_nil ⟨σ, H, I, h⟩
theorem pss_cons (h1 : PS X st t) (h2 : PSs X rest u) : PSs X (st :: rest) (tSeq t u) := by
  intro pins s σ H D I h
  refine wpAny_execs_cons (thn (h1 pins s σ H { D with nx := u D } I h) fun f s1 q => ?_)
  cases f with
  | next =>
    obtain ⟨σ', H', I', q⟩ := q
    exact h2 pins s1 σ' H' D I' q
  | ret v => exact q
  | brk => exact q
  | cont => exact q
theorem pss_one (h1 : PS X st t) : PSs X [st] t := by
  intro pins s σ H D I h
  refine wpAny_execs_cons (thn (h1 pins s σ H D I h) fun f s1 q => ?_)
  cases f with
  | next => exact wpAny_execs_nil q
  | ret v => exact q
  | brk => exact q
  | cont => exact q
theorem Inv.quiet {pins : List (Addr × Obj)} {σ : St} {H : Hp} {s : Shared} (I : Inv X pins σ H s) : interactive X.env = false := by simp [interactive, I.ok.kind]
noncomputable def tDrop (te : TE) : TS := fun D σ H => te σ H fun _ H1 => D.nx σ H1
theorem ps_expr (he : PE X e te) (hs : swapsWith e none pos.line X.env = pure false := by rfl) : PS X (.Expr e pos) (tDrop te) := by
  intro pins s σ H D I h
  exact wpAny_Expr_any (thn (he pins s σ H _ I h) fun v s1 ⟨x, H1, I1, r1, q1⟩ => ⟨σ, H1, I1, q1⟩) I.quiet hs
noncomputable def tRet (te : TE) : TS := fun D σ H => te σ H D.rt
theorem ps_ret (he : PE X e te) : PS X (.Return (some e) pos) (tRet te) := by
  intro pins s σ H D I h
  exact wpAny_Return_some (thn (he pins s σ H _ I h) fun v s1 ⟨x, H1, I1, r1, q1⟩ => ⟨x, σ, H1, I1, r1, q1⟩)
noncomputable def tIfS (c : TT) (t u : TS) : TS := fun D σ H => c σ H fun b H1 => if b = true then t D σ H1 else u D σ H1
theorem ps_if {c : Expr} {a b : List Stmt} {tc : TT} (hc : PT X c tc) (ha : PSs X a t) (hb : PSs X b u) : PS X (.If c a b pos) (tIfS tc t u) := by
  intro pins s σ H D I h
  refine wpAny_If (thn (hc pins s σ H _ I h) fun d s1 ⟨H1, I1, q1⟩ => ?_)
  cases d with
  | true => exact ha pins s1 σ H1 D I1 q1
  | false => exact hb pins s1 σ H1 D I1 q1
noncomputable def tNever : TS := fun _ _ _ => False
theorem ps_never : PS X st tNever := fun _ _ _ _ _ _ h => h.elim
theorem pss_never {sts : List Stmt} : PSs X sts tNever := fun _ _ _ _ _ _ h => h.elim
end

noncomputable abbrev TG := V → St → Hp → (St → Hp → Prop) → Prop
noncomputable abbrev TGs := List V → St → Hp → (St → Hp → Prop) → Prop
noncomputable def PG (X : Cx) (target : Expr) (t : TG) : Prop :=
  ∀ (pins : List (Addr × Obj)) (s : Shared) (σ : St) (H : Hp) (v : V) (u : Value) (Q : St → Hp → Prop), Inv X pins σ H s → RelV v u → t v σ H Q →
    wpAny (model X.prog X.w) X.A (assign target X.env u) (fun _ s' => ∃ σ' H', Inv X pins σ' H' s' ∧ Q σ' H') X.xe s
noncomputable def PGs (X : Cx) (ts : List Expr) (t : TGs) : Prop :=
  ∀ (pins : List (Addr × Obj)) (s : Shared) (σ : St) (H : Hp) (vs : List V) (us : List Value) (Q : St → Hp → Prop), Inv X pins σ H s → Vals vs us → t vs σ H Q →
    wpAny (model X.prog X.w) X.A (assignInOrder ((assignEach ts X.env).map (·.2)) us) (fun _ s' => ∃ σ' H', Inv X pins σ' H' s' ∧ Q σ' H') X.xe s
noncomputable abbrev TSet := V → V → V → Hp → (Hp → Prop) → Prop
noncomputable def PSet (X : Cx) (t : TSet) : Prop :=
  ∀ (pins : List (Addr × Obj)) (s : Shared) (σ : St) (H : Hp) (o i v : V) (ov iv u : Value) (Q : Hp → Prop), Inv X pins σ H s → RelV o ov → RelV i iv → RelV v u → t o i v H Q →
    wpAny (model X.prog X.w) X.A (setItem ov iv u) (fun _ s' => ∃ H', Inv X pins σ H' s' ∧ Q H') X.xe s
section
variable {X : Cx} {pos : Pos}
noncomputable def gName (i : Nat) : TG := fun v σ H Q => Q (σ.set i (some v)) H
theorem pg_name {i : Nat} {x : Str} (hN : X.N.Nodup) (hi : X.N[i]? = some x) (hx : Loc X.env.scope x) (hf : X.fn x = true ∨ X.env.scope.names.lookup x = some .local := by first | exact .inl rfl | exact .inr rfl | assumption) : PG X (.Name x pos) (gName i) := by
  intro pins s σ H v u Q I r h
  exact wpAny_assign_Name (store_ok I hN hi hx r (fun s' I' => ⟨_, H, I', h⟩) hf)
noncomputable def gNil : TGs := fun vs σ H Q => vs = [] ∧ Q σ H
noncomputable def gCons (t : TG) (u : TGs) : TGs := fun vs σ H Q => ∃ v r, vs = v :: r ∧ t v σ H fun σ' H' => u r σ' H' Q
theorem pgs_nil : PGs X [] gNil := by
  intro pins s σ H vs us Q I r h
  obtain ⟨e, h⟩ := h
  subst e
  cases r
  exact assignInOrder_nil ⟨σ, H, I, h⟩
theorem pgs_cons {e : Expr} {es : List Expr} {t : TG} {u : TGs} (h1 : PG X e t) (h2 : PGs X es u)
    (hs : (assignEach (e :: es) X.env).map (·.2) = assign e X.env :: (assignEach es X.env).map (·.2) := by rfl) : PGs X (e :: es) (gCons t u) := by
  intro pins s σ H vs us Q I r h
  obtain ⟨v, vr, e1, h⟩ := h
  subst e1
  cases r with
  | cons r rr =>
    rw [hs]
    refine assignInOrder_cons (thn (h1 pins s σ H _ _ _ I r h) fun _ s1 ⟨σ1, H1, I1, q1⟩ => ?_)
    exact h2 pins s1 σ1 H1 _ _ Q I1 rr q1
noncomputable def gTup (K : PySem.W.Frag) (n : Nat) (t : TGs) : TG := fun v σ H Q => ∃ a xs, v = .ref a ∧ SqT K H a xs ∧ xs.length = n ∧ t xs σ H Q
theorem pg_tup {es : List Expr} {k : Nat} {t : TGs} {n : Nat} (hc : X.calm = true) (h : PGs X es t)
    (hn : (assignEach es X.env).length = n := by rfl) (hst : (assignEach es X.env).findIdx? (·.1) = none := by rfl) : PG X (.Tuple es k pos) (gTup X.K n t) := by
  intro pins s σ H v u Q I r hw
  obtain ⟨a, xs, e1, hq, hl, hw⟩ := hw
  subst e1
  cases r
  obtain ⟨its, rv, ht, hz⟩ := I.tuple hq
  refine assign_Tuple_tuple (I.ok.hd hc) ht (by simp [hn, ← hl, rv.length]) hst fun h' hx => ?_
  have I1 : Inv X pins σ H { s with heap := h' } := I.kept (t' := s.toks) fun b o e => hx b o (Nat.ne_of_lt (Heap.lt_size e)) e
  exact h pins _ σ H xs _ Q I1 (by simpa using rv) hw
noncomputable def gSub (to ti : TE) (t : TSet) : TG := fun v σ H Q => to σ H fun o H1 => ti σ H1 fun i H2 => t o i v H2 fun H3 => Q σ H3
theorem pg_sub {o i : Expr} {to ti : TE} {t : TSet} (ho : PE X o to) (hi : PE X i ti) (hs : PSet X t)
    (ha : ∀ v, assign (.Subscript o i pos) X.env v = (do
      let ov ← holding [v] (eval o X.env)
      let iv ← holding [v, ov] (eval i X.env)
      standAt pos
      holding [v, ov, iv] (setItem ov iv v)
      release [v, ov, iv] []) := by intro _; rfl) : PG X (.Subscript o i pos) (gSub to ti t) := by
  intro pins s σ H v u Q I r h
  rw [ha]
  refine wpAny_bind (wpAny_holding (thn (ho pins s σ H _ I h) fun ov s1 ⟨x, H1, I1, r1, q1⟩ => ?_))
  refine wpAny_bind (wpAny_holding (thn (hi pins s1 σ H1 _ I1 q1) fun iv s2 ⟨y, H2, I2, r2, q2⟩ => ?_))
  refine wpAny_bind (wpAny_standAt (wpAny_bind (wpAny_holding (thn (hs pins s2 σ H2 x y v ov iv u _ I2 r1 r2 r q2) fun _ s3 ⟨H3, I3, q3⟩ => ?_))))
  exact wpAny_release ⟨σ, H3, I3, q3⟩
noncomputable def tAsg (te : TE) (g : TG) : TS := fun D σ H => te σ H fun x H1 => g x σ H1 D.nx
theorem ps_asg {tg e : Expr} {te : TE} {g : TG} (he : PE X e te) (hg : PG X tg g) (hs : swapsWithSole [tg] e pos.line X.env = pure false := by rfl) (hw : swappedStores [tg] e X.env = pure none := by rfl)
    (h1 : (assignEach [tg] X.env).map (·.2) = [assign tg X.env] := by rfl) : PS X (.Assign [tg] e pos) (tAsg te g) := by
  intro pins s σ H D I h
  refine wpAny_Assign_stores (thn (he pins s σ H _ I h) fun v s1 ⟨x, H1, I1, r1, q1⟩ => ?_) hs hw
  rw [h1]
  exact thn (hg pins s1 σ H1 x v _ I1 r1 q1) fun _ s2 q => q
theorem ps_set {i : Nat} {x : Str} {e : Expr} {te : TE} {pos' : Pos} (hN : X.N.Nodup) (hi : X.N[i]? = some x) (hx : Loc X.env.scope x) (he : PE X e te) (hs : swapsWith e (some (.Name x pos')) pos.line X.env = pure false := by rfl) (hf : X.fn x = true ∨ X.env.scope.names.lookup x = some .local := by first | exact .inl rfl | exact .inr rfl | assumption) :
    PS X (.Assign [.Name x pos'] e pos) (tAsg te (gName i)) := by
  intro pins s σ H D I h
  refine wpAny_Assign_Name (thn (he pins s σ H _ I h) fun v s1 ⟨y, H1, I1, r1, q1⟩ => ?_) hs
  exact store_ok I1 hN hi hx r1 (fun s2 I2 => ⟨_, H1, I2, q1⟩) hf
noncomputable def tPar (i j : Nat) (ta : TA) : TS := fun D σ H => ta σ H fun vs H1 => ∃ v w, vs = [v, w] ∧ D.nx ((σ.set i (some v)).set j (some w)) H1
theorem ps_par {i j : Nat} {x y : Str} {a b : Expr} {ta : TA} {px py pt : Pos} {kt k2 pt2} (hc : X.calm = true) (hN : X.N.Nodup) (hi : X.N[i]? = some x) (hj : X.N[j]? = some y) (hij : i ≠ j)
    (hx : X.env.scope.names.lookup x = some .local) (hy : X.env.scope.names.lookup y = some .local) (ha : PA X [a, b] ta)
    (hw : swappedStores [.Tuple [.Name x px, .Name y py] kt pt] (.Tuple [a, b] k2 pt2) X.env = pure (some [x, y]))
    (hs : swapsWithSole [.Tuple [.Name x px, .Name y py] kt pt] (.Tuple [a, b] k2 pt2) pos.line X.env = pure false := by rfl) :
    PS X (.Assign [.Tuple [.Name x px, .Name y py] kt pt] (.Tuple [a, b] k2 pt2) pos) (tPar i j ta) := by
  intro pins s σ H D I h
  rw [exec_Assign_arm]
  refine wpAny_bind (wpAny_standAt ?_)
  rw [hs]
  refine wpAny_bind (wpAny_pure ?_)
  rw [if_neg (by decide)]
  refine wpAny_bind (Tuple_ (thn (ha _ pins s σ H _ I h) fun us s1 ⟨vs, H1, I1, r1, q1⟩ => ?_))
  obtain ⟨v, w, e1, q1⟩ := q1
  subst e1
  obtain ⟨u1, u2, rfl, rv, rw'⟩ : ∃ u1 u2, us = [u1, u2] ∧ RelV v u1 ∧ RelV w u2 := by
    cases r1 with
    | cons p q =>
      cases q with
      | cons p' q' =>
        cases q'
        exact ⟨_, _, rfl, p, p'⟩
  refine wpAny_newObj_type ?_ (by show 2 ≤ sizeLine; decide)
  have I2 : Inv X pins σ H1 { s1 with heap := s1.heap.push { cls := .type "tuple", data := .seq [u1, u2].toArray } } := I1.kept (t' := s1.toks) fun b o e => Heap.get?_push_of_some _ e
  rw [hw]
  refine wpAny_bind (wpAny_pure ?_)
  show wpAny (model X.prog X.w) X.A (do rule "assign.swapped-stores"; let items ← unpackItems (.ref s1.heap.objs.size) 2 none; assignInOrder [fun v => bindName X.env y v, fun v => bindName X.env x v] items.reverse; pure Flow.next) _ _ _
  refine wpAny_bind (wpAny_rule (wpAny_bind (unpackItems_tuple (items := #[u1, u2]) (I.ok.hd hc) (IsTup.new s1.heap _) fun h' hx' => ?_)))
  have I3 := I2.kept (h' := h') (t' := s1.toks) fun b o e => hx' b o (Nat.ne_of_lt (Heap.lt_size e)) e
  show wpAny _ _ (assignInOrder [fun v => bindName X.env y v, fun v => bindName X.env x v] [u2, u1] >>= fun _ => pure Flow.next) _ _ _
  refine wpAny_bind (assignInOrder_cons (wpAny_bindName (store_ok I3 hN hj (.inl hy) rw' (fun s2 I4 => ?_) (.inr hy))))
  refine assignInOrder_cons (wpAny_bindName (store_ok I4 hN hi (.inl hx) rv (fun s3 I5 => assignInOrder_nil (wpAny_pure ?_)) (.inr hx)))
  rw [List.set_comm _ _ (Ne.symm hij)] at I5
  exact ⟨_, H1, I5, q1⟩
end

section
variable {X : Cx} {pos : Pos}
noncomputable def tWhile (c : TT) (tb : TS) : TS := fun D σ H => ∃ W : Nat → St → Hp → Prop, (∃ m, W m σ H) ∧ ∀ m σ H, W m σ H →
  c σ H fun b H1 => if b = true then ∃ N : St → Hp → Prop, (∀ σ' H', N σ' H' → ∃ m', m' < m ∧ W m' σ' H') ∧ tb { D with nx := N, ct := N, bk := D.nx } σ H1 else D.nx σ H1
theorem ps_while {c : Expr} {body : List Stmt} {tc : TT} {tb : TS} (hp : PassesOwn (model X.prog X.w) X.A X.env X.xe) (hc : PT X c tc) (hb : PSs X body tb) : PS X (.While c body [] pos) (tWhile tc tb) := by
  intro pins s σ H D I h
  obtain ⟨W, ⟨m0, w0⟩, turn⟩ := h
  refine wpAny_While (codeAny_whileLoop (fun n s' => ∃ σ' H', Inv X pins σ' H' s' ∧ W n σ' H') ?_ m0 ⟨σ, H, I, w0⟩)
  rintro n s1 ⟨σ1, H1, I1, w1⟩
  refine wpAny_passesOwn hp (thn (hc pins s1 σ1 H1 _ I1 (turn n σ1 H1 w1)) fun b s2 ⟨H2, I2, q2⟩ => ?_)
  cases b with
  | true =>
    obtain ⟨N, hN, q2⟩ := q2
    rw [if_pos rfl]
    refine wpAny_passesOwn hp (thn (hb pins s2 σ1 H2 _ I2 q2) fun f s3 q3 => ?_)
    cases f with
    | next =>
      obtain ⟨σ3, H3, I3, n3⟩ := q3
      obtain ⟨m', hm, w3⟩ := hN σ3 H3 n3
      exact ⟨m', hm, σ3, H3, I3, w3⟩
    | cont =>
      obtain ⟨σ3, H3, I3, n3⟩ := q3
      obtain ⟨m', hm, w3⟩ := hN σ3 H3 n3
      exact ⟨m', hm, σ3, H3, I3, w3⟩
    | brk => exact q3
    | ret v => exact q3
  | false =>
    rw [if_neg Bool.false_ne_true]
    exact wpAny_execs_nil ⟨σ1, H2, I2, q2⟩
end

structure It where
  go : Nat → Hp → Prop
  yld : Nat → Hp → V → Hp → Prop
  stop : Nat → Hp → Prop
noncomputable def FpOk (X : Cx) (pins : List (Addr × Obj)) (H : Hp) (b : Addr) : Prop :=
  H b = none ∧ b ≠ X.env.locals ∧ b ∉ X.fs ∧ (b ∈ X.ex ∨ X.s₀.heap.objs.size ≤ b) ∧ (∀ x c, X.env.cells.lookup x = some c → c ≠ b) ∧ ∀ p ∈ X.pn ++ pins, p.1 ≠ b
theorem Inv.fpOk {X : Cx} {pins : List (Addr × Obj)} {σ : St} {H H' : Hp} {s : Shared} {b : Addr} (I : Inv X pins σ H s) (hb : s.heap.objs.size ≤ b) (hn : H' b = none) : FpOk X pins H' b := by
  refine ⟨hn, Nat.ne_of_gt (Nat.lt_of_lt_of_le I.lt hb), I.nofs hb, .inr (Nat.le_trans I.sz hb), fun x c e z => ?_, fun p hp z => ?_⟩
  · obtain ⟨v, q⟩ := I.cell x c e
    exact absurd (Nat.lt_of_lt_of_le q.lt (by rw [z]; exact hb)) (Nat.lt_irrefl _)
  · exact absurd (Nat.lt_of_lt_of_le (Heap.lt_size (I.pin p hp).1) (by rw [z]; exact hb)) (Nat.lt_irrefl _)
structure Turn (P : Program) (w : World) (K : PySem.W.Frag) (tg : Expr) (J : It) (fp : List Addr) (it : Addr) (tn : Nat → Heap → Prop) : Prop where
  mem : it ∈ fp
  obj : ∀ i h, tn i h → ∀ b ∈ fp, ∃ o, h.get? b = some o ∧ ∀ v, o.data ≠ .cell v
  keep : ∀ i h h', tn i h → (∀ b ∈ fp, ∀ o, h.get? b = some o → h'.get? b = some o) → tn i h'
  item : ∀ (X : Cx), X.prog = P → X.w = w → X.K = K → X.calm = true → ∀ (i : Nat) (pins : List (Addr × Obj)) (s : Shared) (σ : St) (H : Hp) (E : Value → Shared → Prop), Inv X pins σ H s → (∀ b ∈ fp, FpOk X pins H b) → tn i s.heap → J.go i H →
    wpAny (model P w) X.A (pyNext (.ref it)) (fun r s1 => ∃ u, r = some u ∧
      wpAny (model P w) X.A (letOwnedTupleGo tg (.ref it) u) (fun _ s2 => ∃ x H', Inv X pins σ H' s2 ∧ RelV x u ∧ J.yld i H x H' ∧ tn (i + 1) s2.heap ∧ ∀ b ∈ fp, H' b = none) E s1) E s
  done : ∀ (X : Cx), X.prog = P → X.w = w → X.K = K → X.calm = true → ∀ (i : Nat) (pins : List (Addr × Obj)) (s : Shared) (σ : St) (H : Hp) (E : Value → Shared → Prop), Inv X pins σ H s → (∀ b ∈ fp, FpOk X pins H b) → tn i s.heap → J.stop i H →
    wpAny (model P w) X.A (pyNext (.ref it)) (fun r s1 => r = none ∧ Inv X pins σ H s1) E s
  self : ∀ (A : Around) (i : Nat) (s : Shared) (Q : Value → Shared → Prop) (E : Value → Shared → Prop), tn i s.heap → Q (.ref it) s → wpAny (model P w) A (pyIter (.ref it)) Q E s
noncomputable abbrev TI := St → Hp → (It → Hp → Prop) → Prop
noncomputable def PIE (X : Cx) (pins : List (Addr × Obj)) (σ : St) (tg : Expr) (R : It → Hp → Prop) (itv : Value) (s2 : Shared) : Prop :=
  ∃ (it : Addr) (fp : List Addr) (tn : Nat → Heap → Prop) (J : It) (H' : Hp), itv = .ref it ∧ Inv X pins σ H' s2 ∧ Turn X.prog X.w X.K tg J fp it tn ∧ tn 0 s2.heap ∧ (∀ b ∈ fp, FpOk X pins H' b) ∧ R J H'
noncomputable def PI (X : Cx) (tg iter : Expr) (wi : TI) : Prop :=
  ∀ (pins : List (Addr × Obj)) (s : Shared) (σ : St) (H : Hp) (R : It → Hp → Prop), Inv X pins σ H s → wi σ H R →
    wpAny (model X.prog X.w) X.A (eval iter X.env) (fun v s1 => wpAny (model X.prog X.w) X.A (pyIter v) (PIE X pins σ tg R) X.xe s1) X.xe s

theorem go_of {M : Model} {A : Around} {E : Value → Shared → Prop} {s : Shared} {tg : Expr} {it : Addr} {u : Value} {o : Obj} {n : String} {vs : Array Value} {Q : Unit → Shared → Prop} (ho : s.heap.get? it = some o) (hc : o.cls = .type n) (hd : o.data = .fields vs)
    (hn : ["enumerate", "zip", "dict_itemiterator", "dict_reverseitemiterator", "odict_iterator", "itertools.zip_longest", "itertools.pairwise"].contains n = false) (hQ : Q () s) : wpAny M A (letOwnedTupleGo tg (.ref it) u) Q E s := by
  unfold letOwnedTupleGo
  cases tg <;> first
    | exact wpAny_pure hQ
    | (cases u <;> first
        | exact wpAny_pure hQ
        | (refine wpAny_bind (wpAny_load ho ?_)
           rw [hc, hd]
           show wpAny M A (if (["enumerate", "zip", "dict_itemiterator", "dict_reverseitemiterator", "odict_iterator", "itertools.zip_longest", "itertools.pairwise"].contains n && vs[0]? == some (rawInt _)) = true then _ else _) Q E s
           rw [if_neg (by intro h; rw [hn, Bool.false_and] at h; cases h)]
           exact wpAny_pure hQ))

noncomputable def Itl (K : PySem.W.Frag) (a : Addr) : It :=
  ⟨fun i H => ∃ xs x, SqL K H a xs ∧ xs[i]? = some x, fun i H x H' => H' = H ∧ ∀ xs, SqL K H a xs → xs[i]? = some x, fun i H => ∃ xs, SqL K H a xs ∧ xs.length ≤ i⟩
noncomputable def Itt (K : PySem.W.Frag) (a : Addr) : It :=
  ⟨fun i H => ∃ xs x, SqT K H a xs ∧ xs[i]? = some x, fun i H x H' => H' = H ∧ ∀ xs, SqT K H a xs → xs[i]? = some x, fun i H => ∃ xs, SqT K H a xs ∧ xs.length ≤ i⟩
noncomputable def Itr (lo : Int) (n : Nat) : It := ⟨fun i _ => i < n, fun i H x H' => H' = H ∧ x = .int (lo + i), fun i _ => n ≤ i⟩
theorem turn_list {P : Program} {w : World} {K : PySem.W.Frag} {tg : Expr} (a it : Addr) : Turn P w K tg (Itl K a) [it] it (fun i h => h.IsListIter it a i) where
  mem := by simp
  obj := fun i h st b hb => by
    have e : b = it := by simpa using hb
    subst e
    obtain ⟨o, e, c, d⟩ := st
    exact ⟨o, e, fun v z => by rw [d] at z; cases z⟩
  keep := fun i h h' st k => st.at fun o e => k it (by simp) o e
  item := by
    intro X hP hw hK hc i pins s σ H E I hf st hg
    subst hP hw hK
    obtain ⟨xs, x, hq, hx⟩ := hg
    obtain ⟨its, rv, p, hz⟩ := I.list hq
    obtain ⟨u, hu, ru⟩ := rv.get hx
    obtain ⟨f0, f1, f2, f3, f4, f5⟩ := hf it (by simp)
    refine wpAny_pyNext_list_item st p.isList (x := u) (by simpa using hu) fun h' st' sb => ?_
    have I1 : Inv X pins σ H { s with heap := h' } := I.turned (t' := s.toks) (fun b o hb e => (sb.2 b hb).trans e) f0 f1 f3 f4 f5
    obtain ⟨o, e, c, d⟩ := id st'
    exact ⟨u, rfl, go_of (s := { s with heap := h' }) e c d (by decide) ⟨x, H, I1, ru, ⟨rfl, fun ys hy => by rw [I.list_inj hy hq]; exact hx⟩, st', fun b hb => (hf b hb).1⟩⟩
  done := by
    intro X hP hw hK hc i pins s σ H E I hf st hg
    subst hP hw hK
    obtain ⟨xs, hq, hx⟩ := hg
    obtain ⟨its, rv, p, hz⟩ := I.list hq
    obtain ⟨f0, f1, f2, f3, f4, f5⟩ := hf it (by simp)
    have hl := rv.length
    exact wpAny_pyNext_list_end (I.ok.hd hc) st p.isList (by simp; omega) fun h' eb => ⟨rfl, I.turned (t' := s.toks) (fun b o hb e => eb b o hb e) f0 f1 f3 f4 f5⟩
  self := fun _ _ _ _ _ st h => wpAny_pyIter_listiter st h
theorem turn_tuple {P : Program} {w : World} {K : PySem.W.Frag} {tg : Expr} (a it : Addr) : Turn P w K tg (Itt K a) [it] it (fun i h => h.IsTupleIter it a i) where
  mem := by simp
  obj := fun i h st b hb => by
    have e : b = it := by simpa using hb
    subst e
    obtain ⟨o, e, c, d⟩ := st
    exact ⟨o, e, fun v z => by rw [d] at z; cases z⟩
  keep := fun i h h' st k => st.at fun o e => k it (by simp) o e
  item := by
    intro X hP hw hK hc i pins s σ H E I hf st hg
    subst hP hw hK
    obtain ⟨xs, x, hq, hx⟩ := hg
    obtain ⟨its, rv, p, hz⟩ := I.tuple hq
    obtain ⟨u, hu, ru⟩ := rv.get hx
    obtain ⟨f0, f1, f2, f3, f4, f5⟩ := hf it (by simp)
    refine wpAny_pyNext_tuple_item st (show s.heap.IsTuple a its.toArray from p) (x := u) (by simpa using hu) fun h' st' sb => ?_
    have I1 : Inv X pins σ H { s with heap := h' } := I.turned (t' := s.toks) (fun b o hb e => (sb.2 b hb).trans e) f0 f1 f3 f4 f5
    obtain ⟨o, e, c, d⟩ := id st'
    exact ⟨u, rfl, go_of (s := { s with heap := h' }) e c d (by decide) ⟨x, H, I1, ru, ⟨rfl, fun ys hy => by rw [I.tuple_inj hy hq]; exact hx⟩, st', fun b hb => (hf b hb).1⟩⟩
  done := by
    intro X hP hw hK hc i pins s σ H E I hf st hg
    subst hP hw hK
    obtain ⟨xs, hq, hx⟩ := hg
    obtain ⟨its, rv, p, hz⟩ := I.tuple hq
    obtain ⟨f0, f1, f2, f3, f4, f5⟩ := hf it (by simp)
    have hl := rv.length
    exact wpAny_pyNext_tuple_end (I.ok.hd hc) st (show s.heap.IsTuple a its.toArray from p) (by simp; omega) fun h' eb => ⟨rfl, I.turned (t' := s.toks) (fun b o hb e => eb b o hb e) f0 f1 f3 f4 f5⟩
  self := fun _ _ _ _ _ st h => wpAny_pyIter_tupleiter st h
theorem turn_range {P : Program} {w : World} {K : PySem.W.Frag} {tg : Expr} (it : Addr) (lo : Int) (n : Nat) : Turn P w K tg (Itr lo n) [it] it (fun i h => IsRangeIter h it (lo + (i : Nat) * 1) ((n : Int) - (i : Nat)) 1) where
  mem := by simp
  obj := fun i h st b hb => by
    have e : b = it := by simpa using hb
    subst e
    exact ⟨_, st, fun v z => by
      have z' : Data.fields _ = Data.cell v := z
      cases z'⟩
  keep := fun i h h' st k => k it (by simp) _ st
  item := by
    intro X hP hw hK hc i pins s σ H E I hf st hg
    subst hP hw hK
    obtain ⟨f0, f1, f2, f3, f4, f5⟩ := hf it (by simp)
    have W := Walks.range (prog := X.prog) (w := X.w) (I.ok.hd hc) it lo 1 n
    refine W.item i s _ _ hg st fun v h' tk hv st' kk => ?_
    obtain ⟨t, rfl⟩ := hv
    have I1 : Inv X pins σ H { s with heap := h', toks := tk } := I.turned (fun b o hb e => kk b o (by simpa using hb) e) f0 f1 f3 f4 f5
    refine ⟨_, rfl, go_of (s := { s with heap := h', toks := tk }) (n := "range_iterator") st' rfl rfl (by decide) ⟨.int (lo + i), H, I1, ⟨t, ?_⟩, ⟨rfl, rfl⟩, st', fun b hb => (hf b hb).1⟩⟩
    rw [Int.mul_one]
  done := by
    intro X hP hw hK hc i pins s σ H E I hf st hg
    subst hP hw hK
    obtain ⟨f0, f1, f2, f3, f4, f5⟩ := hf it (by simp)
    exact wpAny_pyNext_range_end (I.ok.hd hc) st (by have : n ≤ i := hg; omega) fun h' eb => ⟨rfl, I.turned (t' := s.toks) (fun b o hb e => eb b o hb e) f0 f1 f3 f4 f5⟩
  self := fun _ _ _ _ _ st h => wpAny_pyIter_rangeiter st h
end L2

namespace L2
open PySem PySem.Spec PyProof.Rows
section
variable {X : Cx} {tg : Expr}
noncomputable def iList (K : PySem.W.Frag) (tl : TE) : TI := fun σ H R => tl σ H fun x H1 => ∃ a, x = .ref a ∧ (∃ xs, SqL K H1 a xs) ∧ R (Itl K a) H1
noncomputable def iTup (K : PySem.W.Frag) (tl : TE) : TI := fun σ H R => tl σ H fun x H1 => ∃ a, x = .ref a ∧ (∃ xs, SqT K H1 a xs) ∧ R (Itt K a) H1
theorem pi_list {l : Expr} {tl : TE} (hl : PE X l tl) : PI X tg l (iList X.K tl) := by
  intro pins s σ H R I h
  refine thn (hl pins s σ H _ I h) fun v s1 ⟨x, H1, I1, r1, q1⟩ => ?_
  obtain ⟨a, e, ⟨xs, hq⟩, q⟩ := q1
  subst e
  cases r1
  obtain ⟨its, rv, p, hz⟩ := I1.list hq
  refine wpAny_pyIter_list p.isList ?_
  refine ⟨s1.heap.objs.size, [s1.heap.objs.size], _, _, H1, rfl, I1.kept (t' := s1.toks) fun b o e => Heap.get?_push_of_some _ e, turn_list a _, ⟨_, Heap.get?_push_size _ rfl, rfl, rfl⟩, fun b hb => ?_, q⟩
  have e : b = s1.heap.objs.size := by simpa using hb
  subst e
  exact I1.fpOk (Nat.le_refl _) (I1.hok.fresh (Nat.le_refl _))
theorem pi_tup {l : Expr} {tl : TE} (hl : PE X l tl) : PI X tg l (iTup X.K tl) := by
  intro pins s σ H R I h
  refine thn (hl pins s σ H _ I h) fun v s1 ⟨x, H1, I1, r1, q1⟩ => ?_
  obtain ⟨a, e, ⟨xs, hq⟩, q⟩ := q1
  subst e
  cases r1
  obtain ⟨its, rv, p, hz⟩ := I1.tuple hq
  refine wpAny_pyIter_tuple (show s1.heap.IsTuple a its.toArray from p) ?_
  refine ⟨s1.heap.objs.size, [s1.heap.objs.size], _, _, H1, rfl, I1.kept (t' := s1.toks) fun b o e => Heap.get?_push_of_some _ e, turn_tuple a _, ⟨_, Heap.get?_push_size _ rfl, rfl, rfl⟩, fun b hb => ?_, q⟩
  have e : b = s1.heap.objs.size := by simpa using hb
  subst e
  exact I1.fpOk (Nat.le_refl _) (I1.hok.fresh (Nat.le_refl _))
theorem range_it {pins : List (Addr × Obj)} {σ : St} {H : Hp} {s : Shared} {R : It → Hp → Prop} {E : Value → Shared → Prop} {lo hi : Int} {t u v : Tok} {tk : Nat} (I : Inv X pins σ H s) (h1 : -(2 ^ 62) ≤ lo) (h2 : lo < 2 ^ 62) (h3 : -(2 ^ 62) ≤ hi) (h4 : hi < 2 ^ 62)
    (q : R (Itr lo (hi - lo).toNat) H) : wpAny (model X.prog X.w) X.A (pyIter (.ref s.heap.objs.size)) (PIE X pins σ tg R) E { s with heap := s.heap.push { cls := .type "range", data := .fields #[.int lo t, .int hi u, .int 1 v] }, toks := tk } := by
  refine wpAny_pyIter_range (IsRange.new ..) (small_one h1 h2 h3 h4) ?_
  have I1 : Inv X pins σ H { s with heap := s.heap.push { cls := .type "range", data := .fields #[.int lo t, .int hi u, .int 1 v] }, toks := tk } := I.kept fun b o e => Heap.get?_push_of_some _ e
  refine ⟨(s.heap.push { cls := .type "range", data := .fields #[.int lo t, .int hi u, .int 1 v] }).objs.size, [(s.heap.push { cls := .type "range", data := .fields #[.int lo t, .int hi u, .int 1 v] }).objs.size], _, _, H, rfl,
    I1.kept (t' := tk) fun b o e => Heap.get?_push_of_some _ e, turn_range _ lo (hi - lo).toNat, ?_, fun b hb => ?_, q⟩
  · have e1 : lo + ((0 : Nat) : Int) * 1 = lo := by simp
    have e2 : (((hi - lo).toNat : Nat) : Int) - ((0 : Nat) : Int) = Builtin.Range.rangeSize lo hi 1 := by rw [rangeSize_one]; split <;> omega
    show IsRangeIter _ _ (lo + ((0 : Nat) : Int) * 1) ((((hi - lo).toNat : Nat) : Int) - ((0 : Nat) : Int)) 1
    rw [e1, e2]
    exact Heap.get?_push_size _ rfl
  · have e : b = (s.heap.push { cls := .type "range", data := .fields #[.int lo t, .int hi u, .int 1 v] }).objs.size := by simpa using hb
    subst e
    exact I1.fpOk (Nat.le_refl _) (I1.hok.fresh (Nat.le_refl _))
noncomputable def iRng1 (ta : TA) : TI := fun σ H R => ta σ H fun vs H1 => ∃ j : Int, vs = [.int j] ∧ -(2 ^ 62) ≤ j ∧ j < 2 ^ 62 ∧ R (Itr 0 j.toNat) H1
theorem pi_range1 {a : Expr} {ta : TA} {p pos : Pos} (hg : Gl X "range") (hm : X.mg "range" = none) (ha : PA X [a] ta) (hs : starEach [a] X.env = [(false, eval a X.env)] := by rfl) : PI X tg (.Call (.Name "range" p) [a] [] pos) (iRng1 ta) := by
  intro pins s σ H R I h
  refine Call_ (ld_blt I hg hm boot_range (PyProof.Rows.callWith_type1 (thn (ha pos pins s σ H _ I h) fun us s1 ⟨vs, H1, I1, r1, q1⟩ => ?_) hs rfl))
  obtain ⟨j, e, q1, q2, q⟩ := q1
  subst e
  cases r1 with
  | cons r rr =>
    cases rr
    obtain ⟨t, rfl⟩ := r
    exact call_range_1 (range_it I1 (by omega) (by omega) q1 q2 (by simpa using q))

noncomputable def tFor (wi : TI) (g : TG) (tb : TS) : TS := fun D σ H => wi σ H fun J H1 => ∃ W : Nat → Nat → St → Hp → Prop, (∃ m, W 0 m σ H1) ∧ ∀ i m σ H, W i m σ H →
  (J.stop i H ∧ D.nx σ H) ∨ (J.go i H ∧ ∃ N : St → Hp → Prop, (∀ σ' H', N σ' H' → ∃ m', m' < m ∧ W (i + 1) m' σ' H') ∧ ∀ x H', J.yld i H x H' → g x σ H' fun σ2 H2 => tb { D with nx := N, ct := N, bk := D.nx } σ2 H2)
noncomputable def pinsAt (fp : List Addr) (h : Heap) : List (Addr × Obj) := fp.filterMap fun b => (h.get? b).map fun o => (b, o)
theorem mem_pinsAt {fp : List Addr} {h : Heap} {b : Addr} {o : Obj} (hb : b ∈ fp) (e : h.get? b = some o) : (b, o) ∈ pinsAt fp h := List.mem_filterMap.mpr ⟨b, hb, by rw [e]; rfl⟩
theorem of_pinsAt {fp : List Addr} {h : Heap} {p : Addr × Obj} (hp : p ∈ pinsAt fp h) : p.1 ∈ fp ∧ h.get? p.1 = some p.2 := by
  obtain ⟨b, hb, e⟩ := List.mem_filterMap.mp hp
  cases q : h.get? b with
  | none => rw [q] at e; cases e
  | some o =>
    rw [q] at e
    have e' : (b, o) = p := Option.some.inj e
    subst e'
    exact ⟨hb, q⟩
theorem Inv.pinned {pins : List (Addr × Obj)} {σ : St} {H : Hp} {s : Shared} {fp : List Addr} (I : Inv X pins σ H s) (hf : ∀ b ∈ fp, FpOk X pins H b) (ho : ∀ b ∈ fp, ∃ o, s.heap.get? b = some o ∧ ∀ v, o.data ≠ .cell v) : Inv X (pins ++ pinsAt fp s.heap) σ H s :=
  I.pins_of fun p hp => (List.mem_append.mp hp).elim (fun z => I.pin p (List.mem_append_right _ z)) fun z => by
    obtain ⟨hb, e⟩ := of_pinsAt z
    obtain ⟨f0, f1, f2, _⟩ := hf p.1 hb
    obtain ⟨o, e', d⟩ := ho p.1 hb
    rw [e] at e'; cases e'
    exact ⟨e, f0, f1, f2, d⟩
theorem Inv.unpinned {pins pl : List (Addr × Obj)} {σ : St} {H : Hp} {s : Shared} (I : Inv X (pins ++ pl) σ H s) : Inv X pins σ H s := I.pins_of fun p hp => I.pin p (List.mem_append_right _ (List.mem_append_left _ hp))
theorem ps_for {iter : Expr} {body : List Stmt} {wi : TI} {g : TG} {tb : TS} {pos : Pos} (hp : PassesOwn (model X.prog X.w) X.A X.env X.xe) (hc : X.calm = true) (hi : PI X tg iter wi) (hg : PG X tg g) (hb : PSs X body tb)
    (hs : ∀ x, foldedSetIterable iter X.env x = pure x := by intro _; rfl) : PS X (.For tg iter body [] pos) (tFor wi g tb) := by
  intro pins s σ H D I h
  refine wpAny_For (thn (hi pins s σ H _ I h) fun v s1 h1 => thn h1 fun itv s2 h2 => ?_) hs
  obtain ⟨it, fp, tn, J, H2, e, I2, T, st2, f2, W, ⟨m0, w0⟩, turn⟩ := h2
  subst e
  -- what stays true of the iterator's objects through the loop
  have stat : ∀ {H' : Hp}, (∀ b ∈ fp, H' b = none) → ∀ b ∈ fp, FpOk X pins H' b := fun hn b hb => ⟨hn b hb, (f2 b hb).2⟩
  refine codeAny_forLoop_any (fun n s' => ∃ i σ' H', Inv X pins σ' H' s' ∧ tn i s'.heap ∧ (∀ b ∈ fp, H' b = none) ∧ W i n σ' H') ?_ m0 ⟨0, σ, H2, I2, st2, fun b hb => (f2 b hb).1, w0⟩
  rintro n s3 ⟨i, σ3, H3, I3, st3, fr3, w3⟩
  rcases turn i n σ3 H3 w3 with ⟨stop, qn⟩ | ⟨go, N, hN, step⟩
  · refine wpAny_passesOwn hp (thn (T.done X rfl rfl rfl hc i pins s3 σ3 H3 X.xe I3 (stat fr3) st3 stop) fun r s4 ⟨hr, I4⟩ => ?_)
    subst hr
    exact wpAny_execs_nil ⟨σ3, H3, I4, qn⟩
  · refine wpAny_passesOwn hp (thn (T.item X rfl rfl rfl hc i pins s3 σ3 H3 X.xe I3 (stat fr3) st3 go) fun r s4 ⟨u, hr, h4⟩ => ?_)
    subst hr
    refine wpAny_passesOwn hp (thn h4 fun _ s5 ⟨x, H5, I5, r5, y5, st5, fr5⟩ => ?_)
    have I5' := I5.pinned (stat fr5) (T.obj _ _ st5)
    refine wpAny_passesOwn hp (thn (hg _ s5 σ3 H5 x u _ I5' r5 (step x H5 y5)) fun _ s6 ⟨σ6, H6, I6, q6⟩ => ?_)
    refine wpAny_passesOwn hp (thn (hb _ s6 σ6 H6 _ I6 q6) fun f s7 q7 => ?_)
    have again : ∀ {σ7 : St} {H7 : Hp}, Inv X (pins ++ pinsAt fp s5.heap) σ7 H7 s7 → N σ7 H7 → ∃ m, m < n ∧ ∃ i σ' H', Inv X pins σ' H' s7 ∧ tn i s7.heap ∧ (∀ b ∈ fp, H' b = none) ∧ W i m σ' H' := fun {σ7 H7} I7 n7 => by
      obtain ⟨m', hm, w7⟩ := hN σ7 H7 n7
      refine ⟨m', hm, i + 1, σ7, H7, I7.unpinned, T.keep _ _ _ st5 fun b hb o e => (I7.pin (b, o) (List.mem_append_right _ (List.mem_append_right _ (mem_pinsAt hb e)))).1, fun b hb => ?_, w7⟩
      obtain ⟨o, e, d⟩ := T.obj _ _ st5 b hb
      exact (I7.pin (b, o) (List.mem_append_right _ (List.mem_append_right _ (mem_pinsAt hb e)))).2.1
    cases f with
    | next => obtain ⟨σ7, H7, I7, n7⟩ := q7; exact again I7 n7
    | cont => obtain ⟨σ7, H7, I7, n7⟩ := q7; exact again I7 n7
    | brk => obtain ⟨σ7, H7, I7, q7⟩ := q7; exact ⟨σ7, H7, I7.unpinned, q7⟩
    | ret v => obtain ⟨x7, σ7, H7, I7, r7, q7⟩ := q7; exact ⟨x7, σ7, H7, I7.unpinned, r7, q7⟩
end

theorem for_list {K : PySem.W.Frag} {a : Addr} {xs : List V} {g : TG} {tb : TS} {D : Ends} {σ : St} {H : Hp} (Pv : Nat → St → Hp → Prop) (h0 : Pv 0 σ H) (hl : ∀ i σ H, i ≤ xs.length → Pv i σ H → SqL K H a xs)
    (hs : ∀ i x σ H, xs[i]? = some x → Pv i σ H → g x σ H fun σ2 H2 => tb { D with nx := Pv (i + 1), ct := Pv (i + 1), bk := D.nx } σ2 H2) (hd : ∀ σ H, Pv xs.length σ H → D.nx σ H) :
    ∃ W : Nat → Nat → St → Hp → Prop, (∃ m, W 0 m σ H) ∧ ∀ i m σ H, W i m σ H →
      ((Itl K a).stop i H ∧ D.nx σ H) ∨ ((Itl K a).go i H ∧ ∃ N : St → Hp → Prop, (∀ σ' H', N σ' H' → ∃ m', m' < m ∧ W (i + 1) m' σ' H') ∧ ∀ x H', (Itl K a).yld i H x H' → g x σ H' fun σ2 H2 => tb { D with nx := N, ct := N, bk := D.nx } σ2 H2) := by
  refine ⟨fun i m σ H => m = xs.length - i ∧ i ≤ xs.length ∧ Pv i σ H, ⟨xs.length, by simp, Nat.zero_le _, h0⟩, ?_⟩
  rintro i m σ H ⟨rfl, hi, p⟩
  have q := hl i σ H hi p
  by_cases hlt : i < xs.length
  · refine .inr ⟨⟨xs, xs[i], q, by simp [hlt]⟩, Pv (i + 1), fun σ' H' p' => ⟨xs.length - (i + 1), by omega, rfl, hlt, p'⟩, fun x H' y => ?_⟩
    obtain ⟨e, y⟩ := y
    subst e
    exact hs i x σ _ (y xs q) p
  · have e : i = xs.length := by omega
    subst e
    exact .inl ⟨⟨xs, q, Nat.le_refl _⟩, hd σ H p⟩
theorem for_tup {K : PySem.W.Frag} {a : Addr} {xs : List V} {g : TG} {tb : TS} {D : Ends} {σ : St} {H : Hp} (Pv : Nat → St → Hp → Prop) (h0 : Pv 0 σ H) (hl : ∀ i σ H, i ≤ xs.length → Pv i σ H → SqT K H a xs)
    (hs : ∀ i x σ H, xs[i]? = some x → Pv i σ H → g x σ H fun σ2 H2 => tb { D with nx := Pv (i + 1), ct := Pv (i + 1), bk := D.nx } σ2 H2) (hd : ∀ σ H, Pv xs.length σ H → D.nx σ H) :
    ∃ W : Nat → Nat → St → Hp → Prop, (∃ m, W 0 m σ H) ∧ ∀ i m σ H, W i m σ H →
      ((Itt K a).stop i H ∧ D.nx σ H) ∨ ((Itt K a).go i H ∧ ∃ N : St → Hp → Prop, (∀ σ' H', N σ' H' → ∃ m', m' < m ∧ W (i + 1) m' σ' H') ∧ ∀ x H', (Itt K a).yld i H x H' → g x σ H' fun σ2 H2 => tb { D with nx := N, ct := N, bk := D.nx } σ2 H2) := by
  refine ⟨fun i m σ H => m = xs.length - i ∧ i ≤ xs.length ∧ Pv i σ H, ⟨xs.length, by simp, Nat.zero_le _, h0⟩, ?_⟩
  rintro i m σ H ⟨rfl, hi, p⟩
  have q := hl i σ H hi p
  by_cases hlt : i < xs.length
  · refine .inr ⟨⟨xs, xs[i], q, by simp [hlt]⟩, Pv (i + 1), fun σ' H' p' => ⟨xs.length - (i + 1), by omega, rfl, hlt, p'⟩, fun x H' y => ?_⟩
    obtain ⟨e, y⟩ := y
    subst e
    exact hs i x σ _ (y xs q) p
  · have e : i = xs.length := by omega
    subst e
    exact .inl ⟨⟨xs, q, Nat.le_refl _⟩, hd σ H p⟩
theorem for_range {lo : Int} {n : Nat} {g : TG} {tb : TS} {D : Ends} {σ : St} {H : Hp} (Pv : Nat → St → Hp → Prop) (h0 : Pv 0 σ H)
    (hs : ∀ i σ H, i < n → Pv i σ H → g (.int (lo + i)) σ H fun σ2 H2 => tb { D with nx := Pv (i + 1), ct := Pv (i + 1), bk := D.nx } σ2 H2) (hd : ∀ σ H, Pv n σ H → D.nx σ H) :
    ∃ W : Nat → Nat → St → Hp → Prop, (∃ m, W 0 m σ H) ∧ ∀ i m σ H, W i m σ H →
      ((Itr lo n).stop i H ∧ D.nx σ H) ∨ ((Itr lo n).go i H ∧ ∃ N : St → Hp → Prop, (∀ σ' H', N σ' H' → ∃ m', m' < m ∧ W (i + 1) m' σ' H') ∧ ∀ x H', (Itr lo n).yld i H x H' → g x σ H' fun σ2 H2 => tb { D with nx := N, ct := N, bk := D.nx } σ2 H2) := by
  refine ⟨fun i m σ H => m = n - i ∧ i ≤ n ∧ Pv i σ H, ⟨n, by simp, Nat.zero_le _, h0⟩, ?_⟩
  rintro i m σ H ⟨rfl, hi, p⟩
  by_cases hlt : i < n
  · refine .inr ⟨hlt, Pv (i + 1), fun σ' H' p' => ⟨n - (i + 1), by omega, rfl, hlt, p'⟩, fun x H' y => ?_⟩
    obtain ⟨e, y⟩ := y
    subst e y
    exact hs i σ _ hlt p
  · have e : i = n := by omega
    subst e
    exact .inl ⟨Nat.le_refl _, hd σ H p⟩
theorem while_by {c : TT} {tb : TS} {D : Ends} {σ : St} {H : Hp} (Pv : St → Hp → Prop) (μ : St → Hp → Nat) (h0 : Pv σ H)
    (hs : ∀ σ H, Pv σ H → c σ H fun b H1 => if b = true then tb { D with nx := fun σ' H' => Pv σ' H' ∧ μ σ' H' < μ σ H, ct := fun σ' H' => Pv σ' H' ∧ μ σ' H' < μ σ H, bk := D.nx } σ H1 else D.nx σ H1)
    (mono : ∀ σ H Q Q', (∀ b H1, Q b H1 → Q' b H1) → c σ H Q → c σ H Q') : tWhile c tb D σ H := by
  refine ⟨fun m σ H => m = μ σ H ∧ Pv σ H, ⟨_, rfl, h0⟩, ?_⟩
  rintro m σ H ⟨rfl, p⟩
  refine mono σ H _ _ (fun b H1 q => ?_) (hs σ H p)
  cases b with
  | true => exact ⟨_, fun σ' H' ⟨p', l⟩ => ⟨_, l, rfl, p'⟩, q⟩
  | false => exact q
end L2

namespace L2
open PySem PySem.Spec PyProof.Rows

noncomputable abbrev R2 := V → V → Hp → VK → Prop
noncomputable def OpR (X : Cx) (f : Value → Value → Sem Value) (r : R2) : Prop :=
  ∀ (pins : List (Addr × Obj)) (s : Shared) (σ : St) (H : Hp) (x y : V) (v u : Value) (Q : VK), Inv X pins σ H s → RelV x v → RelV y u → r x y H Q →
    wpAny (model X.prog X.w) X.A (f v u) (EP X pins σ Q) X.xe s
noncomputable def UnR (X : Cx) (f : Value → Sem Value) (r : V → Hp → VK → Prop) : Prop :=
  ∀ (pins : List (Addr × Obj)) (s : Shared) (σ : St) (H : Hp) (x : V) (v : Value) (Q : VK), Inv X pins σ H s → RelV x v → r x H Q →
    wpAny (model X.prog X.w) X.A (f v) (EP X pins σ Q) X.xe s
noncomputable def CallR (X : Cx) (f : Value) (r : List V → Hp → VK → Prop) : Prop :=
  ∀ (pins : List (Addr × Obj)) (s : Shared) (σ : St) (H : Hp) (xs : List V) (us : List Value) (Q : VK), Inv X pins σ H s → Vals xs us → r xs H Q →
    wpAny (model X.prog X.w) X.A (call f us) (EP X pins σ Q) X.xe s

noncomputable def tOp (r : R2) (ta tb : TE) : TE := fun σ H Q => ta σ H fun x H1 => tb σ H1 fun y H2 => r x y H2 Q
noncomputable def tUn (r : V → Hp → VK → Prop) (ta : TE) : TE := fun σ H Q => ta σ H fun x H1 => r x H1 Q
noncomputable def rI (C : Int → Int → Prop) (g : Int → Int → V) : R2 := fun x y H Q => ∃ i j, x = .int i ∧ y = .int j ∧ C i j ∧ Q (g i j) H
noncomputable def rI0 (g : Int → Int → V) : R2 := fun x y H Q => ∃ i j, x = .int i ∧ y = .int j ∧ Q (g i j) H
noncomputable def rU (g : Int → V) : V → Hp → VK → Prop := fun x H Q => ∃ i, x = .int i ∧ Q (g i) H

section
variable {X : Cx} {a b c : Expr} {ta tb tc : TE} {pos : Pos}

theorem binT (ha : PE X a ta) (hb : PE X b tb) {pins : List (Addr × Obj)} {s : Shared} {σ : St} {H : Hp} {R : V → V → Hp → Prop} (I : Inv X pins σ H s)
    (h : ta σ H fun x H1 => tb σ H1 fun y H2 => R x y H2) {Q : Value → Shared → Prop} {f : Value → Value → Sem Value}
    (hf : ∀ v u s2 x y H2, Inv X pins σ H2 s2 → RelV x v → RelV y u → R x y H2 → wpAny (model X.prog X.w) X.A (f v u) Q X.xe s2) :
    wpAny (model X.prog X.w) X.A (eval a X.env) (fun v s₁ => wpAny (model X.prog X.w) X.A (eval b X.env) (fun u s₂ => wpAny (model X.prog X.w) X.A (f v u) Q X.xe s₂) X.xe s₁) X.xe s := by
  refine thn (ha pins s σ H _ I h) fun v s1 ⟨x, H1, I1, r1, q1⟩ => ?_
  refine thn (hb pins s1 σ H1 _ I1 q1) fun u s2 ⟨y, H2, I2, r2, q2⟩ => ?_
  exact hf v u s2 x y H2 I2 r1 r2 q2

theorem pe_op {op : Operator} {r : R2} (ho : OpR X (binaryOp op) r) (ha : PE X a ta) (hb : PE X b tb) : PE X (.BinOp a op b pos) (tOp r ta tb) := by
  intro pins s σ H Q I h
  exact wpAny_BinOp (binT ha hb I h fun v u s2 x y H2 I2 rx ry q => ho pins s2 σ H2 x y v u Q I2 rx ry q)
theorem pe_un {op : UnaryOp} {r : V → Hp → VK → Prop} (ho : UnR X (unaryOp op) r) (ha : PE X a ta) : PE X (.UnaryOp op a pos) (tUn r ta) := by
  intro pins s σ H Q I h
  exact UnaryOp_ (thn (ha pins s σ H _ I h) fun v s1 ⟨x, H1, I1, r1, q1⟩ => ho pins s1 σ H1 x v Q I1 r1 q1)

theorem opI {f : Value → Value → Sem Value} {C : Int → Int → Prop} {g : Int → Int → Int}
    (rule : ∀ (i j : Int) (t u : Tok) (s : Shared) (Q : Value → Shared → Prop) (E : Value → Shared → Prop), C i j → Q (.int (g i j) s.toks) { s with toks := s.toks + 1 } → wpAny (model X.prog X.w) X.A (f (.int i t) (.int j u)) Q E s) :
    OpR X f (rI C fun i j => .int (g i j)) := by
  intro pins s σ H x y v u Q I rx ry h
  obtain ⟨i, j, rfl, rfl, hc, q⟩ := h
  obtain ⟨t, rfl⟩ := rx
  obtain ⟨t', rfl⟩ := ry
  exact rule i j t t' s _ _ hc ⟨.int (g i j), H, I.tok _, ⟨_, rfl⟩, q⟩
theorem opI0 {f : Value → Value → Sem Value} {g : Int → Int → Int}
    (rule : ∀ (i j : Int) (t u : Tok) (s : Shared) (Q : Value → Shared → Prop) (E : Value → Shared → Prop), Q (.int (g i j) s.toks) { s with toks := s.toks + 1 } → wpAny (model X.prog X.w) X.A (f (.int i t) (.int j u)) Q E s) :
    OpR X f (rI0 fun i j => .int (g i j)) := by
  intro pins s σ H x y v u Q I rx ry h
  obtain ⟨i, j, rfl, rfl, q⟩ := h
  obtain ⟨t, rfl⟩ := rx
  obtain ⟨t', rfl⟩ := ry
  exact rule i j t t' s _ _ ⟨.int (g i j), H, I.tok _, ⟨_, rfl⟩, q⟩
theorem opB0 {f : Value → Value → Sem Value} {g : Int → Int → Bool}
    (rule : ∀ (i j : Int) (t u : Tok) (s : Shared) (Q : Value → Shared → Prop) (E : Value → Shared → Prop), Q (.bool (g i j)) s → wpAny (model X.prog X.w) X.A (f (.int i t) (.int j u)) Q E s) :
    OpR X f (rI0 fun i j => .bl (g i j)) := by
  intro pins s σ H x y v u Q I rx ry h
  obtain ⟨i, j, rfl, rfl, q⟩ := h
  obtain ⟨t, rfl⟩ := rx
  obtain ⟨t', rfl⟩ := ry
  exact rule i j t t' s _ _ ⟨.bl (g i j), H, I, rfl, q⟩

noncomputable def CDiv (i j : Int) : Prop := 0 < j ∧ j < 1073741824
noncomputable def CPow (i j : Int) : Prop := 0 ≤ j ∧ j ≤ 1000000 ∧ i.natAbs < 2 ^ 64
noncomputable def CMul (i j : Int) : Prop := (-(2 ^ 64) < i ∧ i < 2 ^ 64) ∨ (-(2 ^ 64) < j ∧ j < 2 ^ 64)
theorem CMul.ok {i j : Int} (h : CMul i j) : IntMulOk i j := by
  rcases h with ⟨h1, h2⟩ | ⟨h1, h2⟩
  · exact .of_left (intBits_le_64 h1 h2)
  · exact .of_right (intBits_le_64 h1 h2)

theorem op_add : OpR X (binaryOp .Add) (rI0 fun i j => .int (i + j)) := opI0 fun _ _ _ _ _ _ _ q => add_int q
theorem op_sub : OpR X (binaryOp .Sub) (rI0 fun i j => .int (i - j)) := opI0 fun _ _ _ _ _ _ _ q => sub_int q
theorem op_mul : OpR X (binaryOp .Mult) (rI CMul fun i j => .int (i * j)) := opI fun _ _ _ _ _ _ _ hc q => mul_int q hc.ok
theorem op_fdiv : OpR X (binaryOp .FloorDiv) (rI CDiv fun i j => .int (i / j)) := opI fun i j _ _ _ _ _ hc q => by
  have h1 : (0 : Int) < j := hc.1
  have h2 : j < 1073741824 := hc.2
  exact floordiv_int (by omega) (by rw [Int.fdiv_eq_ediv_of_nonneg i (by omega)]; exact q) (.inl (PyProof.noPylong_small (by omega)))
theorem op_mod : OpR X (binaryOp .Mod) (rI (fun _ j => 0 < j) fun i j => .int (i % j)) := opI fun i j _ _ _ _ _ hc q => by
  have h1 : (0 : Int) < j := hc
  exact mod_int' (by omega) (by rw [Int.fmod_eq_emod_of_nonneg i (by omega)]; exact q)
theorem op_pow : OpR X (binaryOp .Pow) (rI CPow fun i j => .int (i ^ j.toNat)) := opI fun _ _ _ _ _ _ _ hc q => pow_int_small hc.1 hc.2.1 hc.2.2 q


theorem unI {f : Value → Sem Value} {g : Int → Int}
    (rule : ∀ (i : Int) (t : Tok) (s : Shared) (Q : Value → Shared → Prop) (E : Value → Shared → Prop), Q (.int (g i) s.toks) { s with toks := s.toks + 1 } → wpAny (model X.prog X.w) X.A (f (.int i t)) Q E s) :
    UnR X f (rU fun i => .int (g i)) := by
  intro pins s σ H x v Q I rx h
  obtain ⟨i, rfl, q⟩ := h
  obtain ⟨t, rfl⟩ := rx
  exact rule i t s _ _ ⟨.int (g i), H, I.tok _, ⟨_, rfl⟩, q⟩
theorem un_neg : UnR X (unaryOp .USub) (rU fun i => .int (-i)) := unI fun _ _ _ _ _ q => neg_int q

end

noncomputable def scal : V → V → Bool
  | .non, .non => true | .non, .int _ => true | .int _, .non => true | .non, .bl _ => true | .bl _, .non => true | .non, .str _ => true | .str _, .non => true
  | .int _, .int _ => true | .bl _, .bl _ => true | .str _, .str _ => true | .byt _, .byt _ => true
  | .int _, .str _ => true | .str _, .int _ => true | .bl _, .str _ => true | .str _, .bl _ => true
  | _, _ => false
noncomputable def rEq : R2 := fun x y H Q => scal x y = true ∧ Q (.bl (decide (x = y))) H
noncomputable def rNe : R2 := fun x y H Q => scal x y = true ∧ Q (.bl (!decide (x = y))) H

theorem dec_int {i j : Int} : decide (V.int i = V.int j) = (i == j) := by
  rw [Bool.eq_iff_iff]
  simp
theorem dec_bl {i j : Bool} : decide (V.bl i = V.bl j) = (i == j) := by
  rw [Bool.eq_iff_iff]
  simp
theorem dec_str {i j : Str} : decide (V.str i = V.str j) = (i == j) := by
  rw [Bool.eq_iff_iff]
  simp
theorem dec_byt {i j : Array UInt8} : decide (V.byt i = V.byt j) = (i.toList == j.toList) := by
  rw [Bool.eq_iff_iff]
  cases i
  cases j
  simp

section
variable {X : Cx} {a b c : Expr} {ta tb tc : TE} {pos : Pos}
theorem fin_bl {pins : List (Addr × Obj)} {σ : St} {H : Hp} {s : Shared} {Q : VK} {k k' : Bool} (I : Inv X pins σ H s) (q : Q (.bl k) H) (e : k = k') : EP X pins σ Q (.bool k') s := by
  subst e
  exact ⟨.bl k, H, I, rfl, q⟩
theorem op_eq : OpR X (compareOp .Eq) rEq := by
  intro pins s σ H x y v u Q I rx ry h
  obtain ⟨hs, q⟩ := h
  cases x with
  | non =>
    cases rx
    cases y with
    | non => cases ry; exact PySem.EqNone.eq_none_none (fin_bl I q (by simp))
    | bl j => cases ry; exact PySem.EqNone.eq_none_bool (fin_bl I q (by simp))
    | int j => obtain ⟨t', rfl⟩ := ry; exact PySem.EqNone.eq_none_int (fin_bl I q (by simp))
    | str j => obtain ⟨t', rfl⟩ := ry; exact PySem.EqNone.eq_none_str (fin_bl I q (by simp))
    | _ => exact absurd (show false = true from hs) Bool.false_ne_true
  | bl i =>
    cases rx
    cases y with
    | non => cases ry; exact PySem.EqNone.eq_bool_none (fin_bl I q (by simp))
    | bl j => cases ry; exact eq_bool (fin_bl I q dec_bl)
    | str j => obtain ⟨t', rfl⟩ := ry; exact PySem.EqMixed.eq_bool_str (fin_bl I q (by simp))
    | _ => exact absurd (show false = true from hs) Bool.false_ne_true
  | int i =>
    obtain ⟨t, rfl⟩ := rx
    cases y with
    | non => cases ry; exact PySem.EqNone.eq_int_none (fin_bl I q (by simp))
    | int j => obtain ⟨t', rfl⟩ := ry; exact eq_int (fin_bl I q dec_int)
    | str j => obtain ⟨t', rfl⟩ := ry; exact PySem.EqMixed.eq_int_str (fin_bl I q (by simp))
    | _ => exact absurd (show false = true from hs) Bool.false_ne_true
  | str i =>
    obtain ⟨t, rfl⟩ := rx
    cases y with
    | non => cases ry; exact PySem.EqNone.eq_str_none (fin_bl I q (by simp))
    | bl j => cases ry; exact PySem.EqMixed.eq_str_bool (fin_bl I q (by simp))
    | int j => obtain ⟨t', rfl⟩ := ry; exact PySem.EqMixed.eq_str_int (fin_bl I q (by simp))
    | str j => obtain ⟨t', rfl⟩ := ry; exact eq_str (fin_bl I q dec_str)
    | _ => exact absurd (show false = true from hs) Bool.false_ne_true
  | byt i =>
    obtain ⟨t, rfl⟩ := rx
    cases y with
    | byt j => obtain ⟨t', rfl⟩ := ry; exact PySem.W.eq_bytes (fin_bl I q dec_byt)
    | _ => exact absurd (show false = true from hs) Bool.false_ne_true
  | _ => cases y <;> exact absurd (show false = true from hs) Bool.false_ne_true
theorem op_ne : OpR X (compareOp .NotEq) rNe := by
  intro pins s σ H x y v u Q I rx ry h
  obtain ⟨hs, q⟩ := h
  cases x with
  | non =>
    cases rx
    cases y with
    | non => cases ry; exact PySem.EqNone.ne_none_none (fin_bl I q (by simp))
    | bl j => cases ry; exact PySem.EqNone.ne_none_bool (fin_bl I q (by simp))
    | int j => obtain ⟨t', rfl⟩ := ry; exact PySem.EqNone.ne_none_int (fin_bl I q (by simp))
    | str j => obtain ⟨t', rfl⟩ := ry; exact PySem.EqNone.ne_none_str (fin_bl I q (by simp))
    | _ => exact absurd (show false = true from hs) Bool.false_ne_true
  | bl i =>
    cases rx
    cases y with
    | non => cases ry; exact PySem.EqNone.ne_bool_none (fin_bl I q (by simp))
    | bl j => cases ry; exact ne_bool (fin_bl I q (congrArg not dec_bl))
    | str j => obtain ⟨t', rfl⟩ := ry; exact PySem.EqMixed.ne_bool_str (fin_bl I q (by simp))
    | _ => exact absurd (show false = true from hs) Bool.false_ne_true
  | int i =>
    obtain ⟨t, rfl⟩ := rx
    cases y with
    | non => cases ry; exact PySem.EqNone.ne_int_none (fin_bl I q (by simp))
    | int j => obtain ⟨t', rfl⟩ := ry; exact ne_int (fin_bl I q (congrArg not dec_int))
    | str j => obtain ⟨t', rfl⟩ := ry; exact PySem.EqMixed.ne_int_str (fin_bl I q (by simp))
    | _ => exact absurd (show false = true from hs) Bool.false_ne_true
  | str i =>
    obtain ⟨t, rfl⟩ := rx
    cases y with
    | non => cases ry; exact PySem.EqNone.ne_str_none (fin_bl I q (by simp))
    | bl j => cases ry; exact PySem.EqMixed.ne_str_bool (fin_bl I q (by simp))
    | int j => obtain ⟨t', rfl⟩ := ry; exact PySem.EqMixed.ne_str_int (fin_bl I q (by simp))
    | str j => obtain ⟨t', rfl⟩ := ry; exact ne_str (fin_bl I q (congrArg not dec_str))
    | _ => exact absurd (show false = true from hs) Bool.false_ne_true
  | byt i =>
    obtain ⟨t, rfl⟩ := rx
    cases y with
    | byt j => obtain ⟨t', rfl⟩ := ry; exact PySem.W.ne_bytes (fin_bl I q (congrArg not dec_byt))
    | _ => exact absurd (show false = true from hs) Bool.false_ne_true
  | _ => cases y <;> exact absurd (show false = true from hs) Bool.false_ne_true

theorem op_lt : OpR X (compareOp .Lt) (rI0 fun i j => .bl (decide (i < j))) := opB0 fun _ _ _ _ _ _ _ q => lt_int q
theorem op_gt : OpR X (compareOp .Gt) (rI0 fun i j => .bl (decide (j < i))) := opB0 fun _ _ _ _ _ _ _ q => gt_int q
theorem op_ge : OpR X (compareOp .GtE) (rI0 fun i j => .bl (decide (j ≤ i))) := opB0 fun _ _ _ _ _ _ _ q => ge_int q




theorem nomark (b : Expr) {op : CmpOp} (h : op ≠ .In := by decide) (h2 : op ≠ .NotIn := by decide) : behindInMarks op b = false := by
  have e1 : (op == CmpOp.In) = false := by cases op <;> first | rfl | exact absurd rfl h
  have e2 : (op == CmpOp.NotIn) = false := by cases op <;> first | rfl | exact absurd rfl h2
  cases b <;> simp [behindInMarks, e1, e2]
theorem pe_cmpR {op : CmpOp} {r : R2} (ho : OpR X (compareOp op) r) (ha : PE X a ta) (hb : PE X b tb) (hm : behindInMarks op b = false) : PE X (.Compare a [op] [b] pos) (tOp r ta tb) := by
  intro pins s σ H Q I h
  exact wpAny_Compare1 (binT ha hb I h fun v u s2 x y H2 I2 rx ry q => ho pins s2 σ H2 x y v u Q I2 rx ry q) hm
noncomputable def tTest (t : TE) : TT := fun σ H Q => t σ H fun x H' => ∃ k, x = .bl k ∧ Q k H'
theorem pt_cmpR {op : CmpOp} {r : R2} (ho : OpR X (compareOp op) r) (ha : PE X a ta) (hb : PE X b tb) (hm : behindInMarks op b = false) : PT X (.Compare a [op] [b] pos) (tTest (tOp r ta tb)) := by
  intro pins s σ H Q I h
  refine wpAny_isTrue_Compare1 (thn (ha pins s σ H _ I h) fun v s1 ⟨x, H1, I1, r1, q1⟩ => thn (hb pins s1 σ H1 _ I1 q1) fun u s2 ⟨y, H2, I2, r2, q2⟩ =>
    thn (ho pins s2 σ H2 x y v u _ I2 r1 r2 q2) fun c s3 ⟨z, H3, I3, r3, k, e, q3⟩ => ?_) hm
  subst e
  cases r3
  exact wpAny_truthy_bool ⟨H3, I3, q3⟩

theorem line63 : (sizeLine : Nat) < 2 ^ 63 := by rw [sizeLine_eq]; decide



theorem vals1 {x : V} {us : List Value} (r : Vals [x] us) : ∃ u, us = [u] ∧ RelV x u := by
  cases r with
  | cons r1 r2 => cases r2; exact ⟨_, rfl, r1⟩
theorem vals2 {x y : V} {us : List Value} (r : Vals [x, y] us) : ∃ u w', us = [u, w'] ∧ RelV x u ∧ RelV y w' := by
  cases r with
  | cons r1 r2 =>
    cases r2 with
    | cons r3 r4 => cases r4; exact ⟨_, _, rfl, r1, r3⟩
theorem call_abs : CallR X (.builtin "abs") (fun xs H Q => ∃ i, xs = [.int i] ∧ Q (.int (if i < 0 then -i else i)) H) := by
  intro pins s σ H xs us Q I r h
  obtain ⟨i, rfl, q⟩ := h
  obtain ⟨u, rfl, t, rfl⟩ := vals1 r
  exact call_abs_int fun u tk => ⟨.int (if i < 0 then -i else i), H, I.tok _, ⟨_, rfl⟩, q⟩
end
end L2

namespace L2
open PySem PySem.Spec PyProof.Rows

structure ObjM (h : Heap) (x dx C : Addr) (mA : Str → Option Value) : Prop where
  obj : h.get? x = some (PySem.W.instObj C dx)
  ns : h.Ns1 dx mA
  ne : dx ≠ x

theorem lookIn_ns {h : Heap} {dx : Addr} {mA : Str → Option Value} (n : h.Ns1 dx mA) : ∃ od, h.get? dx = some od ∧ ∀ name, PySem.W.lookIn name od = some (mA name) := by
  obtain ⟨o, es, ep, ho, hd, hk, _, hm⟩ := n
  refine ⟨o, ho, fun name => ?_⟩
  have e := hm name
  unfold nsFind findBy at e
  rw [← Array.find?_toList] at e
  unfold PySem.W.lookIn
  rw [hd]
  dsimp only
  split
  · rename_i y q
    rw [q] at e
    exact congrArg some e
  · rename_i q
    rw [q] at e
    have a : es.toList.any (·.refKey) = false := by
      rw [List.any_eq_false]
      intro y hy
      obtain ⟨z, t, hkey⟩ := hk y (Array.mem_toList_iff.mp hy)
      simp [DictEntry.refKey, hkey]
    have a' : ¬ es.toList.any (·.refKey) = true := by rw [a]; exact Bool.false_ne_true
    rw [if_neg a']
    exact congrArg some e

theorem ObjM.look {h : Heap} {x dx C : Addr} {mA : Str → Option Value} (I : ObjM h x dx C mA) : ∃ od, PySem.W.InstAt h x (PySem.W.instObj C dx) C (some od) ∧ ∀ name, PySem.W.lookIn name od = some (mA name) :=
  let ⟨od, ho, hl⟩ := lookIn_ns I.ns
  ⟨od, ⟨I.obj, rfl, rfl, ho⟩, hl⟩

section
variable {prog : Program} {w : World} {A : Around} {E : Value → Shared → Prop} {s : Shared} {K : PySem.W.Frag} {x dx C f : Addr} {mA : Str → Option Value} {name : Str} {v : Value}





end


theorem RelO.some_of {v : V} {o : Option Value} (r : RelO (some v) o) : ∃ u, o = some u ∧ RelV v u := by
  cases o with
  | none => exact (show False from r).elim
  | some u => exact ⟨u, rfl, r⟩

section
variable {P : Program} {w : World} {H H' : Hp} {h h' : Heap} {a C dx : Addr} {fs fs' : List (Str × V)}
theorem ins_get (hok : HOk P w H h) (e : H a = some (.ins C dx fs)) : ∃ mA, ObjM h a dx C mA ∧ (∀ f, RelO (fs.lookup f) (mA f)) ∧ PySem.Within mA (fs.map (·.1)) ∧ fs.length ≤ 1000 ∧ H dx = some (.own a) := by
  obtain ⟨d, z, ne, ob, mA, n, r, q⟩ := (show ObjOk P w H h a (.ins C dx fs) from hok a _ e)
  exact ⟨mA, ⟨ob, n, ne⟩, r, q, z, d⟩
end

structure Cls (K : PySem.W.Frag) (C : Addr) : Prop where
  pg : PySem.W.plainGet K C Str.empty = true
  hd : PySem.W.hasDictIn K C = true
  po : PySem.W.plainOver K C = true
  sa : PySem.W.findIn K (.ref C) "__setattr__" = some (some (.builtin "object.__setattr__"))
theorem Cls.get {K : PySem.W.Frag} {C : Addr} (c : Cls K C) (f : Str) : PySem.W.plainGet K C f = true := c.pg
structure Con (K : PySem.W.Frag) (C : Addr) (f : Str) (v : V) (u : Value) : Prop where
  at_ : PySem.W.findIn K (.ref C) f = some (some u)
  rel : RelV v u
  get : PySem.W.specialIn K u "__get__" = some none
  cp : PySem.W.copiedNames.contains f = false
structure Meth (K : PySem.W.Frag) (C : Addr) (m : Str) (f : Addr) : Prop where
  at_ : PySem.W.findIn K (.ref C) m = some (some (.ref f))
  fn : PySem.W.isFn K (.ref f) = true
  kp : PySem.W.keepIn K (.ref f) = true

section
variable {X : Cx} {pins : List (Addr × Obj)} {σ : St} {H : Hp} {s : Shared} {a C dx : Addr} {fs : List (Str × V)} {f : Str} {v : V} {A : Around} {E : Value → Shared → Prop}






end


section
variable {X : Cx} {o e value : Expr} {f : Str} {pos pos' tpos : Pos} {ta tv : TE}

end

section
variable {X : Cx} {pins : List (Addr × Obj)} {σ : St} {H : Hp} {s : Shared} {A : Around} {E : Value → Shared → Prop} {Q : Value → Shared → Prop} {c : Value} {b : Bool}
inductive TyOf (K : PySem.W.Frag) (H : Hp) : V → Value → Prop where
  | non : TyOf K H .non (.type "NoneType")
  | bl (x : Bool) : TyOf K H (.bl x) (.type "bool")
  | int (i : Int) : TyOf K H (.int i) (.type "int")
  | str (x : Str) : TyOf K H (.str x) (.type "str")
  | flt (x : UInt64) : TyOf K H (.flt x) (.type "float")
  | lst {a : Addr} {xs : List V} (e : H a = some (.lst xs)) : TyOf K H (.ref a) (.type "list")
  | frz {a : Addr} {o : Obj} {xs : List V} (e : H a = some (.frz o (.lst xs))) : TyOf K H (.ref a) (.type "list")
  | tup {a : Addr} {xs : List V} (e : H a = some (.tup xs)) : TyOf K H (.ref a) (.type "tuple")
  | dK {a : Addr} {kvs : List (Key × V)} (e : H a = some (.dK kvs)) : TyOf K H (.ref a) (.type "dict")
  | dT {a : Addr} {kvs : List (List Key × V)} (e : H a = some (.dT kvs)) : TyOf K H (.ref a) (.type "dict")
  | ins {a C dx : Addr} {fs : List (Str × V)} (e : H a = some (.ins C dx fs)) (cl : Cls K C) (ha : PySem.W.findIn K (.ref C) "__class__" = some (some (.builtin "object.__class__")))
      (hn : PySem.W.specialIn K (.builtin "object.__class__") "__get__" = some (some (.builtin "getset_descriptor.__get__"))) (htk : PySem.W.takesIn K (.builtin "object.__class__") = some true)
      (hm : PySem.W.mroIn K C (.type "object") = some true) : TyOf K H (.ref a) (.ref C)
theorem isinst_ok {x : V} {u t : Value} (I : Inv X pins σ H s) (rx : RelV x u) (ty : TyOf X.K H x t) (e : PySem.W.kitOne X.K t c = some b) (h : ∀ tk, Q (.bool b) { s with toks := tk }) :
    wpAny (model X.prog X.w) A (call (.builtin "isinstance") [u, c]) Q E s := by
  cases ty with
  | non => cases (show u = Value.none from rx); exact PySem.W.kia_one PySem.W.kitx_none I.kIn True.intro e (fun z => nomatch z) h
  | bl y => cases (show u = Value.bool y from rx); exact PySem.W.kia_one PySem.W.kitx_bool I.kIn True.intro e (fun z => nomatch z) h
  | int i => obtain ⟨t, q⟩ := (show ∃ t, u = Value.int i t from rx); cases q; exact PySem.W.kia_one PySem.W.kitx_int I.kIn True.intro e (fun z => nomatch z) h
  | str y => obtain ⟨t, q⟩ := (show ∃ t, u = Value.str y t from rx); cases q; exact PySem.W.kia_one PySem.W.kitx_str I.kIn True.intro e (fun z => nomatch z) h
  | flt y => obtain ⟨t, q⟩ := (show ∃ t, u = Value.float y t from rx); cases q; exact PySem.W.kia_one PySem.W.kitx_float I.kIn True.intro e (fun z => nomatch z) h
  | @lst a xs ea =>
    cases (show u = Value.ref a from rx)
    obtain ⟨_, _, n, _, h1⟩ := (show ObjOk X.prog X.w H s.heap a (.lst xs) from I.hok a _ ea)
    exact PySem.W.kia_one PySem.W.kitx_list I.kIn ⟨_, h1, rfl⟩ e (fun z => nomatch z) h
  | @frz a ob xs ea =>
    cases (show u = Value.ref a from rx)
    obtain ⟨_, _, _, n, _, h1⟩ := (show ObjOk X.prog X.w H s.heap a (.frz ob (.lst xs)) from I.hok a _ ea)
    exact PySem.W.kia_one PySem.W.kitx_list I.kIn ⟨_, h1, rfl⟩ e (fun z => nomatch z) h
  | @tup a xs ea =>
    cases (show u = Value.ref a from rx)
    obtain ⟨_, _, _, p⟩ := (show ObjOk X.prog X.w H s.heap a (.tup xs) from I.hok a _ ea)
    obtain ⟨o, h1, h2, _⟩ := p
    exact PySem.W.kia_one PySem.W.kitx_tuple I.kIn ⟨o, h1, h2⟩ e (fun z => nomatch z) h
  | @dK a kvs ea =>
    cases (show u = Value.ref a from rx)
    obtain ⟨_, _, vs, _, p⟩ := (show ObjOk X.prog X.w H s.heap a (.dK kvs) from I.hok a _ ea)
    obtain ⟨o, es, ep, h1, h2, _⟩ := p
    exact PySem.W.kia_one PySem.W.kitx_dict I.kIn ⟨o, h1, h2.1⟩ e (fun z => nomatch z) h
  | @dT a kvs ea =>
    cases (show u = Value.ref a from rx)
    obtain ⟨_, _, xs, _, o, es, ep, h1, h2, _⟩ := (show ObjOk X.prog X.w H s.heap a (.dT kvs) from I.hok a _ ea)
    exact PySem.W.kia_one PySem.W.kitx_dict I.kIn ⟨o, h1, h2.1⟩ e (fun z => nomatch z) h
  | @ins a C dx fs ea cl ha hn htk hm =>
    cases (show u = Value.ref a from rx)
    obtain ⟨mA, O, _⟩ := ins_get I.hok ea
    obtain ⟨od, J, _⟩ := O.look
    exact PySem.W.kia_one (PySem.W.kitx_own (cl.get _) cl.hd ha hn htk hm) I.kIn J e (fun z => nomatch z) h
end
end L2

namespace L2
open PySem PySem.Spec PyProof.Rows

structure Room (k : Nat) (A : Around) : Prop where
  hd : A.handled = none
  dp : A.depth + 3 * k + 5 < recursionLimit
  un : A.units + 16 * k + 200 < cLine
theorem Room.mono {j k : Nat} {A : Around} (r : Room k A) (h : j ≤ k) : Room j A := ⟨r.hd, by have := r.dp; omega, by have := r.un; omega⟩
theorem Room.deeper {k : Nat} {A : Around} (r : Room (k + 1) A) (env : Env) : Room k (A.deeper env) :=
  ⟨r.hd, by have := r.dp; show A.depth + 1 + 3 * k + 5 < _; omega, by have := r.un; show A.units + 3 + 16 * k + 200 < _; omega⟩
theorem Room.depth {k : Nat} {A : Around} (r : Room k A) : A.depth < recursionLimit := by have := r.dp; omega
theorem Room.units {k : Nat} {A : Around} (r : Room k A) : A.units + 64 < cLine := by have := r.un; omega
theorem Room.units0 {k : Nat} {A : Around} (r : Room k A) : A.units < cLine := by have := r.un; omega

noncomputable def tNil : TA := fun _ H Q => Q [] H
noncomputable def tCons (ta : TE) (tr : TA) : TA := fun σ H Q => ta σ H fun x H1 => tr σ H1 fun xs H2 => Q (x :: xs) H2
section
variable {X : Cx} {e : Expr} {es : List Expr} {te : TE} {t : TA} {pos : Pos}
theorem pa_nil : PA X [] tNil := fun _ _ _ _ H Q I h => Calls.spliced_nil ⟨[], H, I, .nil, h⟩
theorem pa_cons (ha : PE X e te) (hr : PA X es t) (hs : starEach (e :: es) X.env = (false, eval e X.env) :: starEach es X.env := by rfl) : PA X (e :: es) (tCons te t) := by
  intro pos pins s σ H Q I h
  rw [hs]
  show wpAny _ _ (spliced ((false, eval e X.env) :: backTo pos (starEach es X.env))) _ _ s
  refine Calls.spliced_cons (thn (ha pins s σ H _ I h) fun u s1 ⟨x, H1, I1, r1, q1⟩ => ?_)
  exact thn (hr pos pins s1 σ H1 _ I1 q1) fun us s2 ⟨xs, H2, I2, r2, q2⟩ => ⟨x :: xs, H2, I2, .cons r1 r2, q2⟩

noncomputable def tTup (t : TA) : TE := fun σ H Q => t σ H fun xs H1 => xs.length ≤ sizeLine ∧ ∀ p, H1 p = none → Q (.ref p) (upd H1 p (.tup xs))
theorem pe_tup {x1} (h : PA X es t) : PE X (.Tuple es x1 pos) (tTup t) := by
  intro pins s σ H Q I hq
  refine wpAny_Tuple_spliced (thn (h pos pins s σ H _ I hq) fun us s1 ⟨xs, H1, I1, r, z, q⟩ => ⟨by rw [← r.length]; exact z, ?_⟩)
  have hf : H1 s1.heap.objs.size = none := I1.hok.fresh (Nat.le_refl _)
  refine ⟨.ref s1.heap.objs.size, upd H1 s1.heap.objs.size (.tup xs), I1.laid (t' := s1.toks) (fun b u e => Heap.get?_push_of_some _ e) (Nat.le_refl _) ?_, rfl, q _ hf⟩
  exact ⟨z, us, r, ⟨_, Heap.get?_push_size _ rfl, rfl, _, rfl⟩⟩
end

noncomputable abbrev Sp := List V → Hp → VK → XK → Prop
noncomputable abbrev CXT := List Env → Hp → Shared → XK → Value → Shared → Prop

structure Env0 (P : Program) (w : World) (K : PySem.W.Frag) (mg : Str → Option Value) (base : Heap) (A : Around) (outer : List Env) (s : Shared) (H : Hp) : Prop where
  frames : A.frames = some outer
  mod : Mod K mg base
  bs : ∀ b o, base.get? b = some o → s.heap.get? b = some o ∧ H b = none
  bsz : base.objs.size ≤ s.heap.objs.size
  funs : s.heap.FunFrames base outer
  frf : ∀ b ∈ frs outer, H b = none
  hok : HOk P w H s.heap
  bare : AllBare s.gens
noncomputable def CE (outer : List Env) (P : Program) (w : World) (H : Hp) (s : Shared) (Q : VK) (u : Value) (s' : Shared) : Prop :=
  ∃ v H', s'.os = s.os ∧ AllBare s'.gens ∧ Un (frs outer) [] H H' s.heap s'.heap ∧ HOk P w H' s'.heap ∧ RelV v u ∧ Q v H'
noncomputable def CR (CX : CXT) (outer : List Env) (P : Program) (w : World) (H : Hp) (s : Shared) (Q : VK) (E : XK) (r : Result) (s' : Shared) : Prop :=
  match r with
  | .ok (.ret u) => CE outer P w H s Q u s'
  | .ok _ => False
  | .error e => CX outer H s E e s'
structure FnOk (P : Program) (w : World) (K : PySem.W.Frag) (mg : Str → Option Value) (base : Heap) (CX : CXT) (k : Nat) (f : Addr) (fd : FuncData) (ps : List Str) (sp : Sp) : Prop where
  len : ∀ vs H Q E, sp vs H Q E → vs.length = ps.length
  run : ∀ (A : Around) (outer : List Env) (s : Shared) (H : Hp) (args : Args) (us : List Value) (vs : List V) (Q : VK) (E : XK), Room k A → Env0 P w K mg base A outer s H → BindsTo s fd args (ps.zip us) → Vals vs us → sp vs H Q E →
    codeAny (model P w) A (.call (.ref f) args) (CR CX outer P w H s Q E) s


section
variable {X : Cx} {pins : List (Addr × Obj)} {σ : St} {H : Hp} {s s' : Shared}
theorem Inv.env0 (I : Inv X pins σ H s) : Env0 X.prog X.w X.K X.mg X.base X.A X.stack s H :=
  ⟨I.ok.frames, I.ok.mod, I.bs, Nat.le_trans I.ok.bsz I.sz, I.stack, I.stkFree, I.hok, I.bare⟩
theorem Inv.after {Q : VK} {u : Value} (I : Inv X pins σ H s) (h : CE X.stack X.prog X.w H s Q u s') : EP X pins σ Q u s' := by
  obtain ⟨v, H', os, bare, un, hok, r, q⟩ := h
  obtain ⟨hh, g, d, t, os'⟩ := s'
  obtain rfl : os' = s.os := os
  exact ⟨v, H', I.call (h' := hh) (g' := g) (d' := d) (t' := t) (ch := []) un hok bare (fun b z => absurd z (by simp)), r, q⟩
end

noncomputable def tCall (sp : Sp) (dvs : List V) (E : XK) (t : TA) : TE := fun σ H Q => t σ H fun vs H1 => sp (vs ++ dvs) H1 Q E

noncomputable def Binds (K : PySem.W.Frag) (fd : FuncData) (ps : List Str) (ds : List Value) : Prop :=
  ∀ (s : Shared) (us : List Value), K.In s.heap → (us ++ ds).length = ps.length → BindsTo s fd ⟨us, []⟩ (ps.zip (us ++ ds))
theorem Binds.all {K : PySem.W.Frag} {fd : FuncData} {ps : List Str} (h : ∀ us : List Value, us.length = ps.length → bindArgs fd ⟨us, []⟩ = pure (ps.zip us)) : Binds K fd ps [] := fun s us _ hl => by
  rw [List.append_nil] at hl ⊢
  exact .of_eq (h us hl)

noncomputable def Passes (CX : CXT) (X : Cx) (E : XK) : Prop := ∀ (pins : List (Addr × Obj)) (σ : St) (H : Hp) (s : Shared) (e : Value) (s' : Shared), Inv X pins σ H s → CX X.stack H s E e s' → X.xe e s'

section
variable {X : Cx} {CX : CXT} {k : Nat} {f C : Addr} {fd : FuncData} {ps : List Str} {sp : Sp} {dvs : List V} {ds : List Value} {E : XK} {x m : Str} {p pos apos : Pos} {e o : Expr} {es : List Expr} {ta : TE} {t : TA}

theorem run_fn {pins : List (Addr × Obj)} {σ : St} {H : Hp} {s : Shared} {Q : VK} {us : List Value} {vs : List V} (F : FnOk X.prog X.w X.K X.mg X.base CX k f fd ps sp) (hr : Room k X.A) (hb : Binds X.K fd ps ds) (hd : Vals dvs ds) (hx : Passes CX X E)
    (I : Inv X pins σ H s) (r : Vals vs us) (h : sp (vs ++ dvs) H Q E) : wpAny (model X.prog X.w) X.A (call (.ref f) us) (EP X pins σ Q) X.xe s := by
  have r2 : Vals (vs ++ dvs) (us ++ ds) := r.append hd
  have hl : (us ++ ds).length = ps.length := by rw [← r2.length]; exact F.len _ _ _ _ h
  refine wpAny_call (codeAny_mono (F.run X.A X.stack s H ⟨us, []⟩ (us ++ ds) (vs ++ dvs) Q E hr I.env0 (hb s us I.kIn hl) r2 h) fun r s' hq => ?_)
  cases r with
  | error e => exact hx pins σ H s e s' I hq
  | ok fl =>
    cases fl with
    | ret u => exact I.after hq
    | next => exact False.elim hq
    | brk => exact False.elim hq
    | cont => exact False.elim hq

theorem pe_call (F : FnOk X.prog X.w X.K X.mg X.base CX k f fd ps sp) (hr : Room k X.A) (hg : Gl X x) (hm : X.mg x = some (.ref f)) (hk : PySem.W.keepIn X.K (.ref f) = true) (hb : Binds X.K fd ps ds) (hd : Vals dvs ds) (hx : Passes CX X E)
    (ha : PA X (e :: es) t) (hdb : (x == ("__debug__" : Str)) = false := by decide) (he : starEach (e :: es) X.env = (false, eval e X.env) :: starEach es X.env := by rfl) (hpl : (backTo pos (starEach es X.env)).any (·.1) = false := by rfl) :
    PE X (.Call (.Name x p) (e :: es) [] pos) (tCall sp dvs E t) := by
  intro pins s σ H Q I h
  refine wpAny_Call_Name_kw (ld_glob I hg hm ?_ hdb)
  refine PySem.W.callWith_K (h₀ := X.base) I.ok.mod.kin hk (thn (ha pos pins s σ H _ I h) fun us s1 ⟨vs, H1, I1, r, q⟩ => ⟨I1.kIn, ?_⟩) he hpl
  exact run_fn F hr hb hd hx I1 r q


structure Mk (K : PySem.W.Frag) (C f : Addr) : Prop where
  makes : PySem.W.makesIn K C = true
  init : PySem.W.findIn K (.ref C) "__init__" = some (some (.ref f))
  fn : PySem.W.isFn K (.ref f) = true
  kp : PySem.W.keepIn K (.ref C) = true

end

section
variable {X : Cx} {CX : CXT} {k : Nat} {f C : Addr} {fd : FuncData} {ps ks : List Str} {sp : Sp} {E : XK} {x m : Str} {p pos apos kpos : Pos} {e o : Expr} {es : List Expr} {kws : List Keyword} {te ta : TE} {t tk : TA} {nm : Option Str}

structure KBinds (K : PySem.W.Frag) (fd : FuncData) (ps ks : List Str) (g : List Value → List Value → List Value) (gV : List V → List V → List V) : Prop where
  to : ∀ (s : Shared) (us ws : List Value), K.In s.heap → (g us ws).length = ps.length → BindsTo s fd ⟨us, ks.zip ws⟩ (ps.zip (g us ws))
  rel : ∀ {vs : List V} {us : List Value} {zs : List V} {ws : List Value}, Vals vs us → Vals zs ws → Vals (gV vs zs) (g us ws)
variable {g : List Value → List Value → List Value} {gV : List V → List V → List V}
end

structure FnScope (N P : List Str) (sc : Scope) : Prop where
  kind : sc.kind = .function
  co : sc.isCoroutine = false
  gen : sc.isGenerator = false
  nd : N.Nodup
  pre : N.take P.length = P
  par : ∀ x ∈ P, sc.names.lookup x = some .local ∨ sc.names.lookup x = some .cell
  nofree : ∀ y ∈ sc.names, y.2 ≠ .free

theorem bindL_out {kindOf : Str → Option NameKind} {x : Str} : ∀ {binds : List (Str × Value)} {m : Str → Option Value}, (∀ v, (x, v) ∉ binds) → bindL kindOf binds m x = m x
  | [], _, _ => rfl
  | (n, v) :: r, m, h => by
    unfold bindL
    rw [bindL_out fun w hw => h w (List.mem_cons_of_mem _ hw)]
    split
    · have : x ≠ n := by rintro rfl; exact h v List.mem_cons_self
      simp [this]
    · rfl
theorem bindC_out {kindOf : Str → Option NameKind} {x : Str} : ∀ {binds : List (Str × Value)} {m : Str → Option Value}, (∀ v, (x, v) ∉ binds) → bindC kindOf binds m x = m x
  | [], _, _ => rfl
  | (n, v) :: r, m, h => by
    unfold bindC
    rw [bindC_out fun w hw => h w (List.mem_cons_of_mem _ hw)]
    split
    · rfl
    · have : x ≠ n := by rintro rfl; exact h v List.mem_cons_self
      simp [this]
theorem bindL_get {kindOf : Str → Option NameKind} {x : Str} {v : Value} : ∀ {P : List Str} {vs : List Value} {i : Nat} {m : Str → Option Value}, P.Nodup → P[i]? = some x → vs[i]? = some v → kindOf x = some .local →
    bindL kindOf (P.zip vs) m x = some v
  | [], _, _, _, _, h, _, _ => by simp at h
  | _ :: _, [], _, _, _, _, h, _ => by simp at h
  | p :: P, w :: vs, 0, m, nd, h1, h2, hk => by
    simp at h1 h2; subst h1; subst h2
    show bindL kindOf ((p, w) :: P.zip vs) m p = _
    unfold bindL
    rw [bindL_out fun v hv => (List.nodup_cons.mp nd).1 (List.of_mem_zip hv).1, if_pos hk]
    simp
  | p :: P, w :: vs, i + 1, m, nd, h1, h2, hk => by
    show bindL kindOf ((p, w) :: P.zip vs) m x = _
    unfold bindL
    exact bindL_get (i := i) (List.nodup_cons.mp nd).2 (by simpa using h1) (by simpa using h2) hk
theorem bindC_get {kindOf : Str → Option NameKind} {x : Str} {v : Value} : ∀ {P : List Str} {vs : List Value} {i : Nat} {m : Str → Option Value}, P.Nodup → P[i]? = some x → vs[i]? = some v → kindOf x ≠ some .local →
    bindC kindOf (P.zip vs) m x = some v
  | [], _, _, _, _, h, _, _ => by simp at h
  | _ :: _, [], _, _, _, _, h, _ => by simp at h
  | p :: P, w :: vs, 0, m, nd, h1, h2, hk => by
    simp at h1 h2; subst h1; subst h2
    show bindC kindOf ((p, w) :: P.zip vs) m p = _
    unfold bindC
    rw [bindC_out fun v hv => (List.nodup_cons.mp nd).1 (List.of_mem_zip hv).1, if_neg hk]
    simp
  | p :: P, w :: vs, i + 1, m, nd, h1, h2, hk => by
    show bindC kindOf ((p, w) :: P.zip vs) m x = _
    unfold bindC
    exact bindC_get (i := i) (List.nodup_cons.mp nd).2 (by simpa using h1) (by simpa using h2) hk

noncomputable def start (N : List Str) (vs : List V) : St := vs.map some ++ List.replicate (N.length - vs.length) none

noncomputable def cxOf (CX : CXT) (P : Program) (w : World) (K : PySem.W.Frag) (mg : Str → Option Value) (base : Heap) (N : List Str) (qual : Str) (scope : Scope) (f : Addr) (cd : Value) (A : Around) (outer : List Env) (s : Shared) (H : Hp) (E : XK) : Cx where
  prog := P
  w := w
  K := K
  mg := mg
  base := base
  A := A.deeper (envOfC qual scope s.heap.objs.size f cd)
  N := N
  s₀ := s
  H₀ := H
  env := envOfC qual scope s.heap.objs.size f cd
  outer := outer
  stack := envOfC qual scope s.heap.objs.size f cd :: outer
  ex := []
  calm := true
  fn := fun _ => true
  pn := []
  xe := fun e s' => wpAny (model P w) (A.deeper (envOfC qual scope s.heap.objs.size f cd)) (leaving (envOfC qual scope s.heap.objs.size f cd) e) (fun _ s'' => CX outer H s E e s'') (fun e' s'' => CX outer H s E e' s'') s'

theorem cell_has {sc : Scope} {n : Nat} {x : Str} (h : sc.names.lookup x = some .cell) : ∃ c, (cellsFrom n sc.names []).lookup x = some c := by
  have q := PySem.W.cellsFrom_some sc.names n [] (.inl h)
  exact Option.isSome_iff_exists.mp q

theorem inv_start {CX : CXT} {P : Program} {w : World} {K : PySem.W.Frag} {mg : Str → Option Value} {base : Heap} {N ps : List Str} {qual : Str} {scope : Scope} {f : Addr} {cd : Value} {A : Around} {outer : List Env} {s s1 : Shared} {H : Hp} {E : XK} {us : List Value} {vs : List V}
    (S : FnScope N ps scope) (hd : A.handled = none) (e0 : Env0 P w K mg base A outer s H) (hl : vs.length = ps.length) (r : Vals vs us)
    (x : InCallC s s.heap.objs.size (bindL (envOfC qual scope s.heap.objs.size f cd).kindOf (ps.zip us) fun _ => none) (cellsFrom (s.heap.objs.size + 1) scope.names []) (bindC (envOfC qual scope s.heap.objs.size f cd).kindOf (ps.zip us) fun _ => none) s1) :
    Inv (cxOf CX P w K mg base N qual scope f cd A outer s H E) [] (start N vs) H s1 := by
  have hpl : ps.length ≤ N.length := by have := congrArg List.length S.pre; rw [List.length_take] at this; omega
  obtain ⟨h1, tk, rfl, hk⟩ := x.done
  have noA : ∀ b : Addr, b ∉ (cxOf CX P w K mg base N qual scope f cd A outer s H E).ex := fun b z => absurd (show b ∈ ([] : List Addr) from z) (by simp)
  refine ⟨⟨e0.mod, S.kind, rfl, rfl, Nat.le_refl _, fun y z c h1 h2 => ?_, fun y hy => ?_, fun y c _ h => ?_, fun _ => hd, Around.frames_deeper e0.frames, .inr ⟨rfl, rfl⟩, fun b z => absurd z (noA b), e0.bs, e0.bsz, fun b _ _ => noA b, fun b z => absurd z (noA b), e0.funs, e0.frf⟩,
    rfl, e0.bare, Un.kept hk, ⟨_, x.toInCall.ns, fun i y v h1 h2 h3 => ?_⟩, fun y c h => ⟨_, x.cell y c h⟩, e0.hok.fresh (Nat.le_refl _), fun y c h => ?_, fun p hp => absurd (show p ∈ ([] : List (Addr × Obj)) from hp) (by simp), e0.hok.kept hk, ?_⟩
  · exact name_of_addr x.apart (PySem.mem_of_lookup h1) (PySem.mem_of_lookup h2)
  · have hy : scope.names.lookup y = some .cell ∨ scope.names.lookup y = some .free := hy
    rcases hy with hy | hy
    · exact cell_has hy
    · exact absurd rfl (S.nofree _ (PySem.mem_of_lookup hy))
  · exact Nat.le_of_lt (x.above y c (PySem.mem_of_lookup h))
  · have hi : i < vs.length := by
      unfold start at h2
      by_cases hi : i < vs.length
      · exact hi
      · rw [List.getElem?_append_right (by simpa using hi)] at h2
        rw [List.getElem?_replicate] at h2
        split at h2 <;> cases h2
    have ha : vs[i]? = some v := by
      unfold start at h2
      rw [List.getElem?_append_left (by simpa using hi), List.getElem?_map] at h2
      cases e : vs[i]? with
      | none => rw [e] at h2; cases h2
      | some a => rw [e] at h2; cases h2; rfl
    obtain ⟨u, hu, rv⟩ := r.get ha
    have hp : ps[i]? = some y := by
      rw [← S.pre, List.getElem?_take_of_lt (by omega)]; exact h1
    have ndP : ps.Nodup := by rw [← S.pre]; exact S.nd.sublist (List.take_sublist _ _)
    refine ⟨u, rv, ?_⟩
    rcases S.par y (List.mem_of_getElem? hp) with k | k
    · exact .inl ⟨k, bindL_get ndP hp hu k⟩
    · obtain ⟨c, e⟩ := cell_has (n := s.heap.objs.size + 1) k
      refine .inr ⟨.inl k, c, e, ?_⟩
      have q := x.cell y c e
      rw [bindC_get ndP hp hu (by show scope.names.lookup y ≠ _; rw [k]; decide)] at q
      exact q
  · exact e0.hok.fresh (Nat.le_of_lt (x.above y c (PySem.mem_of_lookup h)))
  · unfold start
    show _ = N.length
    rw [List.length_append, List.length_map, List.length_replicate]
    omega

theorem fn_of {CX : CXT} {P : Program} {w : World} {K : PySem.W.Frag} {mg : Str → Option Value} {base : Heap} {k : Nat} {f : Addr} {name qual : Str} {params : Arguments} {body : List Stmt} {scope : Scope} {dV kV doc pm cdv ct oc : Value} {an od : Option Addr}
    {osl : Array (Option Value)} {N ps : List Str} {sp : Sp} (lk : K.lookup f = some ⟨oc, od, .func (PySem.W.fnOf name qual params body scope dV kV doc pm an cdv ct), osl⟩) (hcd : PySem.W.codeIn K cdv qual = true) (S : FnScope N ps scope)
    (len : ∀ vs H Q E, sp vs H Q E → vs.length = ps.length)
    (hbody : ∀ (A : Around) (outer : List Env) (s : Shared) (H : Hp) (vs : List V) (Q : VK) (E : XK), Room k (A.deeper (envOfC qual scope s.heap.objs.size f cdv)) → sp vs H Q E →
      ∃ t, PSs (cxOf CX P w K mg base N qual scope f cdv A outer s H E) body t ∧ t { nx := fun _ H' => Q .non H', rt := Q } (start N vs) H) :
    FnOk P w K mg base CX (k + 1) f (PySem.W.fnOf name qual params body scope dV kV doc pm an cdv ct) ps sp := by
  refine ⟨len, fun A outer s H args us vs Q E hr e0 hb r hsp => ?_⟩
  have hl := len _ _ _ _ hsp
  have KX : K.In s.heap := e0.mod.kin.keeps fun b o e => (e0.bs b o e).1
  have lim : s.heap.NoLimit := e0.mod.nolimit.keeps fun b o e => (e0.bs b o e).1
  have hkind : ∀ y ∈ ps.zip us, scope.names.lookup y.1 = some .local ∨ (scope.names.lookup y.1 = some .cell ∧ ((cellsFrom (s.heap.objs.size + 1) scope.names []).lookup y.1).isSome = true) := fun ⟨n, v⟩ hy => by
    rcases S.par n (List.of_mem_zip hy).1 with q | q
    · exact .inl q
    · exact .inr ⟨q, PySem.W.cellsFrom_some _ _ _ (.inl q)⟩
  refine codeAny_call_function hr.depth (KX _ _ lk) rfl S.co S.gen rfl (PySem.W.codeRec_of KX hcd) (hb _ _ _ _ ?_)
  refine wpAny_newFunctionEnv_cells S.kind hkind fun env he s1 x => ?_
  subst he
  refine ⟨lim.keeps x.toInCall.keep, codeAny_func ?_⟩
  obtain ⟨t, ht, hq⟩ := hbody A outer s H vs Q E (hr.deeper _) hsp
  have I : Inv (cxOf CX P w K mg base N qual scope f cdv A outer s H E) [] (start N vs) H s1 := inv_start S hr.hd e0 hl r x
  refine wpAny_mono (ht [] s1 (start N vs) H _ I hq) (fun fl s' hs => ?_) fun e s' hs => hs
  have fin : ∀ {σ' : St} {H' : Hp} {v : V} {u : Value}, Inv (cxOf CX P w K mg base N qual scope f cdv A outer s H E) [] σ' H' s' → RelV v u → Q v H' → CE outer P w H s Q u s' :=
    fun {σ' H' v u} J rv q => ⟨v, H', J.os, J.bare, J.base, J.hok, rv, q⟩
  cases fl with
  | ret u =>
    obtain ⟨v, σ', H', J, rv, q⟩ := hs
    exact fin J rv q
  | next =>
    obtain ⟨σ', H', J, q⟩ := hs
    exact fin (v := V.non) (u := Value.none) J rfl q
  | brk =>
    obtain ⟨_, _, _, q⟩ := hs
    exact False.elim q
  | cont =>
    obtain ⟨_, _, _, q⟩ := hs
    exact False.elim q
end L2

namespace L2
open PySem PySem.Spec PyProof.Rows
section
variable {X : Cx} {x : Str} {p pos : Pos} {e : Expr} {es : List Expr} {t : TA} {id T : String} {r : List V → Hp → VK → Prop}

noncomputable def tCB (r : List V → Hp → VK → Prop) (t : TA) : TE := fun σ H Q => t σ H fun vs H1 => r vs H1 Q
theorem pe_callB (hc : CallR X (.builtin id) r) (hg : Gl X x) (hm : X.mg x = none) (hv : bootBuiltins x = some (.builtin id)) (ha : PA X (e :: es) t) (hn : x ≠ "__name__" := by decide) (hdb : (x == ("__debug__" : Str)) = false := by decide)
    (he : starEach (e :: es) X.env = (false, eval e X.env) :: starEach es X.env := by rfl) (hpl : (backTo pos (starEach es X.env)).any (·.1) = false := by rfl) : PE X (.Call (.Name x p) (e :: es) [] pos) (tCB r t) := by
  intro pins s σ H Q I h
  refine wpAny_Call_Name_kw (ld_blt I hg hm hv ?_ hn hdb)
  exact PyProof.Rows.callWith_builtin1 (thn (ha pos pins s σ H _ I h) fun us s1 ⟨vs, H1, I1, r1, q1⟩ => hc pins s1 σ H1 vs us Q I1 r1 q1) he hpl
theorem pe_callTy (hc : CallR X (.type T) r) (hg : Gl X x) (hm : X.mg x = none) (hv : bootBuiltins x = some (.type T)) (ha : PA X (e :: es) t) (hn : x ≠ "__name__" := by decide) (hdb : (x == ("__debug__" : Str)) = false := by decide)
    (he : starEach (e :: es) X.env = (false, eval e X.env) :: starEach es X.env := by rfl) (hpl : (backTo pos (starEach es X.env)).any (·.1) = false := by rfl) : PE X (.Call (.Name x p) (e :: es) [] pos) (tCB r t) := by
  intro pins s σ H Q I h
  refine wpAny_Call_Name_kw (ld_blt I hg hm hv ?_ hn hdb)
  exact PyProof.Rows.callWith_type1 (thn (ha pos pins s σ H _ I h) fun us s1 ⟨vs, H1, I1, r1, q1⟩ => hc pins s1 σ H1 vs us Q I1 r1 q1) he hpl
end
end L2

namespace HT
open PySem PyProof.Rows



section
open PySem.SeqAt
open PySem.AutoSeq1 (wpAny_loadPart')
open PySem.MeetsSeq PySem.MeetsSeq2 PySem.MeetsSeq3

end

section
variable {prog : Program} {w : World} {A : Around} {E : Value → Shared → Prop} {s : Shared}



noncomputable def sIx (n d : Nat) : Option Int → Nat
  | none => d
  | some v => if v < 0 then (v + (n : Int)).toNat else min v.toNat n
theorem sIx_none (n d : Nat) : sIx n d none = d := rfl
theorem sIx_nat (n d k : Nat) : sIx n d (some (k : Int)) = min k n := by
  show (if (k : Int) < 0 then ((k : Int) + (n : Int)).toNat else min (k : Int).toNat n) = min k n
  rw [if_neg (by omega), Int.toNat_natCast]

end
end HT

namespace L2
open PySem PySem.Spec PyProof.Rows

noncomputable abbrev TO := St → Hp → (Option Int → Hp → Prop) → Prop
noncomputable def PO (X : Cx) (e : Option Expr) (t : TO) : Prop :=
  ∀ (pins : List (Addr × Obj)) (s : Shared) (σ : St) (H : Hp) (Q : Option Int → Hp → Prop), Inv X pins σ H s → t σ H Q →
    wpAny (model X.prog X.w) X.A (evalPart e X.env) (fun u s' => ∃ o H', Inv X pins σ H' s' ∧ IsPart u o ∧ Q o H') X.xe s
noncomputable def tNoPart : TO := fun _ H Q => Q none H
noncomputable def tPart (t : TE) : TO := fun σ H Q => t σ H fun x H1 => ∃ i, x = .int i ∧ Q (some i) H1

theorem intsAre_of {ns : List Int} : ∀ {us : List Value}, Vals (ns.map V.int) us → IntsAre us ns := by
  induction ns with
  | nil => intro us r; rw [List.map_nil] at r; cases r; exact .nil
  | cons n ns ih =>
    intro us r
    rw [List.map_cons] at r
    cases r with
    | cons r1 r2 =>
      obtain ⟨t, e⟩ := r1
      subst e
      exact .cons n t (ih r2)

section
variable {X : Cx} {e : Expr} {te : TE} {lo hi : Option Expr} {tl th : TO} {pos p2 : Pos}

theorem po_none : PO X none tNoPart := by
  intro pins s σ H Q I h
  rw [evalPart_none]
  exact wpAny_pure ⟨none, H, I, .none, h⟩
theorem po_some (h : PE X e te) : PO X (some e) (tPart te) := by
  intro pins s σ H Q I hw
  rw [evalPart_some]
  refine thn (h pins s σ H _ I hw) fun u s1 ⟨x, H1, I1, r1, q1⟩ => ?_
  obtain ⟨i, rfl, q⟩ := q1
  obtain ⟨t, rfl⟩ := r1
  exact ⟨some i, H1, I1, .int i t, q⟩

noncomputable def SlR (X : Cx) (r : V → Option Int → Option Int → Hp → VK → Prop) : Prop :=
  ∀ (pins : List (Addr × Obj)) (s : Shared) (σ : St) (H : Hp) (x : V) (v vl vu : Value) (lo hi : Option Int) (sl : Addr) (Q : VK), Inv X pins σ H s → RelV x v → s.heap.IsSliceOf sl vl vu .none → IsPart vl lo → IsPart vu hi → r x lo hi H Q →
    ∃ T id, typeLookup (.type T) "__getitem__" = pure (some (.builtin id)) ∧ s.TypeIs v T ∧ wpAny (model X.prog X.w) X.A (getItem v (.ref sl)) (EP X pins σ Q) X.xe s
noncomputable def tSl (r : V → Option Int → Option Int → Hp → VK → Prop) (te : TE) (tl th : TO) : TE := fun σ H Q => te σ H fun x H1 => tl σ H1 fun l H2 => th σ H2 fun u H3 => r x l u H3 Q
theorem pe_slice {r : V → Option Int → Option Int → Hp → VK → Prop} (hr : SlR X r) (he : PE X e te) (hl : PO X lo tl) (hu : PO X hi th) : PE X (.Subscript e (.Slice lo hi none p2) pos) (tSl r te tl th) := by
  intro pins s σ H Q I h
  refine Subscript_ (thn (he pins s σ H _ I h) fun v s1 ⟨x, H1, I1, r1, q1⟩ => ?_)
  refine wpAny_Slice (thn (hl pins s1 σ H1 _ I1 q1) fun vl s2 ⟨l, H2, I2, pl, q2⟩ => thn (hu pins s2 σ H2 _ I2 q2) fun vu s3 ⟨u, H3, I3, pu, q3⟩ => ?_)
  rw [evalPart_none]
  refine wpAny_pure ?_
  have I4 : Inv X pins σ H3 { s3 with heap := s3.heap.push { cls := .type "slice", data := .fields #[vl, vu, .none] } } := I3.kept (t' := s3.toks) fun b ob q => Heap.get?_push_of_some _ q
  obtain ⟨T, id, hT, ht, hg⟩ := hr pins { s3 with heap := s3.heap.push { cls := .type "slice", data := .fields #[vl, vu, .none] } } σ H3 x v vl vu l u s3.heap.objs.size Q I4 r1 (Heap.IsSliceOf.new ..) pl pu q3
  show wpAny (model X.prog X.w) X.A (subscriptTail e (.Slice lo hi none p2) v (.ref s3.heap.objs.size)) (EP X pins σ Q) X.xe { s3 with heap := s3.heap.push { cls := .type "slice", data := .fields #[vl, vu, .none] } }
  exact tail_any (ops := [.ref s3.heap.objs.size, v]) ht hT hg (by with_unfolding_all rfl)

noncomputable def cutV (xs : List V) (lo hi : Option Int) : List V := (xs.drop (HT.sIx xs.length 0 lo)).take (HT.sIx xs.length xs.length hi - HT.sIx xs.length 0 lo)
theorem cutV_length (xs : List V) (lo hi : Option Int) : (cutV xs lo hi).length ≤ xs.length := by
  unfold cutV
  rw [List.length_take, List.length_drop]
  omega

end
end L2

namespace L2
open PySem PySem.Spec PyProof.Rows

noncomputable def ixN (n : Nat) (i : Int) : Option Nat := if 0 ≤ i then (if i < n then some i.toNat else none) else if -(n : Int) ≤ i then some (i + n).toNat else none
noncomputable def atI {α : Type} (xs : List α) (i : Int) : Option α := (ixN xs.length i).bind fun j => xs[j]?
theorem ixN_seq {n : Nat} {i : Int} {j : Nat} (h : ixN n i = some j) : seqIndex? i n = some j ∧ j < n ∧ -(n : Int) ≤ i ∧ i < n := by
  unfold ixN at h
  by_cases h0 : 0 ≤ i
  · rw [if_pos h0] at h
    by_cases h1 : i < n
    · rw [if_pos h1] at h
      have e : i.toNat = j := Option.some.inj h
      exact ⟨by rw [seqIndex_of h0 h1, e], by omega, by omega, h1⟩
    · rw [if_neg h1] at h; cases h
  · rw [if_neg h0] at h
    by_cases h1 : -(n : Int) ≤ i
    · rw [if_pos h1] at h
      have e : (i + n).toNat = j := Option.some.inj h
      exact ⟨by rw [seqIndex_neg (by omega) h1, e], by omega, h1, by omega⟩
    · rw [if_neg h1] at h; cases h
theorem atI_get {α : Type} {xs : List α} {i : Int} {v : α} (h : atI xs i = some v) : ∃ j, seqIndex? i xs.length = some j ∧ xs[j]? = some v ∧ j < xs.length ∧ -(xs.length : Int) ≤ i ∧ i < xs.length := by
  unfold atI at h
  cases e : ixN xs.length i with
  | none => rw [e] at h; cases h
  | some j =>
    rw [e] at h
    obtain ⟨h1, h2, h3, h4⟩ := ixN_seq e
    exact ⟨j, h1, h, h2, h3, h4⟩
theorem atI_nat {α : Type} {xs : List α} {j : Nat} {v : α} (h : xs[j]? = some v) : atI xs (j : Int) = some v := by
  have hj : j < xs.length := (List.getElem?_eq_some_iff.mp h).1
  have e : ixN xs.length (j : Int) = some j := by
    unfold ixN
    rw [if_pos (by omega), if_pos (by omega)]; simp
  unfold atI; rw [e]; exact h

noncomputable def PlainIx (b : Expr) : Prop := ∀ o i, subscripted b false o i = operate [o, i] (getItem o i)
noncomputable def IxR (X : Cx) (r : R2) : Prop :=
  ∀ (value slice : Expr) (pins : List (Addr × Obj)) (s : Shared) (σ : St) (H : Hp) (x y : V) (v u : Value) (Q : VK), Inv X pins σ H s → RelV x v → RelV y u → r x y H Q →
    subscripted slice false v u = operate [v, u] (getItem v u) → wpAny (model X.prog X.w) X.A (subscriptTail value slice v u) (EP X pins σ Q) X.xe s
noncomputable def MtR (X : Cx) (id : String) (r : V → List V → Hp → VK → Prop) : Prop :=
  ∀ (pins : List (Addr × Obj)) (s : Shared) (σ : St) (H : Hp) (x : V) (xs : List V) (v : Value) (us : List Value) (Q : VK), Inv X pins σ H s → RelV x v → Vals xs us → r x xs H Q →
    wpAny (model X.prog X.w) X.A (call (.builtin id) (v :: us)) (EP X pins σ Q) X.xe s
section
variable {X : Cx} {a b : Expr} {ta tb : TE} {pos : Pos}
theorem pe_ix {r : R2} (hr : IxR X r) (ha : PE X a ta) (hb : PE X b tb) (hs : PlainIx b) : PE X (.Subscript a b pos) (tOp r ta tb) := by
  intro pins s σ H Q I h
  exact Subscript_ (binT ha hb I h fun v u s2 x y H2 I2 rx ry q => hr a b pins s2 σ H2 x y v u Q I2 rx ry q (hs _ _))

noncomputable def rIxL (K : PySem.W.Frag) : R2 := fun x y H Q => ∃ p xs i v, x = .ref p ∧ y = .int i ∧ SqL K H p xs ∧ atI xs i = some v ∧ Q v H
noncomputable def rIxT (K : PySem.W.Frag) : R2 := fun x y H Q => ∃ p xs i v, x = .ref p ∧ y = .int i ∧ SqT K H p xs ∧ atI xs i = some v ∧ Q v H
theorem ix_list : IxR X (rIxL X.K) := by
  intro value slice pins s σ H x y v u Q I rx ry h hs
  obtain ⟨p, xs, i, z, rfl, rfl, hq, he, q⟩ := h
  cases rx
  obtain ⟨t, rfl⟩ := ry
  obtain ⟨its, r, pl, hz⟩ := I.list hq
  obtain ⟨j, h1, h2, h3, h4, h5⟩ := atI_get he
  obtain ⟨w, ew, rw'⟩ := r.get h2
  have hl := r.length
  have hn := line63
  have fin : EP X pins σ Q w s := ⟨z, H, I, rw', q⟩
  by_cases h0 : 0 ≤ i
  · have hj : i.toNat = j := by
      rw [seqIndex_of h0 h5] at h1
      exact Option.some.inj h1
    exact item_listR pl.isList h0 (by omega) (by rw [hj]; simpa using ew) fin hs
  · have hj : (i + (its.toArray.size : Int)).toNat = j := by
      rw [seqIndex_neg (by omega) h4] at h1
      rw [List.size_toArray, ← hl]
      exact Option.some.inj h1
    exact subscriptTail_builtinR (x := w) pl.isList.typeIs slot_list_getitem.lookup
      (wpAny_getItem_list_neg (Q := fun r s' => r = w ∧ EP X pins σ Q r s') pl.isList (by omega) (by rw [List.size_toArray] <;> omega) (by omega) (by rw [hj]; simpa using ew) ⟨rfl, fin⟩) hs
theorem ix_tup : IxR X (rIxT X.K) := by
  intro value slice pins s σ H x y v u Q I rx ry h hs
  obtain ⟨p, xs, i, z, rfl, rfl, hq, he, q⟩ := h
  cases rx
  obtain ⟨t, rfl⟩ := ry
  obtain ⟨its, r, pl, hz⟩ := I.tuple hq
  obtain ⟨j, h1, h2, h3, h4, h5⟩ := atI_get he
  obtain ⟨w, ew, rw'⟩ := r.get h2
  have hl := r.length
  have hn := line63
  have fin : EP X pins σ Q w s := ⟨z, H, I, rw', q⟩
  exact subscriptTail_builtinR (x := w) pl.typeIs slot_tuple_getitem.lookup
    (getItem_tuple (j := j) (Q := fun r s' => r = w ∧ EP X pins σ Q r s') pl (by omega) (by omega) (by rw [List.size_toArray, ← hl]; exact h1) (by simpa using ew) ⟨rfl, fin⟩) hs

theorem mapSeq_set (its : List Value) (n j : Nat) (u : Value) : Obj.mapSeq (·.setIfInBounds j u) { cls := .type "list", data := .seq its.toArray n } = { cls := .type "list", data := .seq (its.set j u).toArray n } := by
  simp [Obj.mapSeq]
theorem Inv.lst {pins : List (Addr × Obj)} {σ : St} {H : Hp} {s : Shared} {p : Addr} {xs : List V} (I : Inv X pins σ H s) (h : H p = some (.lst xs)) :
    ∃ (its : List Value) (n : Nat), Vals xs its ∧ s.heap.get? p = some { cls := .type "list", data := .seq its.toArray n } ∧ xs.length ≤ sizeLine := by
  obtain ⟨z, its, n, r, e⟩ := I.hok p _ h
  exact ⟨its, n, r, e, z⟩
theorem Inv.lstUpd {pins : List (Addr × Obj)} {σ : St} {H : Hp} {s : Shared} {p : Addr} {xs ys : List V} {its its' : List Value} {n n' : Nat} {f : Obj → Obj} (I : Inv X pins σ H s) (h : H p = some (.lst xs))
    (ho : s.heap.get? p = some { cls := .type "list", data := .seq its.toArray n }) (hf : f { cls := .type "list", data := .seq its.toArray n } = { cls := .type "list", data := .seq its'.toArray n' }) (r : Vals ys its') (hz : ys.length ≤ sizeLine) (t : Nat) :
    Inv X pins σ (upd H p (.lst ys)) { s with heap := s.heap.update p f, toks := t } := by
  have e : (s.heap.update p f).get? p = some { cls := .type "list", data := .seq its'.toArray n' } := by
    rw [Heap.get?_update_self f ho (by rw [hf] <;> rfl), hf]
  refine I.write (x := p) (e := p) (by rw [h]; trivial) (.inl rfl) (fun b u hb q => (Heap.get?_update_other _ _ (Ne.symm hb)).trans q) ⟨_, e⟩ ?_
  exact ⟨hz, its', n', r, e⟩
noncomputable def rSetL : V → V → V → Hp → (Hp → Prop) → Prop := fun o i v H Q => ∃ p xs k j, o = .ref p ∧ i = .int k ∧ H p = some (.lst xs) ∧ ixN xs.length k = some j ∧ Q (upd H p (.lst (xs.set j v)))
theorem set_list : PSet X rSetL := by
  intro pins s σ H o i v ov iv u Q I ro ri rv h
  obtain ⟨p, xs, k, j, rfl, rfl, hp, hj, q⟩ := h
  cases ro
  obtain ⟨t, rfl⟩ := ri
  obtain ⟨its, n, r, ho, hz⟩ := I.lst hp
  obtain ⟨h1, h2, h3, h4⟩ := ixN_seq hj
  have hl := r.length
  have hn := line63
  have I' : Inv X pins σ (upd H p (.lst (xs.set j v))) { s with heap := s.heap.update p (Obj.mapSeq (·.setIfInBounds j u)) } :=
    I.lstUpd hp ho (mapSeq_set its n j u) (r.set rv j) (by rw [List.length_set]; exact hz) s.toks
  by_cases h0 : 0 ≤ k
  · have hk : k.toNat = j := by
      rw [seqIndex_of h0 h4] at h1
      exact Option.some.inj h1
    exact PySem.W.ki_setAt ho h0 (by omega) (by rw [List.size_toArray, ← hl]; exact h4) (by rw [hk]; exact ⟨_, I', q⟩)
  · have hk : (k + (its.toArray.size : Int)).toNat = j := by
      rw [seqIndex_neg (by omega) h3] at h1
      rw [List.size_toArray, ← hl]
      exact Option.some.inj h1
    exact PySem.W.ki_setBack ho (by omega) (by rw [List.size_toArray, ← hl]; exact h3) (by omega) (by rw [hk]; exact ⟨_, I', q⟩)

theorem slice_bounds (lo hi : Option Int) (n : Nat) : (sliceBounds lo hi none n).1 = ((HT.sIx n 0 lo : Nat) : Int) ∧ (sliceBounds lo hi none n).2.1 = ((HT.sIx n n hi : Nat) : Int) ∧ (sliceBounds lo hi none n).2.2 = 1 := by
  refine ⟨?_, ?_, rfl⟩
  · cases lo with
    | none => simp [sliceBounds, HT.sIx]
    | some i =>
      simp only [sliceBounds, HT.sIx, Option.getD_none, show (1 : Int) > 0 by decide, if_true]
      by_cases h : i < 0
      · simp only [h, if_true] <;> omega
      · simp only [h, if_false] <;> omega
  · cases hi with
    | none => simp [sliceBounds, HT.sIx]
    | some i =>
      simp only [sliceBounds, HT.sIx, Option.getD_none, show (1 : Int) > 0 by decide, if_true]
      by_cases h : i < 0
      · simp only [h, if_true] <;> omega
      · simp only [h, if_false] <;> omega
theorem slicePick_cut (its : List Value) (lo hi : Option Int) : slicePick its.toArray lo hi none = ((its.drop (HT.sIx its.length 0 lo)).take (HT.sIx its.length its.length hi - HT.sIx its.length 0 lo)).toArray := by
  obtain ⟨h1, h2, h3⟩ := slice_bounds lo hi its.toArray.size
  unfold slicePick
  rw [h1, h2, h3]
  simp only [sliceRange_one, pick_run, List.size_toArray] <;> rfl
noncomputable def rSlL (K : PySem.W.Frag) : V → Option Int → Option Int → Hp → VK → Prop := fun x lo hi H Q => ∃ a xs, x = .ref a ∧ SqL K H a xs ∧ ∀ p, H p = none → Q (.ref p) (upd H p (.lst (cutV xs lo hi)))
theorem sl_list : SlR X (rSlL X.K) := by
  intro pins s σ H x v vl vu lo hi sl Q I rx hs pl pu h
  obtain ⟨a, xs, rfl, hx, q⟩ := h
  cases rx
  obtain ⟨its, r, ht, hz⟩ := I.list hx
  have hlen := r.length
  refine ⟨"list", _, slot_list_getitem.lookup, ht.isList.typeIs, ?_⟩
  refine wpAny_getItem_list_slice ht.isList hs pl pu .none (by simp) ?_ (by rw [List.size_toArray] <;> omega)
  rw [slicePick_cut, ← hlen]
  refine ⟨.ref s.heap.objs.size, _, I.laid (t' := s.toks) (o := .lst (cutV xs lo hi)) (fun b ob q => Heap.get?_push_of_some _ q) (Nat.le_refl _) ?_, rfl, q _ (I.hok.fresh (Nat.le_refl _))⟩
  exact ⟨Nat.le_trans (cutV_length xs lo hi) hz, _, 0, (r.drop (HT.sIx xs.length 0 lo)).take (HT.sIx xs.length xs.length hi - HT.sIx xs.length 0 lo), Heap.get?_push_size _ rfl⟩


theorem call_len_seq : CallR X (.builtin "len") (fun xs H Q => ∃ p ys, xs = [.ref p] ∧ (SqL X.K H p ys ∨ SqT X.K H p ys) ∧ Q (.int ys.length) H) := by
  intro pins s σ H xs us Q I r h
  obtain ⟨p, ys, rfl, hq, q⟩ := h
  obtain ⟨u, rfl, rx⟩ := vals1 r
  cases rx
  have hn := line63
  rcases hq with hq | hq
  · obtain ⟨its, r', pl, hz⟩ := I.list hq
    have hlen := r'.length
    exact Calls.call_len_list pl.isList (by simp only [List.size_toArray] <;> omega) ⟨.int ys.length, H, I.tok _, ⟨s.toks + 1, by rw [List.size_toArray, hlen]⟩, q⟩
  · obtain ⟨its, r', pl, hz⟩ := I.tuple hq
    have hlen := r'.length
    exact len_tuple pl (by simp only [List.size_toArray] <;> omega) ⟨.int ys.length, H, I.tok _, ⟨s.toks + 1, by rw [List.size_toArray, hlen]⟩, q⟩
theorem call_list_of : CallR X (.type "list") (fun xs H Q => ∃ p ys, xs = [.ref p] ∧ (SqL X.K H p ys ∨ SqT X.K H p ys) ∧ ∀ l, H l = none → Q (.ref l) (upd H l (.lst ys))) := by
  intro pins s σ H xs us Q I r h
  obtain ⟨p, ys, rfl, hq, q⟩ := h
  obtain ⟨u, rfl, rx⟩ := vals1 r
  cases rx
  have fin : ∀ (its : List Value), Vals ys its → ys.length ≤ sizeLine → ∀ (h' : Heap) (c' : Nat), (∀ b o', s.heap.get? b = some o' → h'.get? b = some o') →
      h'.get? s.heap.objs.size = some { cls := .type "list", dict := none, data := .seq its.toArray c', slots := #[] } → EP X pins σ Q (.ref s.heap.objs.size) { s with heap := h' } := fun its r' hz h' c' kp e =>
    ⟨.ref s.heap.objs.size, _, I.laid (t' := s.toks) kp (Nat.le_refl _) (show ObjOk X.prog X.w _ h' _ (.lst ys) from ⟨hz, its, c', r', e⟩), rfl, q _ (I.hok.fresh (Nat.le_refl _))⟩
  rcases hq with hq | hq
  · obtain ⟨its, r', pl, hz⟩ := I.list hq
    have hlen := r'.length
    obtain ⟨o, ho, hc, n, hd⟩ := pl.isList
    exact call_list_seq p (.inl rfl) ho hc hd (fun h' c' kp e => fin its r' hz h' c' kp e) (by simp only [List.size_toArray] <;> omega)
  · obtain ⟨its, r', pl, hz⟩ := I.tuple hq
    have hlen := r'.length
    obtain ⟨o, ho, hc, n, hd⟩ := pl
    exact call_list_seq p (.inr rfl) ho hc hd (fun h' c' kp e => fin its r' hz h' c' kp e) (by simp only [List.size_toArray] <;> omega)
theorem call_tuple_of : CallR X (.type "tuple") (fun xs H Q => ∃ p ys, xs = [.ref p] ∧ ((SqL X.K H p ys ∧ ∀ l, H l = none → Q (.ref l) (upd H l (.tup ys))) ∨ (SqT X.K H p ys ∧ Q (.ref p) H))) := by
  intro pins s σ H xs us Q I r h
  obtain ⟨p, ys, rfl, h⟩ := h
  obtain ⟨u, rfl, rx⟩ := vals1 r
  cases rx
  rcases h with ⟨hq, q⟩ | ⟨hq, q⟩
  · obtain ⟨its, r', pl, hz⟩ := I.list hq
    have hlen := r'.length
    refine call_tuple_list pl.isList (fun h' kp => ?_) (by simp only [List.size_toArray] <;> omega)
    have I1 : Inv X pins σ H { s with heap := h' } := I.kept (t' := s.toks) kp
    have I2 : Inv X pins σ (upd H h'.objs.size (.tup ys)) { s with heap := h'.push { cls := .type "tuple", data := .seq its.toArray } } :=
      I1.laid (t' := s.toks) (fun b o e => Heap.get?_push_of_some _ e) (Nat.le_refl _) (show ObjOk X.prog X.w _ _ _ (.tup ys) from ⟨hz, its, r', IsTup.new _ _⟩)
    exact ⟨.ref h'.objs.size, _, I2, rfl, q _ (I1.hok.fresh (Nat.le_refl _))⟩
  · obtain ⟨its, r', pl, hz⟩ := I.tuple hq
    exact call_tuple_same pl ⟨.ref p, H, I, rfl, q⟩

noncomputable def tyV (K : PySem.W.Frag) (T : String) (x : V) (H : Hp) : Prop := match x with
  | .str _ => T = "str"
  | .int _ => T = "int"
  | .ref p => (T = "list" ∧ ∃ xs, SqL K H p xs) ∨ (T = "tuple" ∧ ∃ o, K.lookup p = some o ∧ o.cls = .type "tuple" ∧ o.dict = none) ∨
      (T = "dict" ∧ ((∃ kvs, H p = some (.dK kvs)) ∨ ∃ kvs, H p = some (.dT kvs))) ∨ (T = "set" ∧ ∃ S n, H p = some (.set S n))
  | _ => False
theorem tyV_is {pins : List (Addr × Obj)} {σ : St} {H : Hp} {s : Shared} {T : String} {x : V} {v : Value} (I : Inv X pins σ H s) (r : RelV x v) (ty : tyV X.K T x H) :
    s.TypeIs v T ∧ ∀ a, v = .ref a → ∃ ob, s.heap.get? a = some ob ∧ ob.dict = none := by
  cases x with
  | str z =>
    obtain ⟨t, rfl⟩ := r
    cases (show T = "str" from ty)
    exact ⟨typeIs_str s z t, fun _ e => nomatch e⟩
  | int i =>
    obtain ⟨t, rfl⟩ := r
    cases (show T = "int" from ty)
    exact ⟨typeIs_int s i t, fun _ e => nomatch e⟩
  | ref p =>
    cases r
    rcases ty with ⟨rfl, xs, hq⟩ | ⟨rfl, o, hk, hc, hd⟩ | ⟨rfl, hk⟩ | ⟨rfl, S, n, hk⟩
    · obtain ⟨its, _, pl, _⟩ := I.list hq
      refine ⟨pl.isList.typeIs, fun a e => ?_⟩
      cases e
      obtain ⟨o, n, e, c, hd, _⟩ := pl
      exact ⟨o, e, hd⟩
    · refine ⟨⟨o, I.kIn p o hk, hc⟩, fun a e => ?_⟩
      cases e
      exact ⟨o, I.kIn _ o hk, hd⟩
    · have z : ∃ o, s.heap.get? p = some o ∧ o.ExactDict := by
        rcases hk with ⟨kvs, hk⟩ | ⟨kvs, hk⟩
        · obtain ⟨_, _, _, _, o, _, _, e, ex, _⟩ := I.hok p _ hk
          exact ⟨o, e, ex⟩
        · obtain ⟨_, _, _, _, o, _, _, e, ex, _⟩ := I.hok p _ hk
          exact ⟨o, e, ex⟩
      obtain ⟨o, e, ex⟩ := z
      refine ⟨⟨o, e, ex.1⟩, fun a e2 => ?_⟩
      cases e2
      exact ⟨o, e, ex.2.1⟩
    · obtain ⟨o, _, _, _, e, ex, _⟩ := I.hok p _ hk
      refine ⟨⟨o, e, ex.1⟩, fun a e2 => ?_⟩
      cases e2
      exact ⟨o, e, ex.2.1⟩
  | _ => exact False.elim ty
noncomputable def tBM0 (K : PySem.W.Frag) (T : String) (r : V → List V → Hp → VK → Prop) (to : TE) : TE := fun σ H Q => to σ H fun x H1 => tyV K T x H1 ∧ r x [] H1 Q
noncomputable def tBM (K : PySem.W.Frag) (T : String) (r : V → List V → Hp → VK → Prop) (to : TE) (t : TA) : TE := fun σ H Q => to σ H fun x H1 => tyV K T x H1 ∧ t σ H1 fun xs H2 => r x xs H2 Q
variable {o e : Expr} {es : List Expr} {to : TE} {t : TA} {name : Str} {apos cpos : Pos} {T id : String} {r : V → List V → Hp → VK → Prop}
theorem pe_bm0 (pa : PlainAttrs T) (slot : Slot T name id) (hty : typeOf (.builtin id) = pure (.type "method_descriptor")) (hm : MtR X id r) (ho : PE X o to)
    (hbase : attributeBase o name X.env (eval o X.env) = eval o X.env := by rfl) (hline : (apos.endLine == cpos.line) = true := by rfl) : PE X (.Call (.Attribute o name apos) [] [] cpos) (tBM0 X.K T r to) := by
  intro pins s σ H Q I h
  refine wpAny_Call_method0_late hbase hline (thn (ho pins s σ H _ I h) fun v s1 ⟨x, H1, I1, r1, ty, q1⟩ => ?_)
  obtain ⟨h1, h2⟩ := tyV_is I1 r1 ty
  exact ⟨T, id, pa, slot, hty, h1, h2, Calls.callWith_builtin rfl (PySem.evalArgs_none (hm pins s1 σ H1 x [] v [] Q I1 r1 .nil q1))⟩
theorem pe_bm (pa : PlainAttrs T) (slot : Slot T name id) (hty : typeOf (.builtin id) = pure (.type "method_descriptor")) (hm : MtR X id r) (ho : PE X o to) (ha : PA X (e :: es) t)
    (hbase : attributeBase o name X.env (eval o X.env) = eval o X.env := by rfl)
    (hfew : ((backTo cpos (starEach (e :: es) X.env)).all (fun x => !x.1) && (backToKw cpos (keywordEach [] X.env)).all (fun x => x.1.isSome)
      && decide ((e :: es).length + ([] : List Keyword).length + (if ([] : List Keyword).isEmpty then 0 else 1) < 30)) = true := by rfl)
    (hline : (apos.endLine == cpos.line) = true := by rfl) (hs : starEach (e :: es) X.env = (false, eval e X.env) :: starEach es X.env := by rfl) (hplain : (backTo cpos (starEach es X.env)).any (·.1) = false := by rfl) :
    PE X (.Call (.Attribute o name apos) (e :: es) [] cpos) (tBM X.K T r to t) := by
  intro pins s σ H Q I h
  refine wpAny_Call_method_late hbase hfew hline rfl (thn (ho pins s σ H _ I h) fun v s1 ⟨x, H1, I1, r1, ty, q1⟩ => ?_)
  obtain ⟨h1, h2⟩ := tyV_is I1 r1 ty
  refine ⟨T, id, pa, slot, hty, h1, h2, ?_⟩
  have hA := ha cpos pins s1 σ H1 _ I1 q1
  rw [hs] at hA ⊢
  refine Calls.callWith_builtin (by show (false || (backTo cpos (starEach es X.env)).any (·.1)) = false; rw [hplain] <;> rfl) (Calls.evalArgs_plain ?_)
  exact thn hA fun us s2 ⟨vs, H2, I2, r2, q2⟩ => hm pins s2 σ H2 x vs v us Q I2 r1 r2 q2
/- xs.append(e), list.index on a module's tuple .. are MtR facts of 06m -/
end
end L2

namespace L2
open PySem PySem.Spec PyProof.Rows

noncomputable def MtM (X : Cx) (id : String) (r : V → List V → Hp → VK → Prop) : Prop :=
  ∀ (pins : List (Addr × Obj)) (s : Shared) (σ : St) (H : Hp) (x : V) (xs : List V) (v : Value) (us : List Value) (Q : VK), Inv X pins σ H s → RelV x v → Vals xs us → r x xs H Q →
    wpAny (model X.prog X.w) X.A (call (.builtin id) (v :: us)) (EP X pins σ Q) X.xe s

theorem Vals.one : ∀ {x : V} {us : List Value}, Vals [x] us → ∃ u, us = [u] ∧ RelV x u
  | _, _, .cons r .nil => ⟨_, rfl, r⟩
theorem Vals.rep {xs : List V} {us : List Value} (h : Vals xs us) : ∀ k : Nat, Vals (List.replicate k xs).flatten (List.replicate k us).flatten
  | 0 => .nil
  | k + 1 => by
    rw [List.replicate_succ, List.replicate_succ, List.flatten_cons, List.flatten_cons]
    exact Vals.append h (Vals.rep h k)
theorem foldl_rep (its : List Value) : ∀ (k : Nat) (acc : List Value),
    List.foldl (fun x1 x2 => x1 ++ x2) acc.toArray (List.replicate k its.toArray) = (acc ++ (List.replicate k its).flatten).toArray
  | 0, acc => by simp
  | k + 1, acc => by
    have e : acc.toArray ++ its.toArray = (acc ++ its).toArray := by simp
    have e2 : (acc ++ its) ++ (List.replicate k its).flatten = acc ++ (List.replicate (k + 1) its).flatten := by
      rw [List.replicate_succ, List.flatten_cons, List.append_assoc]
    rw [← e2, ← foldl_rep its k (acc ++ its), ← e, List.replicate_succ, List.foldl_cons]

section
variable {X : Cx} {pins : List (Addr × Obj)} {σ : St} {H : Hp} {s : Shared} {l b : Addr} {xs ys zs : List V}

theorem Inv.lset {its its' : List Value} {n : Nat} {f : Array Value → Array Value} {t' : Nat} (I : Inv X pins σ H s) (hH : H l = some (.lst xs))
    (e : s.heap.get? l = some { cls := .type "list", data := .seq its.toArray n }) (hf : f its.toArray = its'.toArray) (hv : Vals ys its') (hz : ys.length ≤ sizeLine) :
    Inv X pins σ (upd H l (.lst ys)) { s with heap := s.heap.update l (Obj.mapSeq f), toks := t' } := by
  have q := PySem.IsL.update e f
  rw [hf] at q
  refine I.write (x := l) (e := l) (by rw [hH]; exact trivial) (.inl rfl) (fun b' u hb hu => (Heap.get?_update_other s.heap (Obj.mapSeq f) (Ne.symm hb)).trans hu) ⟨_, q⟩ ?_
  exact ⟨hz, its', _, hv, q⟩
theorem Inv.lnew {its : List Value} {t' : Nat} (I : Inv X pins σ H s) (hv : Vals ys its) (hz : ys.length ≤ sizeLine) :
    Inv X pins σ (upd H s.heap.objs.size (.lst ys)) { s with heap := s.heap.push { cls := .type "list", data := .seq its.toArray }, toks := t' } :=
  I.laid (fun _ _ q => Heap.get?_push_of_some _ q) (Nat.le_refl _) ⟨hz, its, 0, hv, Heap.get?_push_size _ rfl⟩
theorem Inv.fresh (I : Inv X pins σ H s) : H s.heap.objs.size = none := I.hok.fresh (Nat.le_refl _)
theorem Inv.lstM (I : Inv X pins σ H s) (hH : H l = some (.lst xs)) : xs.length ≤ sizeLine ∧ ∃ (its : List Value) (n : Nat), Vals xs its ∧ xs.length = its.length ∧ s.heap.get? l = some { cls := .type "list", data := .seq its.toArray n } := by
  obtain ⟨z, its, n, r, e⟩ := I.hok l _ hH
  exact ⟨z, its, n, r, r.length, e⟩

theorem notLongL {n : Nat} (h : n ≤ sizeLine) : Builtin.List.listTooLong n = false := by
  unfold Builtin.List.listTooLong
  exact decide_eq_false (by omega)
end

section
variable {X : Cx}

noncomputable def rAppend : V → List V → Hp → VK → Prop := fun x vs H Q => ∃ l xs y, x = .ref l ∧ vs = [y] ∧ H l = some (.lst xs) ∧ xs.length < sizeLine ∧ Q .non (upd H l (.lst (xs ++ [y])))
theorem mt_append : MtM X "list.append" rAppend := by
  intro pins s σ H x vs v us Q I rx rv h
  obtain ⟨l, xs, y, rfl, rfl, hH, hz, q⟩ := h
  cases rx
  obtain ⟨u, rfl, ru⟩ := rv.one
  obtain ⟨z, its, n, r, hl, e⟩ := I.lstM hH
  refine call_meets F.slot_list_append ⟨_, e, rfl⟩ F.entry_list_append (F.args_list_append_2 _ _) (PySem.list_append l its.toArray n u (by rw [List.size_toArray]; omega)) ⟨e, ?_⟩
  refine ⟨.non, _, I.lset (its' := its ++ [u]) hH e (by simp) (r.append (.cons ru .nil)) ?_, rfl, q⟩
  rw [List.length_append, List.length_singleton]
  omega

noncomputable def rExtend : V → List V → Hp → VK → Prop := fun x vs H Q => ∃ l b xs zs, x = .ref l ∧ vs = [.ref b] ∧ H l = some (.lst xs) ∧ H b = some (.lst zs) ∧ xs.length + zs.length ≤ sizeLine ∧ Q .non (upd H l (.lst (xs ++ zs)))
theorem mt_extend : MtM X "list.extend" rExtend := by
  intro pins s σ H x vs v us Q I rx rv h
  obtain ⟨l, b, xs, zs, rfl, rfl, hH, hB, hz, q⟩ := h
  cases rx
  obtain ⟨u, rfl, ru⟩ := rv.one
  cases ru
  obtain ⟨z, its, n, r, hl, e⟩ := I.lstM hH
  obtain ⟨z2, its2, n2, r2, hl2, e2⟩ := I.lstM hB
  have hsz : its.toArray.size + its2.toArray.size ≤ sizeLine := by rw [List.size_toArray, List.size_toArray]; omega
  have hlong : ¬ (!its.toArray.isEmpty && Builtin.List.listTooLong (its.toArray.size + its2.toArray.size)) = true := by
    rw [notLongL hsz, Bool.and_false]
    exact Bool.false_ne_true
  refine call_meets F.slot_list_extend ⟨_, e, rfl⟩ F.entry_list_extend (F.args_list_extend_2 _ _)
    (AutoSeq1.list_extend_list_list_0 l its.toArray n b its2.toArray n2 hlong (by rw [List.size_toArray]; omega) (by omega)) ⟨e, e2, ?_⟩
  refine ⟨.non, _, I.lset (its' := its ++ its2) hH e (by simp) (r.append r2) ?_, rfl, q⟩
  rw [List.length_append]
  omega





noncomputable def rCat : R2 := fun x y H Q => ∃ l b xs zs, x = .ref l ∧ y = .ref b ∧ H l = some (.lst xs) ∧ H b = some (.lst zs) ∧ xs.length + zs.length ≤ sizeLine ∧ ∀ p, H p = none → Q (.ref p) (upd H p (.lst (xs ++ zs)))
theorem op_cat : OpR X (binaryOp .Add) rCat := by
  intro pins s σ H x y v u Q I rx ry h
  obtain ⟨l, b, xs, zs, rfl, rfl, hH, hB, hz, q⟩ := h
  cases rx
  cases ry
  obtain ⟨z, its, n, r, hl, e⟩ := I.lstM hH
  obtain ⟨z2, its2, n2, r2, hl2, e2⟩ := I.lstM hB
  refine PySem.P.add_list e e2 ?_ (by rw [List.size_toArray, List.size_toArray]; omega)
  have ea : its.toArray ++ its2.toArray = (its ++ its2).toArray := by simp
  rw [ea]
  exact ⟨.ref _, _, I.lnew (t' := s.toks) (r.append r2) (by rw [List.length_append]; omega), rfl, q _ I.fresh⟩
noncomputable def rRep : R2 := fun x y H Q => ∃ l k xs, x = .ref l ∧ y = .int k ∧ H l = some (.lst xs) ∧ -(2 ^ 63) ≤ k ∧ k < 2 ^ 63 ∧ xs.length * k.toNat ≤ sizeLine ∧
  ∀ p, H p = none → Q (.ref p) (upd H p (.lst (List.replicate k.toNat xs).flatten))
theorem len_rep {α : Type} (xs : List α) (k : Nat) : (List.replicate k xs).flatten.length = k * xs.length := by
  induction k with
  | zero => simp
  | succ k ih => rw [List.replicate_succ, List.flatten_cons, List.length_append, ih, Nat.succ_mul, Nat.add_comm]
theorem op_rep : OpR X (binaryOp .Mult) rRep := by
  intro pins s σ H x y v u Q I rx ry h
  obtain ⟨l, k, xs, rfl, rfl, hH, h1, h2, hz, q⟩ := h
  cases rx
  obtain ⟨t, rfl⟩ := ry
  obtain ⟨z, its, n, r, hl, e⟩ := I.lstM hH
  have hlen : its.toArray.size * k.toNat ≤ sizeLine := by rw [List.size_toArray, ← hl]; exact hz
  have hcap : ¬ its.toArray.size * k.toNat > (2 ^ 63 - 1) / 8 := by
    have : (sizeLine : Nat) ≤ (2 ^ 63 - 1) / 8 := by decide
    omega
  have hfit : ¬ (!Builtin.List.listFitsIndex k) = true := by
    rw [fitsIndex_both h1 h2]
    exact Bool.false_ne_true
  have hlong : ¬ Builtin.List.listTooLong (its.toArray.size * k.toNat) = true := by
    rw [notLongL hlen]
    exact Bool.false_ne_true
  have hnew : List.foldl (fun x1 x2 => x1 ++ x2) #[] (List.replicate (if its.toArray.isEmpty = true then 0 else k.toNat) its.toArray) = (List.replicate k.toNat its).flatten.toArray := by
    have f0 : ∀ m : Nat, List.foldl (fun x1 x2 => x1 ++ x2) #[] (List.replicate m its.toArray) = (List.replicate m its).flatten.toArray := fun m => by
      have := foldl_rep its m []
      rw [List.nil_append] at this
      exact this
    rw [f0]
    cases its with
    | nil => simp
    | cons a r' => rw [if_neg (by simp)]
  refine wpAny_binaryOp_repeat_ref (T := "list") (U := "int") (by decide) ⟨_, e, rfl⟩ (fun s' => typeIs_int s' k t) noFill_list_mul F.fills_int_mul F.slot_int_rmul repeat_list F.slot_int_index.lookup
    (call_meets F.slot_int_rmul (typeIs_int s k t) F.entry_int_rmul (F.args_int_rmul_2 _ _) (int___rmul___int_list k t l its.toArray n)
      ⟨e, rfl, ⟨_, e, rfl⟩, call_meets F.slot_list_mul ⟨_, e, rfl⟩ F.entry_list_mul (F.args_list_mul_2 _ _) (AutoListH.list___mul___list_int_3 l its.toArray n k t hfit hcap hlong) ⟨e, ?_⟩⟩)
  rw [hnew]
  exact ⟨.ref _, _, I.lnew (t' := s.toks) (r.rep k.toNat) (by rw [len_rep, Nat.mul_comm]; exact hz), rfl, q _ I.fresh⟩

end

section
variable {prog : Program} {w : World} {A : Around} {E : Value → Shared → Prop} {s : Shared}
set_option maxRecDepth 100000 in
end

section
variable {X : Cx}
end
end L2

namespace Att
open PySem PySem.W PySem.Calls PyProof.Rows

theorem ints_of_wellAll {P : Params} {h : Heap} : ∀ (ns : List Int) (vs : List Value), WellAll P h vs (ns.map WData.int) → IntsAre vs ns := by
  intro ns
  induction ns with
  | nil =>
    intro vs w
    rw [List.map_nil] at w
    cases w
    exact .nil
  | cons n ns ih =>
    intro vs w
    rw [List.map_cons] at w
    cases w with
    | cons a b =>
      cases a
      exact .cons _ _ (ih _ b)

theorem script_of {l : OpenLaw} {n : Nat} (hn : l.most = some n) {P : Params} {h : Heap} {args : List WData} {vals : List Value}
    (hpre : l.row.toRowW.claim.pre args = true) (hwl : WellAll P h vals args) :
    ∃ a vs ns, vals = [Value.ref a] ∧ args = [WData.list (ns.map WData.int)] ∧ h.get? a = some { cls := .type "list", data := .seq vs.toArray } ∧ IntsAre vs ns ∧ ns.length ≤ n := by
  have hsh : WShape.hasAll [] args [.list .int] = true := (pre_splitW hpre).1
  have hc : l.pre.holds [] { args := args } = true := (pre_splitW hpre).2
  obtain ⟨d, r, rfl, h1, h2⟩ := hasAllW_cons hsh
  obtain rfl := hasAllW_nil h2
  obtain ⟨xs, rfl, h3⟩ := hasW_list h1
  obtain ⟨ns, rfl⟩ := items_int h3
  have hlen : ns.length ≤ n := by
    unfold OpenLaw.pre at hc
    have h4 : (WTm.not (.lt (.lit (.int (n : Int))) (.len (.arg 0)))).holds [] { args := [.list (ns.map .int)] } = true := by
      have h4 := (holds_andW hc).1
      rw [hn] at h4
      exact h4
    have h5 := condW_of h4 (w_not (w_lt w_lit (w_len_list (w_arg rfl))))
    rw [List.length_map] at h5
    refine Nat.le_of_not_lt fun q => ?_
    have q' : (n : Int) < ((ns.length : Nat) : Int) := by omega
    first
      | (rw [decide_eq_true q'] at h5; exact absurd h5 (by decide))
      | (simp at h5; omega)
  cases hwl with
  | cons w1 w2 =>
    cases w2
    cases w1 with
    | list ho hall => exact ⟨_, _, ns, rfl, rfl, ho, ints_of_wellAll ns _ hall, hlen⟩

theorem post_true (l : OpenLaw) (args : List WData) : l.row.toRowW.claim.post args (.bool true) args = true :=
  postW_of (r := l.row.toRowW) (X := (true == true))
    (show WShape.has [] (.bool true) .bool = true by first | rfl | decide | simp [WShape.has, WShape.arms, WShape.armsAll])
    (show (WTm.eq .res (.lit (.bool true))).value [] { args := args, res := some (.bool true), after := args } = some (.bool (true == true)) from w_eq_bool (w_res rfl) w_lit) rfl


theorem attach_call {l : OpenLaw} {n : Nat} {q : Program} {loose : List Str} {XP : (Str → Option Value) → Heap → Prop} {YP : World → Heap → Prop} {d : DefRec}
    (hn : l.most = some n) (hdf : d.params.defaults = [])
    (call : ∀ (w : World) (s₀ s₁ : Shared) (mg mb : Str → Option Value) (fa : Addr) (o : Obj) (pm cd doc : Value) (a : Addr) (vs : List Value) (ns : List Int),
      Ground q loose [] XP w s₀ mg mb s₁.heap → YP w s₁.heap →
      s₁.heap.get? fa = some o → o.data = .func (docDef d.name d.params d.body d.scope pm cd doc) → s₁.heap.CodeRec cd d.name → mg d.name = some (.ref fa) →
      s₁.heap.get? a = some { cls := .type "list", data := .seq vs.toArray } → IntsAre vs ns → ns.length ≤ n → s₁.gens = #[] →
      codeAny (model l.prog w) callerA (.call (.ref fa) ⟨[.ref a], []⟩) (fun r s' => r = .ok (.ret (.bool true)) ∧ OldK s₁.heap s'.heap ∧ s'.os = s₁.os ∧ AllBare s'.gens) s₁) :
    WalkO q loose XP YP l.row.toRowW d [] (fun f vs => PySem.call f vs) := by
  intro w s₀ s₁ mg mb G Y fa o pm cd doc dV kV ho hd hcd hD hmg hg args vals as hpre hlay hrd hwl hlo
  obtain rfl : dV = .none := Dflts.none hD hdf
  obtain rfl : kV = .none := Dflts.noKw hD
  obtain ⟨a, vs, ns, rfl, rfl, hobj, hints, hlen⟩ := script_of hn hpre hwl
  refine enter_call (codeAny_mono (call w s₀ s₁ mg mb fa o pm cd doc a vs ns G Y ho (fd_plain hd) hcd hmg hobj hints hlen hg) fun r s' hq => ?_)
  obtain ⟨rfl, h2, h3, h4⟩ := hq
  exact ⟨.inl ⟨.bool true, .bool true, [], rfl, fun _ => rfl, .bool true, post_true l _, fun _ => ⟨List.Pairwise.nil, fun _ hm => (nomatch hm)⟩⟩, h2, h3, h4⟩


section
variable {prog : Program} {w : World} {A : Around} {E : Value → Shared → Prop} {s : Shared} {K : Frag}






end
end Att

namespace L2
open PySem PySem.Spec PyProof.Rows

theorem vals_ints : ∀ {vs : List Value} {ns : List Int}, IntsAre vs ns → Vals (ns.map V.int) vs
  | _, _, .nil => .nil
  | _, _, .cons n t h => .cons ⟨t, rfl⟩ (vals_ints h)

noncomputable def Only (H : Hp) : Prop := ∀ b, H b = none ∨ ∃ o xs, H b = some (.frz o (.lst xs))

theorem law_call {P : Program} {w : World} {K : PySem.W.Frag} {mg mb : Str → Option Value} {CX : CXT} {k : Nat} {fa a : Addr} {fd : FuncData} {x : Str} {sp : Sp} {s₁ : Shared} {vs : List Value} {ns : List Int}
    (KX : K.In s₁.heap) (hns : s₁.heap.Ns mainGlobals mg) (hb : s₁.heap.Ns builtinsNs mb) (hbb : ∀ x : Str, x ≠ "__name__" → mb x = bootBuiltins x) (hlim : s₁.heap.NoLimit) (hg : s₁.gens = #[])
    (ha : s₁.heap.get? a = some { cls := .type "list", data := .seq vs.toArray }) (hi : IntsAre vs ns) (hl : ns.length ≤ sizeLine) (hr : Room k callerA)
    (F : ∀ base : Heap, K.In base → base.Ns mainGlobals mg → FnOk P w K mg base CX k fa fd [x] sp) (hbind : ∀ (s : Shared) (u : Value), BindsTo s fd ⟨[u], []⟩ [(x, u)])
    (hsp : ∀ H : Hp, Only H → SqL K H a (ns.map V.int) → sp [.ref a] H (fun v _ => v = .bl true) fun _ _ _ => False)
    (hCX : ∀ H e s', CX [] H s₁ (fun _ _ _ => False) e s' → False) :
    codeAny (model P w) callerA (.call (.ref fa) ⟨[.ref a], []⟩) (fun r s' => r = .ok (.ret (.bool true)) ∧ OldK s₁.heap s'.heap ∧ s'.os = s₁.os ∧ AllBare s'.gens) s₁ := by
  have rv := vals_ints hi
  have lenV := hi.length
  -- from an abstract heap in which nothing but the script may be tracked
  have core : ∀ H : Hp, Only H → SqL K H a (ns.map V.int) → HOk P w H s₁.heap → (∀ b, H b ≠ none → b = a) → (H a ≠ none → K.lookup a = none) →
      codeAny (model P w) callerA (.call (.ref fa) ⟨[.ref a], []⟩) (fun r s' => r = .ok (.ret (.bool true)) ∧ OldK s₁.heap s'.heap ∧ s'.os = s₁.os ∧ AllBare s'.gens) s₁ := by
    intro H hO hS hok hA hK
    have base_of : ∀ {b : Addr} {o : Obj}, s₁.heap.get? b = some o → H b = none → (hidT s₁.heap H).get? b = some o := fun e n => hidT_get e n
    have noA : ∀ {b : Addr} {o : Obj} {es : Array DictEntry} {ep : Nat}, s₁.heap.get? b = some o → o.data = .dict es ep → H b = none := fun {b o es ep} e d => by
      cases q : H b with
      | none => rfl
      | some u =>
        have e' : b = a := hA b (by rw [q]; simp)
        subst e'
        rw [ha] at e; cases e
        have d' : Data.seq vs.toArray _ = Data.dict es ep := d
        cases d'
    have nsK : ∀ {b : Addr} {m : Str → Option Value}, s₁.heap.Ns b m → (hidT s₁.heap H).Ns b m := fun {b m} ⟨o, es, ep, e, d, r⟩ => ⟨o, es, ep, base_of e (noA e d), d, r⟩
    have hKb : K.In (hidT s₁.heap H) := fun b o e => base_of (KX b o e) (by
      cases q : H b with
      | none => rfl
      | some u =>
        have e' : b = a := hA b (by rw [q]; simp)
        subst e'
        rw [hK (by rw [q]; simp)] at e; cases e)
    have hM : Mod K mg (hidT s₁.heap H) := ⟨hKb, nsK hns, ⟨mb, nsK hb, hbb⟩, let ⟨mc, h1, h2⟩ := hlim; ⟨mc, nsK h1, h2⟩⟩
    have e0 : Env0 P w K mg (hidT s₁.heap H) callerA [] s₁ H := ⟨rfl, hM, fun b o e => of_hidT e, Nat.le_of_eq (hidT_size _ _), trivial, fun b hb => absurd (show b ∈ ([] : List Addr) from hb) (by simp), hok, .of_eq hg⟩
    refine codeAny_mono ((F _ hKb (nsK hns)).run callerA [] s₁ H ⟨[.ref a], []⟩ [.ref a] [.ref a] _ _ hr e0 (hbind s₁ (.ref a)) (.cons rfl .nil) (hsp H hO hS)) fun r s' h => ?_
    cases r with
    | error e => exact (hCX H e s' h).elim
    | ok fl =>
      cases fl with
      | next => exact False.elim h
      | brk => exact False.elim h
      | cont => exact False.elim h
      | ret u =>
        obtain ⟨v, H', os, bare, un, hok', r', q⟩ := h
        have q' : v = .bl true := q
        subst q'
        obtain rfl : u = Value.bool true := r'
        refine ⟨rfl, OldK.of_keep fun b o e => ?_, os, bare⟩
        cases q : H b with
        | none => exact un.keep b o e q (by intro z; exact absurd (show b ∈ ([] : List Addr) from z) (by simp)) (by simp)
        | some u =>
          rcases hO b with z | ⟨ob, xs, z⟩
          · rw [q] at z; cases z
          · have z2 := un.frzs b ob _ z
            obtain ⟨e1, _⟩ := hok b _ z
            obtain ⟨e2, _⟩ := hok' b _ z2
            rw [e] at e1; cases e1
            exact e2
  cases hk : K.lookup a with
  | some o =>
    -- the script is one of the module's own objects
    have e := KX a o hk
    rw [ha] at e
    cases e
    refine core (fun _ => none) (fun _ => .inl rfl) (.inr ⟨_, vs.toArray, _, hk, rfl, rfl, rfl, by rw [List.size_toArray, lenV]; exact hl, by simpa using rv⟩) (fun b u z => by have z' : (none : Option HO) = some u := z; cases z') (fun b z => absurd rfl z) fun z => absurd rfl z
  | none =>
    refine core (fun b => if b = a then some (.frz { cls := .type "list", data := .seq vs.toArray } (.lst (ns.map V.int))) else none) (fun b => ?_) (.inl (.inr ⟨{ cls := .type "list", data := .seq vs.toArray }, if_pos rfl⟩)) (fun b u z => ?_) (fun b z => ?_) fun _ => hk
    · by_cases hb : b = a
      · exact .inr ⟨_, _, if_pos hb⟩
      · exact .inl (if_neg hb)
    · by_cases hb : b = a
      · have z' := (if_pos hb).symm.trans z
        cases z'
        subst hb
        exact ⟨ha, by rw [List.length_map]; exact hl, vs, _, rv, ha⟩
      · have z' := (if_neg hb).symm.trans z
        cases z'
    · by_cases hb : b = a
      · exact hb
      · exact absurd (if_neg hb) z
end L2

namespace L2
open PySem PySem.Spec PyProof.Rows


theorem walk_of {l : PySem.W.OpenLaw} {n k : Nat} {q : Program} {loose : List Str} {XP : (Str → Option Value) → Heap → Prop} {YP : World → Heap → Prop} {d : DefRec} {K : Params → PySem.W.Frag} {CX : World → CXT} {sp : World → Sp} {x : Str}
    (hn : l.most = some n) (hn2 : n ≤ sizeLine) (hdf : d.params.defaults = []) (hr : Room k callerA)
    (hY : ∀ (w : World) (h : Heap), YP w h → (K w.params).In h)
    (F : ∀ (w : World) (mg : Str → Option Value) (fa : Addr) (h : Heap), (K w.params).In h → h.Ns mainGlobals mg → mg d.name = some (.ref fa) →
      ∃ fd : FuncData, (∀ (s : Shared) (u : Value), BindsTo s fd ⟨[u], []⟩ [(x, u)]) ∧
        ∀ base : Heap, (K w.params).In base → base.Ns mainGlobals mg → FnOk l.prog w (K w.params) mg base (CX w) k fa fd [x] (sp w))
    (hsp : ∀ (w : World) (H : Hp) (a : Addr) (ns : List Int), ns.length ≤ n → Only H → SqL (K w.params) H a (ns.map V.int) → sp w [.ref a] H (fun v _ => v = .bl true) fun _ _ _ => False)
    (hCX : ∀ (w : World) (H : Hp) (s : Shared) (e : Value) (s' : Shared), CX w [] H s (fun _ _ _ => False) e s' → False) :
    PySem.W.WalkO q loose XP YP l.row.toRowW d [] (fun f vs => PySem.call f vs) := by
  refine Att.attach_call hn hdf fun w s₀ s₁ mg mb fa o pm cd doc a vs ns G Y ho hd hcd hmg hobj hints hlen hg => ?_
  have KX := hY w _ Y
  obtain ⟨fd, hb, hF⟩ := F w mg fa _ KX G.T.g hmg
  exact law_call KX G.T.g G.T.b G.T.builtins G.T.nolimit hg hobj hints (Nat.le_trans hlen hn2) hr hF hb (fun H hO hS => hsp w H a ns hlen hO hS) fun H e s' => hCX w H s₁ e s'
end L2

/- THE LAST THEOREM (shape; LID, My.* are yours):
   My.Adr: a structure of the addresses that your layer names (classes, functions); My.Txt K t: a structure (Prop) of the equations over K;
   My.txt_mk : {K} {implicit addresses ..} (e1 : nsIn K mainGlobals "law" = some (some (.ref f))) (e2 : K.lookup f = some ⟨oc, od, .func (fnOf "law" "law" params body scope dV kV doc pm an cdv ct), sl⟩) (e3 : codeIn K cdv "law" = true) .. : ∃ t, My.Txt K t

set_option maxRecDepth 100000 in
set_option maxHeartbeats 0 in
theorem PySem.Challenge.cw_LID_holds : PySem.Challenge.rw_LID.Holds := by
  w_on; o_law; k_head; (case hw => w_witness2)
  k_fill
  refine L2.walk_of (l := PySem.Challenge.rw_LID) (n := 63) (k := 40) (x := "script") (CX := fun w => ..) (sp := fun _ => My.sp_law) rfl (by decide) rfl ⟨rfl, by decide, by decide⟩ (fun w h Y => PySem.W.kIn_of Y) ?F ?S ?C
  case F =>
    intro w mg fa h KX G hmg
    have T : ∃ t, My.Txt (L2.KOf KX) t := by
      dsimp only [L2.KOf]                          -- K must stand as «<heap const> w.params» for k_is
      refine' My.txt_mk ?e1 ?e2 ?e3 ..
      (case e1 => PySem.W.k_is)                    -- in the order: a name -> its address -> its object -> its parts
      (case e2 => PySem.W.k_is)
      ..
    obtain ⟨t, T⟩ := T
    have e0 := hmg.symm.trans (PySem.W.mg_of KX G T.law)
    cases e0                                       -- fa is the law's own address
    exact ⟨_, fun s u => .of_eq rfl, fun base kb nb => My.law_fn T kb nb⟩     -- if «.of_eq rfl» comes too early: refine' ⟨_, ?b, fun base kb nb => My.law_fn T kb nb⟩; exact fun s u => .of_eq rfl
  case S => exact fun w H a ns hl hO hS => ..
  case C => exact ..
(the tactic k_is has no namespace: write k_is) -/

namespace L2
open PySem PySem.Spec PyProof.Rows

noncomputable def defArgs (s : Stmt) : Arguments := match s with
  | .FunctionDef _ a _ _ _ _ _ _ _ _ => a
  | _ => { posonlyargs := [], args := [], vararg := none, kwonlyargs := [], kw_defaults := [], kwarg := none, defaults := [] }
noncomputable def defBody (s : Stmt) : List Stmt := match s with
  | .FunctionDef _ _ b _ _ _ _ _ _ _ => b
  | _ => []
noncomputable def defScope (s : Stmt) : Scope := match s with
  | .FunctionDef _ _ _ _ _ _ sc _ _ _ => sc
  | _ => { kind := .function, names := [], isGenerator := false, isCoroutine := false }

noncomputable abbrev CX0 : CXT := fun _ _ _ _ _ _ => False
noncomputable abbrev E0 : XK := fun _ _ _ => False
theorem pass0 {X : Cx} : Passes CX0 X E0 := fun _ _ _ _ _ _ _ h => h.elim

structure Fun (K : PySem.W.Frag) (x qual : Str) (st : Stmt) (f : Addr) (fd : FuncData) : Prop where
  ex : ∃ (oc : Value) (od : Option Addr) (kV doc pm : Value) (an : Option Addr) (cdv ct : Value) (osl : Array (Option Value)),
    fd = PySem.W.fnOf x qual (defArgs st) (defBody st) (defScope st) .none kV doc pm an cdv ct ∧ K.lookup f = some ⟨oc, od, .func fd, osl⟩ ∧ PySem.W.codeIn K cdv qual = true
  kp : PySem.W.keepIn K (.ref f) = true
section
variable {P : Program} {w : World} {K : PySem.W.Frag} {mg : Str → Option Value} {base : Heap}
theorem Fun.ok {x qual : Str} {st : Stmt} {f : Addr} {fd : FuncData} {N ps : List Str} {k : Nat} {sp : Sp} (F : Fun K x qual st f fd) (S : FnScope N ps (defScope st)) (len : ∀ vs H Q E, sp vs H Q E → vs.length = ps.length)
    (hbody : ∀ (cdv : Value) (A : Around) (outer : List Env) (s : Shared) (H : Hp) (vs : List V) (Q : VK) (E : XK), Room k (A.deeper (envOfC qual (defScope st) s.heap.objs.size f cdv)) → sp vs H Q E →
      ∃ t, PSs (cxOf CX0 P w K mg base N qual (defScope st) f cdv A outer s H E).nox (defBody st) t ∧ t { nx := fun _ H' => Q .non H', rt := Q } (start N vs) H) : FnOk P w K mg base CX0 (k + 1) f fd ps sp := by
  obtain ⟨oc, od, kV, doc, pm, an, cdv, ct, osl, rfl, lk, hcd⟩ := F.ex
  refine fn_of lk hcd S len fun A outer s H vs Q E hr hsp => ?_
  obtain ⟨t, h, q⟩ := hbody cdv A outer s H vs Q E hr hsp
  exact ⟨t, h.nox, q⟩
theorem Fun.binds {x qual : Str} {st : Stmt} {f : Addr} {fd : FuncData} {ps : List Str} (F : Fun K x qual st f fd)
    (h : ∀ (kV doc pm : Value) (an : Option Addr) (cdv ct : Value) (us : List Value), us.length = ps.length → bindArgs (PySem.W.fnOf x qual (defArgs st) (defBody st) (defScope st) .none kV doc pm an cdv ct) ⟨us, []⟩ = pure (ps.zip us)) : Binds K fd ps [] := by
  obtain ⟨oc, od, kV, doc, pm, an, cdv, ct, osl, rfl, lk, hcd⟩ := F.ex
  exact .all (h kV doc pm an cdv ct)
theorem fun_mk {x qual : Str} {st : Stmt} {f : Addr} {oc : Value} {od an : Option Addr} {osl : Array (Option Value)} {kV doc pm cdv ct : Value} (l : K.lookup f = some ⟨oc, od, .func (PySem.W.fnOf x qual (defArgs st) (defBody st) (defScope st) .none kV doc pm an cdv ct), osl⟩)
    (c : PySem.W.codeIn K cdv qual = true) (k : PySem.W.keepIn K (.ref f) = true) : Fun K x qual st f (PySem.W.fnOf x qual (defArgs st) (defBody st) (defScope st) .none kV doc pm an cdv ct) := ⟨⟨oc, od, kV, doc, pm, an, cdv, ct, osl, rfl, l, c⟩, k⟩
end

section
variable {X : Cx}
theorem pv (i : Nat) {x : Str} {pos : Pos} (hN : X.N[i]? = some x := by rfl) (hv : Vis X.env.scope x := by first | exact Or.inl rfl | exact Or.inr (Or.inl rfl) | exact Or.inr (Or.inr rfl)) (hd : (x == ("__debug__" : Str)) = false := by decide)
    (hcd : (x == ("__classdict__" : Str)) = false := by decide) : PE X (.Name x pos) (tVar i) := pe_var hN hv hd hcd
end

theorem iteF {A B : Prop} (h : B) : if false = true then A else B := by
  rw [if_neg Bool.false_ne_true]
  exact h
theorem iteT {A B : Prop} (h : A) : if true = true then A else B := by
  rw [if_pos rfl]
  exact h
theorem ite2 {c A B : Prop} [Decidable c] (h1 : c → A) (h2 : ¬ c → B) : if c then A else B := by
  by_cases h : c
  · rw [if_pos h]
    exact h1 h
  · rw [if_neg h]
    exact h2 h

noncomputable def Same (H H' : Hp) : Prop := ∀ b o, H b = some o → H' b = some o
theorem Same.refl (H : Hp) : Same H H := fun _ _ h => h
theorem Same.trans {H H1 H2 : Hp} (a : Same H H1) (b : Same H1 H2) : Same H H2 := fun c o h => b c o (a c o h)
theorem Same.free {H H' : Hp} (e : Same H H') {l : Addr} (h : H' l = Option.none) : H l = Option.none := by
  cases q : H l with
  | none => rfl
  | some o =>
    rw [e l o q] at h
    cases h

end L2
set_option maxHeartbeats 4000000
namespace LwM
theorem gcd_one_of_dvd {a b c : Int} (h : Int.gcd a b = 1) (d : c ∣ b) : Int.gcd a c = 1 := by
  have := Int.gcd_dvd_gcd_of_dvd_right a d
  rw [h] at this
  exact Nat.eq_one_of_dvd_one this
theorem gcd_one_of_dvd' {a b c : Int} (h : Int.gcd a b = 1) (d : c ∣ a) : Int.gcd c b = 1 := by
  rw [Int.gcd_comm] at h ⊢
  exact gcd_one_of_dvd h d
theorem add_low {t b o u : Int} (hb : 0 < b) (hu : 0 < u) (g1 : Int.gcd t b = 1) (g2 : Int.gcd o u = 1) :
    (t * (u / (Int.gcd b u : Int)) + o * (b / (Int.gcd b u : Int))) / (Int.gcd (t * (u / (Int.gcd b u : Int)) + o * (b / (Int.gcd b u : Int))) (Int.gcd b u) : Int) = (t * u + o * b) / (Int.gcd (t * u + o * b) (b * u) : Int) ∧
    (b / (Int.gcd b u : Int)) * (u / (Int.gcd (t * (u / (Int.gcd b u : Int)) + o * (b / (Int.gcd b u : Int))) (Int.gcd b u) : Int)) = (b * u) / (Int.gcd (t * u + o * b) (b * u) : Int) := by
  have sp : 0 < Int.gcd b u := Int.gcd_pos_of_ne_zero_left _ (by omega)
  have c1 : Int.gcd (b / (Int.gcd b u : Int)) (u / (Int.gcd b u : Int)) = 1 := Int.gcd_ediv_gcd_ediv_gcd sp
  have d1 : (Int.gcd b u : Int) ∣ b := Int.gcd_dvd_left ..
  have d2 : (Int.gcd b u : Int) ∣ u := Int.gcd_dvd_right ..
  have e1 : (Int.gcd b u : Int) * (b / (Int.gcd b u : Int)) = b := Int.mul_ediv_cancel' d1
  have e2 : (Int.gcd b u : Int) * (u / (Int.gcd b u : Int)) = u := Int.mul_ediv_cancel' d2
  have sp' : (0 : Int) < (Int.gcd b u : Int) := by omega
  generalize hs : (Int.gcd b u : Int) = s at *
  generalize hb' : b / s = b' at *
  generalize hu' : u / s = u' at *
  generalize hT : t * u' + o * b' = T at *
  have v1 : b' ∣ b := ⟨s, by rw [Int.mul_comm]; exact e1.symm⟩
  have v2 : u' ∣ u := ⟨s, by rw [Int.mul_comm]; exact e2.symm⟩
  have x1 : t * u + o * b = s * T := by
    rw [← hT, Int.mul_add, ← Int.mul_assoc, ← Int.mul_assoc, Int.mul_comm s t, Int.mul_comm s o, Int.mul_assoc, Int.mul_assoc, e1, e2]
  have x2 : b * u = s * (b' * u) := by rw [← Int.mul_assoc, e1]
  have x3 : b' * u = s * b' * u' := by rw [Int.mul_comm s b', Int.mul_assoc, e2]
  have y1 : Int.gcd T b' = 1 := by
    rw [← hT, Int.gcd_add_mul_right_left, Int.gcd_mul_right_left_of_gcd_eq_one (gcd_one_of_dvd g1 v1), Int.gcd_comm]
    exact c1
  have y2 : Int.gcd T u' = 1 := by
    rw [← hT, Int.add_comm, Int.gcd_add_mul_right_left, Int.gcd_mul_right_left_of_gcd_eq_one (gcd_one_of_dvd g2 v2)]
    exact c1
  have z : Int.gcd T (b' * u) = Int.gcd T s := by
    rw [x3, Int.gcd_mul_left_right_of_gcd_eq_one y2, Int.gcd_mul_left_right_of_gcd_eq_one y1]
  have g : (Int.gcd (t * u + o * b) (b * u) : Int) = s * (Int.gcd T s : Int) := by
    rw [x1, x2, Int.gcd_mul_left, z, Int.natCast_mul, Int.natAbs_of_nonneg (by omega)]
  rw [g]
  refine ⟨?_, ?_⟩
  · rw [x1, Int.mul_ediv_mul_of_pos _ _ sp']
  · rw [x2, Int.mul_ediv_mul_of_pos _ _ sp']
    exact (Int.mul_ediv_assoc _ (Int.dvd_trans (Int.gcd_dvd_right ..) d2)).symm
theorem mul_low {t b o u : Int} (hb : 0 < b) (hu : 0 < u) (g1 : Int.gcd t b = 1) (g2 : Int.gcd o u = 1) :
    (t / (Int.gcd t u : Int)) * (o / (Int.gcd o b : Int)) = (t * o) / (Int.gcd (t * o) (b * u) : Int) ∧
    (b / (Int.gcd o b : Int)) * (u / (Int.gcd t u : Int)) = (b * u) / (Int.gcd (t * o) (b * u) : Int) := by
  have fp : 0 < Int.gcd t u := Int.gcd_pos_of_ne_zero_right _ (by omega)
  have sp : 0 < Int.gcd o b := Int.gcd_pos_of_ne_zero_right _ (by omega)
  have c1 := Int.gcd_ediv_gcd_ediv_gcd fp
  have c2 := Int.gcd_ediv_gcd_ediv_gcd sp
  have e1 : (Int.gcd t u : Int) * (t / (Int.gcd t u : Int)) = t := Int.mul_ediv_cancel' (Int.gcd_dvd_left ..)
  have e2 : (Int.gcd t u : Int) * (u / (Int.gcd t u : Int)) = u := Int.mul_ediv_cancel' (Int.gcd_dvd_right ..)
  have e3 : (Int.gcd o b : Int) * (o / (Int.gcd o b : Int)) = o := Int.mul_ediv_cancel' (Int.gcd_dvd_left ..)
  have e4 : (Int.gcd o b : Int) * (b / (Int.gcd o b : Int)) = b := Int.mul_ediv_cancel' (Int.gcd_dvd_right ..)
  have fp' : (0 : Int) < (Int.gcd t u : Int) := by omega
  have sp' : (0 : Int) < (Int.gcd o b : Int) := by omega
  generalize (Int.gcd t u : Int) = f at *
  generalize (Int.gcd o b : Int) = s at *
  generalize t / f = t' at *
  generalize u / f = u' at *
  generalize o / s = o' at *
  generalize b / s = b' at *
  have v1 : t' ∣ t := ⟨f, by rw [Int.mul_comm]; exact e1.symm⟩
  have v2 : u' ∣ u := ⟨f, by rw [Int.mul_comm]; exact e2.symm⟩
  have v3 : o' ∣ o := ⟨s, by rw [Int.mul_comm]; exact e3.symm⟩
  have v4 : b' ∣ b := ⟨s, by rw [Int.mul_comm]; exact e4.symm⟩
  have x1 : t * o = (f * s) * (t' * o') := by
    rw [← e1, ← e3]; simp only [Int.mul_assoc, Int.mul_left_comm, Int.mul_comm]
  have x2 : b * u = (f * s) * (b' * u') := by
    rw [← e2, ← e4]; simp only [Int.mul_assoc, Int.mul_left_comm, Int.mul_comm]
  have n1 : Int.gcd (t' * o') b' = 1 := by
    rw [Int.gcd_mul_right_left_of_gcd_eq_one (gcd_one_of_dvd' (gcd_one_of_dvd g1 v4) v1)]
    exact c2
  have n2 : Int.gcd (t' * o') u' = 1 := by
    rw [Int.gcd_mul_right_left_of_gcd_eq_one c1]
    exact gcd_one_of_dvd' (gcd_one_of_dvd g2 v2) v3
  have n3 : Int.gcd (t' * o') (b' * u') = 1 := by
    rw [Int.gcd_mul_right_right_of_gcd_eq_one n1]
    exact n2
  have fs : (0 : Int) < f * s := Int.mul_pos fp' sp'
  have g : (Int.gcd (t * o) (b * u) : Int) = f * s := by
    rw [x1, x2, Int.gcd_mul_left, n3, Nat.mul_one, Int.natAbs_of_nonneg (by omega)]
  rw [g, x1, x2, Int.mul_ediv_cancel_left _ (by omega), Int.mul_ediv_cancel_left _ (by omega)]
  exact ⟨rfl, rfl⟩
end LwM

namespace LwM
theorem gcd_step (a b : Int) : Int.gcd b (a % b) = Int.gcd a b := by
  rw [Int.emod_def, Int.mul_comm b, Int.gcd_sub_mul_right_right, Int.gcd_comm]
theorem gcd_pos (a b : Int) (h : 0 < b) : (1 : Int) ≤ (Int.gcd a b : Int) := by
  have : 0 < Int.gcd a b := Int.gcd_pos_of_ne_zero_right _ (by omega)
  omega
theorem gcd_le (a b : Int) (h : 0 < b) : (Int.gcd a b : Int) ≤ b := Int.le_of_dvd h (Int.gcd_dvd_right a b)
theorem low_same (t b : Int) (h : 0 < b) : (t / (Int.gcd t b : Int) = t ∧ b / (Int.gcd t b : Int) = b) ↔ Int.gcd t b = 1 := by
  have g1 := gcd_pos t b h
  constructor
  · rintro ⟨_, h2⟩
    by_cases g : Int.gcd t b = 1
    · exact g
    · exfalso
      have g2 : (2 : Int) ≤ (Int.gcd t b : Int) := by omega
      have := Int.ediv_lt_of_lt_mul (a := b) (b := b) (c := (Int.gcd t b : Int)) (by omega) (by
        have : b * 2 ≤ b * (Int.gcd t b : Int) := Int.mul_le_mul_of_nonneg_left g2 (by omega)
        omega)
      omega
  · intro g
    rw [g]
    simp
theorem ediv_abs (t g : Int) (h : 1 ≤ g) : (t / g).natAbs ≤ t.natAbs := by
  rcases Int.lt_or_le t 0 with n | n
  · have h1 : t / g < 0 := Int.ediv_neg_of_neg_of_pos n (by omega)
    have h2 : t ≤ t / g := by
      rw [Int.le_ediv_iff_mul_le (by omega)]
      have := Int.mul_le_mul_of_nonpos_left (a := t) (b := g) (c := 1) (by omega) h
      omega
    omega
  · have h1 : 0 ≤ t / g := Int.ediv_nonneg n (by omega)
    have h2 : t / g ≤ t := Int.ediv_le_self g n
    omega
theorem log2_lt {n : Nat} {k : Nat} (hk : 0 < k) (h : n < 2 ^ k) : n.log2 < k := by
  by_cases e : n = 0
  · subst e
    simpa using hk
  · exact (Nat.log2_lt e).mpr h
end LwM

namespace Lw
open PySem PySem.Spec PyProof.Rows L2

inductive Kd where
  | non | bl | int | str | lst | tup
  deriving DecidableEq
noncomputable def Kd.ty : Kd → String
  | .non => "NoneType" | .bl => "bool" | .int => "int" | .str => "str" | .lst => "list" | .tup => "tuple"
inductive KdOf (H : Hp) : V → Kd → Prop where
  | non : KdOf H .non .non
  | bl (b : Bool) : KdOf H (.bl b) .bl
  | int (i : Int) : KdOf H (.int i) .int
  | str (x : Str) : KdOf H (.str x) .str
  | lst {a : Addr} {xs : List V} (e : H a = some (.lst xs)) : KdOf H (.ref a) .lst
  | tup {a : Addr} {xs : List V} (e : H a = some (.tup xs)) : KdOf H (.ref a) .tup
theorem KdOf.ty {K : PySem.W.Frag} {H : Hp} {v : V} {k : Kd} (h : KdOf H v k) : TyOf K H v (.type k.ty) := by
  cases h with
  | non => exact .non
  | bl b => exact .bl b
  | int i => exact .int i
  | str x => exact .str x
  | lst e => exact .lst e
  | tup e => exact .tup e
noncomputable def Kd.isInt : Kd → Bool
  | .int => true | .bl => true | _ => false
noncomputable def Kd.isBool : Kd → Bool
  | .bl => true | _ => false
noncomputable def Kd.isTup : Kd → Bool
  | .tup => true | _ => false
noncomputable def Isi (T : String) (f : Kd → Bool) : Prop := ∀ (K : PySem.W.Frag) (k : Kd), PySem.W.kitOne K (.type k.ty) (.type T) = some (f k)
theorem isi_int : Isi "int" Kd.isInt := fun K k => by cases k <;> rfl
theorem isi_bool : Isi "bool" Kd.isBool := fun K k => by cases k <;> rfl
theorem isi_tup : Isi "tuple" Kd.isTup := fun K k => by cases k <;> rfl
section
variable {X : Cx}
noncomputable def rIsi (T : String) (f : Kd → Bool) : List V → Hp → VK → Prop := fun xs H Q => match xs with
  | [x, y] => y = .ty T ∧ ∃ k, KdOf H x k ∧ Q (.bl (f k)) H
  | _ => False
theorem call_isi {T : String} {f : Kd → Bool} (hf : Isi T f) : CallR X (.builtin "isinstance") (rIsi T f) := by
  intro pins s σ H xs us Q I r h
  match xs, h with
  | [x, y], h =>
    obtain ⟨rfl, k, ty, q⟩ := h
    obtain ⟨u, w', rfl, ru, rw'⟩ := vals2 r
    cases (show w' = Value.type T from rw')
    exact isinst_ok I ru (ty.ty) (hf X.K k) fun tk => ⟨.bl (f k), H, I.tok tk, rfl, q⟩
theorem pe_isi {T : String} {f : Kd → Bool} {x : Str} {e : Expr} {te : TE} {p p2 pos : Pos} (hf : Isi T f) (hm : X.mg "isinstance" = none) (hm2 : X.mg x = none) (hb : bootBuiltins x = some (.type T)) (he : PE X e te)
    (hg : Gl X "isinstance" := by rfl) (hg2 : Gl X x := by rfl) (hn : x ≠ "__name__" := by decide) (hd : (x == ("__debug__" : Str)) = false := by decide)
    (hs : starEach [e, .Name x p2] X.env = (false, eval e X.env) :: starEach [.Name x p2] X.env := by rfl) (hs2 : starEach [.Name x p2] X.env = (false, eval (.Name x p2) X.env) :: starEach [] X.env := by rfl)
    (hpl : (backTo pos (starEach [.Name x p2] X.env)).any (·.1) = false := by rfl) : PE X (.Call (.Name "isinstance" p) [e, .Name x p2] [] pos) (tCB (rIsi T f) (tCons te (tCons (tC (.ty T)) tNil))) :=
  pe_callB (X := X) (p := p) (pos := pos) (call_isi hf) hg hm boot_isinstance (pa_cons he (pa_cons (pe_bltn (v := .ty T) hg2 hm2 hb rfl hn hd) pa_nil hs2) hs) (by decide) (by decide) hs hpl

theorem ints_get : ∀ {vs : List Value} {ns : List Int} {j : Nat} (_ : IntsAre vs ns) (h : j < vs.length), ∃ n t, ns[j]? = some n ∧ vs[j] = .int n t
  | _, _, _, .nil, h => absurd h (Nat.not_lt_zero _)
  | _, _, 0, .cons n t _, _ => ⟨n, t, rfl, rfl⟩
  | _, _, j + 1, .cons _ _ r, h => by
    obtain ⟨n, t, e1, e2⟩ := ints_get (j := j) r (by simpa using h)
    exact ⟨n, t, by simpa using e1, by simpa using e2⟩
theorem ints_len : ∀ {vs : List Value} {ns : List Int}, IntsAre vs ns → vs.length = ns.length
  | _, _, .nil => rfl
  | _, _, .cons _ _ r => by simp [ints_len r]
theorem all_eq (ns ms : List Int) : ((List.range (min ns.length ms.length)).all (fun j => decide (ns[j]? = ms[j]?)) && ns.length == ms.length) = decide (ns = ms) := by
  by_cases e : ns = ms
  · subst e
    simp
  · rw [decide_eq_false e]
    by_cases hl : ns.length = ms.length
    · rw [Bool.and_eq_false_iff]
      left
      rw [← Bool.not_eq_true]
      intro h
      apply e
      rw [List.all_eq_true] at h
      apply List.ext_getElem?
      intro j
      by_cases hj : j < ns.length
      · exact of_decide_eq_true (h j (List.mem_range.mpr (by omega)))
      · rw [List.getElem?_eq_none (by omega), List.getElem?_eq_none (by omega)]
    · simp [hl]
noncomputable def rEqT (K : PySem.W.Frag) : R2 := fun x y H Q => ∃ (a b : Addr) (ns ms : List Int), x = .ref a ∧ y = .ref b ∧ SqT K H a (ns.map V.int) ∧ SqT K H b (ms.map V.int) ∧ Q (.bl (decide (ns = ms))) H
theorem op_eqT (hu : X.A.units < cLine) : OpR X (compareOp .Eq) (rEqT X.K) := by
  intro pins s σ H x y v u Q I rx ry h
  obtain ⟨a, b, ns, ms, rfl, rfl, ha, hb, q⟩ := h
  cases rx
  cases ry
  obtain ⟨its, r1, p1, _⟩ := I.tuple ha
  obtain ⟨its2, r2, p2, _⟩ := I.tuple hb
  have i1 : IntsAre its ns := intsAre_of r1
  have i2 : IntsAre its2 ms := intsAre_of r2
  refine SeqAt.eq_tupleAt (e := fun j => decide (ns[j]? = ms[j]?)) p1 p2 hu (fun j h1 h2 => ?_) ?_
  · obtain ⟨n, t, e1, e2⟩ := ints_get (j := j) i1 (by simpa using h1)
    obtain ⟨m, t', e3, e4⟩ := ints_get (j := j) i2 (by simpa using h2)
    have e5 : its.toArray[j] = .int n t := by simpa using e2
    have e6 : its2.toArray[j] = .int m t' := by simpa using e4
    rw [e5, e6]
    have e7 : decide (ns[j]? = ms[j]?) = (n == m) := by
      rw [e1, e3]
      by_cases e : n = m <;> simp [e]
    rw [e7]
    exact SeqAt.EqAt.int_int _ _ _ _
  · have e8 := all_eq ns ms
    rw [List.size_toArray, List.size_toArray, ints_len i1, ints_len i2, e8]
    exact ⟨.bl (decide (ns = ms)), H, I, rfl, q⟩

noncomputable def CDivL (_ j : Int) : Prop := 0 < j ∧ j.natAbs < 2 ^ 8000
theorem op_fdivL : OpR X (binaryOp .FloorDiv) (rI CDivL fun i j => .int (i / j)) := opI fun i j _ _ _ _ _ hc q => by
  refine floordiv_int (by have := hc.1; omega) ?_ (.inl (PyProof.noPylong_of_log2 (Nat.lt_of_lt_of_le (LwM.log2_lt (by decide) hc.2) (by decide))))
  rw [Int.fdiv_eq_ediv_of_nonneg _ (Int.le_of_lt hc.1)]
  exact q
noncomputable def CMulL (i j : Int) : Prop := i.natAbs < 2 ^ 100000 ∧ j.natAbs < 2 ^ 100000
theorem op_mulL : OpR X (binaryOp .Mult) (rI CMulL fun i j => .int (i * j)) := opI fun _ _ _ _ _ _ _ hc q => mul_int q (IntMulOk.of_bits (Nat.le_trans (PySem.intBits_le_iff.mpr hc.1) (by decide)) (Nat.le_trans (PySem.intBits_le_iff.mpr hc.2) (by decide)))
end

theorem iteP {c : Bool} {A B : Prop} (h : c = true) (a : A) : if c = true then A else B := by
  rw [if_pos h]
  exact a
theorem iteN {c : Bool} {A B : Prop} (h : c = false) (b : B) : if c = true then A else B := by
  subst h
  exact iteF b
theorem seq_join {t k : TS} {D : Ends} {σ : L2.St} {H : Hp} (J : L2.St → Hp → Prop) (h2 : ∀ σ H, J σ H → k D σ H) (h1 : (∀ σ H, J σ H → k D σ H) → t { D with nx := k D } σ H) : tSeq t k D σ H := h1 h2
noncomputable def But (p : Addr) (H H' : Hp) : Prop := ∀ c o, H c = some o → c ≠ p → H' c = some o
theorem But.refl (p : Addr) (H : Hp) : But p H H := fun _ _ h _ => h
theorem But.trans {p : Addr} {H H1 H2 : Hp} (a : But p H H1) (b : But p H1 H2) : But p H H2 := fun c o h n => b c o (a c o h n) n
theorem But.upd (p : Addr) (H : Hp) (o : HO) : But p H (upd H p o) := fun c _ h n => by
  rw [upd_ne n]
  exact h
theorem But.of {p : Addr} {H H' : Hp} (s : Same H H') : But p H H' := fun c o h _ => s c o h
theorem same_upd {H : Hp} {p : Addr} (o : HO) (n : H p = none) : Same H (upd H p o) := fun b q e => by
  rw [upd_ne (ne_of_none e n)]
  exact e
theorem fresh {H : Hp} {o : HO} {Q : VK} (h : ∀ p H', H p = none → Same H H' → H' p = some o → Q (.ref p) H') : ∀ p, H p = none → Q (.ref p) (upd H p o) :=
  fun p n => h p _ n (same_upd o n) upd_same
noncomputable def New (H : Hp) (o : HO) (Q : VK) : Prop := ∀ p H', H p = none → Same H H' → H' p = some o → Q (.ref p) H'
theorem New.at {H : Hp} {o : HO} {Q : VK} (h : New H o Q) {p : Addr} (n : H p = none) : Q (.ref p) (upd H p o) := h p _ n (same_upd o n) upd_same
section
variable {X : Cx} {es : List Expr} {t : TA} {pos : Pos}
noncomputable def tTupF (t : TA) : TE := fun σ H Q => t σ H fun xs H1 => xs.length ≤ sizeLine ∧ New H1 (.tup xs) Q
noncomputable def tLstF (t : TA) : TE := fun σ H Q => t σ H fun xs H1 => xs.length ≤ sizeLine ∧ New H1 (.lst xs) Q
theorem pe_tupF {x1} (h : PA X es t) : PE X (.Tuple es x1 pos) (tTupF t) := by
  intro pins s σ H Q I hq
  refine wpAny_Tuple_spliced (thn (h pos pins s σ H _ I hq) fun us s1 ⟨xs, H1, I1, r, z, q⟩ => ⟨by rw [← r.length]; exact z, ?_⟩)
  have hf : H1 s1.heap.objs.size = none := I1.hok.fresh (Nat.le_refl _)
  refine ⟨.ref s1.heap.objs.size, upd H1 s1.heap.objs.size (.tup xs), I1.laid (t' := s1.toks) (fun b u e => Heap.get?_push_of_some _ e) (Nat.le_refl _) ?_, rfl, q.at hf⟩
  exact ⟨z, us, r, ⟨_, Heap.get?_push_size _ rfl, rfl, _, rfl⟩⟩
theorem pe_lstF (h : PA X es t) : PE X (.List es pos) (tLstF t) := by
  intro pins s σ H Q I hq
  refine wpAny_List_spliced (thn (h pos pins s σ H _ I hq) fun us s1 ⟨xs, H1, I1, r, z, q⟩ => ⟨by rw [← r.length]; exact z, ?_⟩)
  have hf : H1 s1.heap.objs.size = none := I1.hok.fresh (Nat.le_refl _)
  refine ⟨.ref s1.heap.objs.size, upd H1 s1.heap.objs.size (.lst xs), I1.laid (t' := s1.toks) (fun b u e => Heap.get?_push_of_some _ e) (Nat.le_refl _) ?_, rfl, q.at hf⟩
  exact ⟨z, us, 0, r, Heap.get?_push_size _ rfl⟩
theorem opr_of {f : Value → Value → Sem Value} {r r' : R2} (h : OpR X f r) (i : ∀ x y H Q, r' x y H Q → r x y H Q) : OpR X f r' :=
  fun pins s σ H x y v u Q I rx ry q => h pins s σ H x y v u Q I rx ry (i x y H Q q)
theorem callr_of {f : Value} {r r' : List V → Hp → VK → Prop} (h : CallR X f r) (i : ∀ xs H Q, r' xs H Q → r xs H Q) : CallR X f r' :=
  fun pins s σ H xs us Q I rv q => h pins s σ H xs us Q I rv (i xs H Q q)
theorem slr_of {r r' : V → Option Int → Option Int → Hp → VK → Prop} (h : SlR X r) (i : ∀ x a b H Q, r' x a b H Q → r x a b H Q) : SlR X r' :=
  fun pins s σ H x v vl vu lo hi sl Q I rx hs pl pu q => h pins s σ H x v vl vu lo hi sl Q I rx hs pl pu (i x lo hi H Q q)
noncomputable def rListF (K : PySem.W.Frag) : List V → Hp → VK → Prop := fun xs H Q => ∃ p ys, xs = [.ref p] ∧ (SqL K H p ys ∨ SqT K H p ys) ∧ New H (.lst ys) Q
theorem call_listF : CallR X (.type "list") (rListF X.K) := callr_of call_list_of fun xs H Q ⟨p, ys, e, h, q⟩ => ⟨p, ys, e, h, fun l n => q.at n⟩
noncomputable def rCatF : R2 := fun x y H Q => ∃ l b xs zs, x = .ref l ∧ y = .ref b ∧ H l = some (.lst xs) ∧ H b = some (.lst zs) ∧ xs.length + zs.length ≤ sizeLine ∧ New H (.lst (xs ++ zs)) Q
theorem op_catF : OpR X (binaryOp .Add) rCatF := opr_of op_cat fun x y H Q ⟨l, b, xs, zs, e1, e2, h1, h2, h3, q⟩ => ⟨l, b, xs, zs, e1, e2, h1, h2, h3, fun p n => q.at n⟩
noncomputable def rSlLF (K : PySem.W.Frag) : V → Option Int → Option Int → Hp → VK → Prop := fun x lo hi H Q => ∃ a xs, x = .ref a ∧ SqL K H a xs ∧ New H (.lst (cutV xs lo hi)) Q
theorem sl_listF : SlR X (rSlLF X.K) := slr_of sl_list fun x a b H Q ⟨p, xs, e, h1, q⟩ => ⟨p, xs, e, h1, fun p n => q.at n⟩
end
end Lw

namespace Lw
open PySem PySem.Spec PyProof.Rows L2
section
variable {prog : Program} {w : World} {A : Around} {R : Result → Shared → Prop} {s : Shared}
theorem compLoop_any {elt target iter : Expr} {scope : Scope} {pos : Pos} {it acc : Value} {env : Env} (I : Nat → Shared → Prop)
    (turn : ∀ n s, I n s → wpAny (model prog w) A (pyNext it) (fun r s₁ => match r with
      | none => R (.ok .next) s₁
      | some v => wpAny (model prog w) A (letOwnedTupleGo target it v) (fun _ s₁' => wpAny (model prog w) A (assign target env v) (fun _ s₂ => wpAny (model prog w) A (eval elt env) (fun x s₃ =>
          wpAny (model prog w) A (call (.builtin "list.append") [acc, x]) (fun _ s₄ => ∃ m, m < n ∧ I m s₄) (notedBy (model prog w) A env fun e s' => R (.error e) s') s₃)
          (notedBy (model prog w) A env fun e s' => R (.error e) s') s₂) (notedBy (model prog w) A env fun e s' => R (.error e) s') s₁') (notedBy (model prog w) A env fun e s' => R (.error e) s') s₁) (notedBy (model prog w) A env fun e s' => R (.error e) s') s)
    (n : Nat) (h : I n s) :
    codeAny (model prog w) A (.compLoop (.ListComp elt [⟨target, iter, [], 0⟩] scope pos) 0 it acc env) R s := by
  refine codeAny_loop rfl I (fun n s hI => ?_) n h
  show wpAny _ _ ((compTurn (.ListComp elt [⟨target, iter, [], 0⟩] scope pos) 0 it acc env).onRaise (fun x => do noteFrame x env; theTreesLotGoes x)) _ _ s
  refine wpAny_noted ?_
  rw [compTurn_list1]
  refine wpAny_bind (wpAny_standAt (wpAny_bind (wpAny_mono (turn n s hI) (fun r s₁ h₁ => ?_) fun _ _ h' => h')))
  cases r with
  | none => exact wpAny_pure h₁
  | some v =>
    refine wpAny_bind (wpAny_mono h₁ (fun _ s₁' h₁' => ?_) fun _ _ h' => h')
    exact wpAny_bind (wpAny_mono h₁' (fun _ s₂ h₂ => wpAny_bind (wpAny_bind (wpAny_mono h₂ (fun x s₃ h₃ => wpAny_bind (wpAny_mono h₃
      (fun _ s₄ h₄ => wpAny_pure (wpAny_pure ⟨rfl, h₄⟩)) fun _ _ h' => h')) fun _ _ h' => h'))) fun _ _ h' => h')
end
noncomputable def cxComp (X : Cx) (N : List Str) (scope : Scope) (C : Addr) (fp : List Addr) (s2 : Shared) (H2 : Hp) : Cx :=
  { X with N := N, s₀ := s2, H₀ := H2, env := compEnv scope C X.env, outer := X.stack, stack := X.stack, ex := fp, fn := fun _ => true, pn := [], xe := fun _ _ => False }
section
variable {X : Cx}
theorem cxComp_ok {pins : List (Addr × Obj)} {σ : L2.St} {H1 : Hp} {s2 : Shared} {N : List Str} {scope : Scope} {C : Addr} {fp : List Addr} (I : Inv X pins σ H1 s2) (hk : scope.kind = .function)
    (hn : ∀ x, scope.names.lookup x ≠ some .cell ∧ scope.names.lookup x ≠ some .free) (hC : s2.heap.objs.size ≤ C) (hf : ∀ b ∈ fp, FpOk X pins H1 b) (hlt : ∀ b ∈ fp, b < s2.heap.objs.size) : (cxComp X N scope C fp s2 H1).Ok where
  mod := I.ok.mod
  kind := hk
  glob := I.ok.glob
  blt := I.ok.blt
  above := hC
  inj := fun x y c h => nomatch h
  has := fun x h => h.elim (fun z => absurd z (hn x).1) (fun z => absurd z (hn x).2)
  cab := fun x c _ h => nomatch h
  hd := I.ok.hd
  frames := I.ok.frames
  stk := .inl rfl
  exf := fun b hb => ⟨Nat.ne_of_lt (Nat.lt_of_lt_of_le (hlt b hb) hC), fun x c h => nomatch h⟩
  bs := I.bs
  bsz := Nat.le_trans I.ok.bsz I.sz
  noex := fun b o e hb => by
    rcases (hf b hb).2.2.2.1 with z | z
    · exact I.ok.noex b o e z
    · exact absurd (Nat.lt_of_lt_of_le (Heap.lt_size e) (Nat.le_trans I.ok.bsz z)) (Nat.lt_irrefl _)
  exfs := fun b hb z => (List.mem_cons.mp (I.stkSub b z)).elim (hf b hb).2.1 (hf b hb).2.2.1
  funs := I.stack
  frf := I.stkFree
end
end Lw
namespace Lw
open PySem PySem.Spec PyProof.Rows L2
mutual
inductive DecV (H : Hp) : V → PyData → Prop where
  | non : DecV H .non .none
  | bl (b : Bool) : DecV H (.bl b) (.bool b)
  | int (i : Int) : DecV H (.int i) (.int i)
  | str (x : Str) : DecV H (.str x) (.str x)
  | lst {a : Addr} {xs : List V} {ds : List PyData} (e : H a = some (.lst xs)) (h : DecVs H xs ds) : DecV H (.ref a) (.list ds)
  | tup {a : Addr} {xs : List V} {ds : List PyData} (e : H a = some (.tup xs)) (h : DecVs H xs ds) : DecV H (.ref a) (.tuple ds)
inductive DecVs (H : Hp) : List V → List PyData → Prop where
  | nil : DecVs H [] []
  | cons {x : V} {d : PyData} {xs : List V} {ds : List PyData} (h : DecV H x d) (t : DecVs H xs ds) : DecVs H (x :: xs) (d :: ds)
end
section
variable {X : Cx}
noncomputable def rAll (K : PySem.W.Frag) : List V → Hp → VK → Prop := fun xs H Q => ∃ (a : Addr) (bs : List Bool), xs = [.ref a] ∧ SqL K H a (bs.map V.bl) ∧ Q (.bl (bs.all id)) H
theorem bls_get : ∀ {bs : List Bool} {us : List Value} {i : Nat} {v : Value}, Vals (bs.map V.bl) us → us[i]? = some v → v = .bool (bs.getD i true)
  | [], _, _, _, .nil, e => by simp at e
  | b :: _, _, 0, _, .cons r _, e => by
    cases r
    simp at e
    simp [← e]
  | b :: bs, _, i + 1, _, .cons _ t, e => by
    have := bls_get (i := i) t (by simpa using e)
    simpa using this
theorem all_range (bs : List Bool) : (List.range bs.length).all (fun i => bs.getD i true) = bs.all id := by
  induction bs with
  | nil => rfl
  | cons b r ih =>
    rw [List.length_cons, List.range_succ_eq_map, List.all_cons, List.all_map, List.all_cons, ← ih]
    rfl
theorem call_all (hc : X.calm = true) : CallR X (.builtin "all") (rAll X.K) := by
  intro pins s σ H xs us Q I r h
  obtain ⟨a, bs, rfl, hq, q⟩ := h
  obtain ⟨u, rfl, ru⟩ := vals1 r
  cases ru
  obtain ⟨its, rv, p, hz⟩ := I.list hq
  have hl := rv.length
  rw [List.length_map] at hl
  refine PySem.call_all_walk (wpAny_pyIter_list p.isList ?_)
  have ha : a < s.heap.objs.size := by
    obtain ⟨o, n, e, _⟩ := p
    exact Heap.lt_size e
  refine ⟨s.heap.objs.size, _, _, _, _, _, fun i => bs.getD i true, rfl, Walks.list (show X.A.in1.handled = none from I.ok.hd hc) s.heap.objs.size a (Nat.ne_of_lt ha) its.toArray, ⟨⟨_, Heap.get?_push_size _ rfl, rfl, rfl⟩, p.isList.at fun o e => Heap.get?_push_of_some _ e⟩, ?_, ?_⟩
  · intro i v s' Q' E' hv hq'
    obtain rfl := bls_get rv (by simpa using hv)
    exact wpAny_truthy_bool hq'
  · intro h' tk k
    rw [List.size_toArray, ← hl, all_range]
    refine ⟨.bl _, H, I.kept (t' := tk) (fun b o e => ?_), rfl, q⟩
    exact k b o (by simp; exact Nat.ne_of_lt (Heap.lt_size e)) (Heap.get?_push_of_some _ e)
end
noncomputable def CompW (xs : List V) (Pv : Nat → List V → Hp → Prop) (i m : Nat) (ys : List V) (H : Hp) : Prop := m = xs.length - i ∧ i ≤ xs.length ∧ ys.length = i ∧ Pv i ys H
theorem comp_next {xs : List V} {Pv : Nat → List V → Hp → Prop} {i m : Nat} {ys : List V} {x y : V} {H5 : Hp} {p : Addr} (hx : xs[i]? = some x) (hm : m = xs.length - i) (hl : ys.length = i) (e : H5 p = some (.lst ys)) (h : Pv (i + 1) (ys ++ [y]) (upd H5 p (.lst (ys ++ [y])))) :
    H5 p = some (.lst ys) ∧ ∃ m', m' < m ∧ CompW xs Pv (i + 1) m' (ys ++ [y]) (upd H5 p (.lst (ys ++ [y]))) := by
  have hi : i < xs.length := (List.getElem?_eq_some_iff.mp hx).1
  exact ⟨e, xs.length - (i + 1), by omega, rfl, by omega, by simp [hl], h⟩
section
end
end Lw

namespace Lw
open PySem PySem.Spec PyProof.Rows L2
noncomputable def cxCompF (X : Cx) (N : List Str) (scope : Scope) (cl : List (Str × Addr)) (C : Addr) (fp : List Addr) (s2 : Shared) (H2 : Hp) : Cx :=
  { X with N := N, s₀ := s2, H₀ := H2, env := compEnvC scope cl C X.env, outer := X.stack, stack := X.stack, ex := fp, fn := fun _ => false, pn := [], xe := fun _ _ => False }
noncomputable def Keep (σ τ : L2.St) : Prop := ∀ (i : Nat) (v : V), σ[i]? = some (some v) → τ[i]? = some (some v)
theorem keep1 {x : Option V} {r : L2.St} : Keep (none :: r) (x :: r) := fun i v h => by
  cases i with
  | zero => cases h
  | succ j => exact h
theorem keep2 {x y : Option V} {r : L2.St} : Keep (none :: none :: r) (x :: y :: r) := fun i v h => by
  cases i with
  | zero => cases h
  | succ j => cases j with
    | zero => cases h
    | succ k => exact h
noncomputable def CompGoF (σ0 : L2.St) (J : It) (g : TG) (te : TE) (Q : VK) (p : Addr) (H' : Hp) : Prop :=
  ∃ W : Nat → Nat → List V → Hp → Prop, (∃ m, W 0 m [] H') ∧ ∀ i m ys H2, W i m ys H2 → H2 p = some (.lst ys) ∧ ys.length < sizeLine ∧
    ((J.stop i H2 ∧ Q (.ref p) H2) ∨ (J.go i H2 ∧ ∀ x H3, J.yld i H2 x H3 → g x σ0 H3 fun σ4 H4 => Keep σ0 σ4 ∧ te σ4 H4 fun y H5 => H5 p = some (.lst ys) ∧ ∃ m', m' < m ∧ W (i + 1) m' (ys ++ [y]) (upd H5 p (.lst (ys ++ [y])))))
noncomputable def tCompF (own : Nat) (idx : List Nat) (wi : TI) (g : TG) (te : TE) : TE := fun σ H Q => wi σ H fun J H1 => ∀ p H', H1 p = none → Same H1 H' → H' p = some (.lst []) →
  CompGoF (List.replicate own none ++ idx.map fun j => (σ[j]?).getD none) J g te Q p H'
section
variable {X : Cx}
theorem cxCompF_ok {pins : List (Addr × Obj)} {σ : L2.St} {H1 : Hp} {s2 : Shared} {N : List Str} {scope : Scope} {cl : List (Str × Addr)} {C : Addr} {fp : List Addr} (I : Inv X pins σ H1 s2) (hk : scope.kind = .function)
    (hsub : ∀ x c, cl.lookup x = some c → X.env.cells.lookup x = some c) (hhas : ∀ x, ((relabel scope X.env).names.lookup x = some .cell ∨ (relabel scope X.env).names.lookup x = some .free) → ∃ c, cl.lookup x = some c)
    (hC : s2.heap.objs.size ≤ C) (hf : ∀ b ∈ fp, FpOk X pins H1 b) (hlt : ∀ b ∈ fp, b < s2.heap.objs.size) : (cxCompF X N scope cl C fp s2 H1).Ok where
  mod := I.ok.mod
  kind := hk
  glob := I.ok.glob
  blt := I.ok.blt
  above := hC
  inj := fun x y c h1 h2 => I.ok.inj x y c (hsub x c h1) (hsub y c h2)
  has := hhas
  cab := fun x c h _ => by cases h
  hd := I.ok.hd
  frames := I.ok.frames
  stk := .inl rfl
  exf := fun b hb => ⟨Nat.ne_of_lt (Nat.lt_of_lt_of_le (hlt b hb) hC), fun x c h => (hf b hb).2.2.2.2.1 x c (hsub x c h)⟩
  bs := I.bs
  bsz := Nat.le_trans I.ok.bsz I.sz
  noex := fun b o e hb => by
    rcases (hf b hb).2.2.2.1 with z | z
    · exact I.ok.noex b o e z
    · exact absurd (Nat.lt_of_lt_of_le (Heap.lt_size e) (Nat.le_trans I.ok.bsz z)) (Nat.lt_irrefl _)
  exfs := fun b hb z => (List.mem_cons.mp (I.stkSub b z)).elim (hf b hb).2.1 (hf b hb).2.2.1
  funs := I.stack
  frf := I.stkFree
theorem pe_compF {own : Nat} {idx : List Nat} {N : List Str} {elt target iter : Expr} {scope : Scope} {cl : List (Str × Addr)} {pos : Pos} {wi : TI} {g : TG} {te : TE} (hc : X.calm = true)
    (hk : scope.kind = .function) (hclos : closureFor scope X.env = pure cl) (hcell : ∀ x ∈ scope.names, x.2 ≠ .cell) (hnames : ∀ x ∈ scope.names, x.2 = .local → scope.names.lookup x.1 = some .local)
    (hsub : ∀ x c, cl.lookup x = some c → X.env.cells.lookup x = some c) (hhas : ∀ x, ((relabel scope X.env).names.lookup x = some .cell ∨ (relabel scope X.env).names.lookup x = some .free) → ∃ c, cl.lookup x = some c)
    (hlen : N.length = own + idx.length)
    (hidx : ∀ (k j : Nat) (x : Str), idx[k]? = some j → N[own + k]? = some x → X.N[j]? = some x ∧ X.env.kindOf x = some .cell ∧ (relabel scope X.env).names.lookup x = some .cell ∧ X.env.scope.names.lookup x = some .cell)
    (hi : PI X target iter wi) (hg : ∀ C fp s2 H2, PG (cxCompF X N scope cl C fp s2 H2) target g) (he : ∀ C fp s2 H2, PE (cxCompF X N scope cl C fp s2 H2) elt te)
    (hs : ∀ x, foldedSetIterable iter X.env x = pure x := by intro _; rfl) : PE X (.ListComp elt [⟨target, iter, [], 0⟩] scope pos) (tCompF own idx wi g te) := by
  intro pins s σ H Q I h
  rw [eval_ListComp]
  refine wpAny_comprehension_free (use := none) rfl hs hclos hk hnames (thn (hi pins s σ H _ I h) fun v s1 h1 => thn h1 fun itv s2 h2 => ?_)
  obtain ⟨it, fp, tn, J, H1, e, I2, T, st2, f2, hR⟩ := h2
  subst e
  have hlt : ∀ b ∈ fp, b < s2.heap.objs.size := fun b hb => by
    obtain ⟨o, ho, _⟩ := T.obj 0 _ st2 b hb
    exact Heap.lt_size ho
  refine wpAny_newObj_type (wpAny_newFunctionEnv hcell (by intro y hy; simp at hy) (fun h₁ hns₁ hsb₁ => ?_) hk)
  dsimp only at hns₁ hsb₁ ⊢
  generalize hHH : s2.heap.push { cls := .type "list", dict := none, data := .seq ([] : List Value).toArray } = HH at hns₁ hsb₁ ⊢
  have hCe : HH.objs.size = s2.heap.objs.size + 1 := by rw [← hHH, Heap.size_push]
  have hDC : s2.heap.objs.size ≠ HH.objs.size := by rw [hCe]; exact Nat.ne_of_lt (Nat.lt_succ_self _)
  have hCle : s2.heap.objs.size ≤ HH.objs.size := by rw [hCe]; exact Nat.le_succ _
  have old : ∀ b o, s2.heap.get? b = some o → h₁.get? b = some o := fun b o e => hsb₁.extBut b o (by rw [hCe]; exact Nat.ne_of_lt (Nat.lt_succ_of_lt (Heap.lt_size e))) (Heap.get?_push_of_some _ (hHH ▸ Heap.get?_push_of_some _ e))
  have hD : h₁.get? s2.heap.objs.size = some { cls := .type "list", dict := none, data := .seq ([] : List Value).toArray } := hsb₁.extBut _ _ hDC (Heap.get?_push_of_some _ (hHH ▸ Heap.get?_push_size _ rfl))
  have nD : H1 s2.heap.objs.size = none := I2.hok.fresh (Nat.le_refl _)
  obtain ⟨W, ⟨m0, w0⟩, turn⟩ := hR s2.heap.objs.size _ nD (same_upd (.lst []) nD) upd_same
  generalize hσ : (List.replicate own none ++ idx.map fun j => (σ[j]?).getD none : L2.St) = σ0 at turn
  have lσ : σ0.length = N.length := by rw [← hσ, List.length_append, List.length_replicate, List.length_map, hlen]
  have ok := cxCompF_ok (N := N) (cl := cl) (C := HH.objs.size) I2 hk hsub hhas hCle f2 hlt
  have oldC : ∀ c v, s2.heap.IsCell c v → h₁.IsCell c v := fun c v ⟨o, ho, hd⟩ => ⟨o, old c o ho, hd⟩
  have I4 : Inv (cxCompF X N scope cl HH.objs.size fp s2 H1) [] σ0 (upd H1 s2.heap.objs.size (.lst [])) { s2 with heap := h₁, toks := s2.toks + ([] : List (Str × Value)).length } := by
    refine ⟨ok, rfl, I2.bare, Un.laid old (Nat.le_refl _) nD, ⟨_, hns₁, fun i x v e1 e2 _ => ?_⟩, (fun x c z => ?_), ?_, (fun x c z => ?_), (fun p hp => nomatch hp), I2.hok.laid old (Nat.le_refl _) ?_, lσ⟩
    · -- a name of the def's
      rw [← hσ] at e2
      by_cases hi' : i < own
      · rw [List.getElem?_append_left (by rw [List.length_replicate]; exact hi'), List.getElem?_replicate] at e2
        split at e2 <;> cases e2
      · obtain ⟨k, rfl⟩ : ∃ k, i = own + k := ⟨i - own, by omega⟩
        rw [List.getElem?_append_right (by rw [List.length_replicate]; omega), List.length_replicate, Nat.add_sub_cancel_left, List.getElem?_map] at e2
        cases ej : idx[k]? with
        | none => rw [ej] at e2; cases e2
        | some j =>
          rw [ej, Option.map_some] at e2
          have e2 := Option.some.inj e2
          obtain ⟨n1, n2, n3, n4⟩ := hidx k j x ej e1
          have e3 : σ[j]? = some (some v) := by
            cases q : σ[j]? with
            | none => rw [q] at e2; cases e2
            | some y => rw [q, Option.getD_some] at e2; rw [e2]
          obtain ⟨m, hm, hl⟩ := I2.loc
          obtain ⟨u, ru, lk⟩ := hl j x v n1 e3 (.inr (.inl n4))
          refine ⟨u, ru, ?_⟩
          rcases lk with ⟨kl, _⟩ | ⟨_, c, hcl, hic⟩
          · rw [n2] at kl; cases kl
          · obtain ⟨c', hc'⟩ := hhas x (.inl n3)
            have : c' = c := Option.some.inj ((hsub x c' hc').symm.trans hcl)
            subst this
            exact .inr ⟨.inl n3, c', hc', oldC _ _ hic⟩
    · obtain ⟨v, hv⟩ := I2.cell x c (hsub x c z)
      exact ⟨v, oldC _ _ hv⟩
    · show (upd H1 s2.heap.objs.size (.lst [])) HH.objs.size = none
      rw [upd_ne (Ne.symm hDC)]
      exact I2.hok.fresh hCle
    · obtain ⟨v, hv⟩ := I2.cell x c (hsub x c z)
      show (upd H1 s2.heap.objs.size (.lst [])) c = none
      rw [upd_ne (Nat.ne_of_lt hv.lt)]
      exact I2.freeC x c (hsub x c z)
    · exact ⟨by show 0 ≤ sizeLine; decide, [], 0, .nil, hD⟩
  have stat : ∀ {H' : Hp}, (∀ b ∈ fp, H' b = none) → ∀ b ∈ fp, FpOk (cxCompF X N scope cl HH.objs.size fp s2 H1) [] H' b := fun hn b hb =>
    ⟨hn b hb, (ok.exf b hb).1, ok.exfs b hb, .inl hb, (ok.exf b hb).2, fun p hp => nomatch hp⟩
  have st4 : tn 0 h₁ := T.keep _ _ _ st2 fun b _ o e => old b o e
  have fr4 : ∀ b ∈ fp, (upd H1 s2.heap.objs.size (.lst [])) b = none := fun b hb => by
    rw [upd_ne (Nat.ne_of_lt (hlt b hb))]
    exact (f2 b hb).1
  have loop : codeAny (model X.prog X.w) X.A (.compLoop (.ListComp elt [⟨target, iter, [], 0⟩] scope pos) 0 (.ref it) (.ref s2.heap.objs.size) (compEnvC scope cl HH.objs.size X.env))
      (compPost (model X.prog X.w) X.A X.xe none (EP X pins σ Q) (.ref s2.heap.objs.size) HH.objs.size) { s2 with heap := h₁, toks := s2.toks + ([] : List (Str × Value)).length } := by
    refine compLoop_any (fun n s' => ∃ i ys H', Inv (cxCompF X N scope cl HH.objs.size fp s2 H1) [] σ0 H' s' ∧ tn i s'.heap ∧ (∀ b ∈ fp, H' b = none) ∧ W i n ys H') ?_ m0 ⟨0, [], _, I4, st4, fr4, w0⟩
    rintro n s3 ⟨i, ys, H3, I3, st3, fr3, w3⟩
    obtain ⟨hp3, hz3, hw⟩ := turn i n ys H3 w3
    rcases hw with ⟨stop, qn⟩ | ⟨go, step⟩
    · refine thn (T.done (cxCompF X N scope cl HH.objs.size fp s2 H1) rfl rfl rfl hc i [] s3 _ H3 _ I3 (stat fr3) st3 stop) fun r s4 ⟨hr, I5⟩ => ?_
      subst hr
      obtain ⟨m, hm, _⟩ := id I5.loc
      refine ⟨m, hm, fun h' sb => ⟨.ref s2.heap.objs.size, H3, ?_, rfl, qn⟩⟩
      have k : ∀ b o, b ≠ HH.objs.size → s4.heap.get? b = some o → h'.get? b = some o := fun b o hb e => sb.extBut b o hb e
      have nb : ∀ b o, s2.heap.get? b = some o → b ≠ HH.objs.size := fun b o e => by rw [hCe]; exact Nat.ne_of_lt (Nat.lt_succ_of_lt (Heap.lt_size e))
      have U := I5.base
      have fC : H3 HH.objs.size = none := I5.free
      refine I2.call' (ch := fp) (s' := { s4 with heap := h' }) I5.os ⟨fun b o e n hb hx => k b o (nb b o e) (U.keep b o e n hb hx), fun b o e n hb hx => ?_, U.free, fun b o e hx => ?_, U.tups, U.frzs, U.tbls⟩ (fun b u e => ?_) I5.bare (fun b hb => ⟨(f2 b hb).2.2.2.1, (f2 b hb).2.1, (f2 b hb).2.2.2.2.1, (f2 b hb).2.2.2.2.2⟩)
      · obtain ⟨sl, q⟩ := U.slot b o e n hb hx
        exact ⟨sl, k b _ (nb b o e) q⟩
      · obtain ⟨o', q⟩ := U.there b o e hx
        exact ⟨o', k b _ (nb b o e) q⟩
      · refine (I5.hok b u e).stay (fun c v hcc q => k c v ?_ q) (fun _ q => q) fun _ _ q => q
        rcases hcc with z | z
        · rw [z]
          intro y
          rw [y, fC] at e
          cases e
        · intro y
          rw [y, fC] at z
          cases z
    · refine wpAny_mono (T.item (cxCompF X N scope cl HH.objs.size fp s2 H1) rfl rfl rfl hc i [] s3 _ H3 (fun _ _ => False) I3 (stat fr3) st3 go) (fun r s4 ⟨u, hr, h4⟩ => ?_) fun _ _ z => z.elim
      subst hr
      refine wpAny_mono h4 (fun _ s5 ⟨x, H5, I5, r5, y5, st5, fr5⟩ => ?_) fun _ _ z => z.elim
      have I5' := I5.pinned (stat fr5) (T.obj _ _ st5)
      refine wpAny_mono (hg _ _ _ _ _ s5 _ H5 x u _ I5' r5 (step x H5 y5)) (fun _ s6 ⟨σ6, H6, I6, kp6, q6⟩ => ?_) fun _ _ z => z.elim
      refine wpAny_mono (he _ _ _ _ _ s6 σ6 H6 _ I6 q6) (fun y s7 ⟨yv, H7, I7, r7, q7⟩ => ?_) fun _ _ z => z.elim
      obtain ⟨e7, m', hm', w7⟩ := q7
      refine wpAny_mono (mt_append (X := cxCompF X N scope cl HH.objs.size fp s2 H1) _ s7 σ6 H7 (.ref s2.heap.objs.size) [yv] (.ref s2.heap.objs.size) [y] (fun _ H8 => H8 = upd H7 s2.heap.objs.size (.lst (ys ++ [yv]))) I7 rfl (.cons r7 .nil) ⟨_, ys, yv, rfl, rfl, e7, hz3, rfl⟩) (fun _ s8 ⟨_, H8, I8, _, q8⟩ => ?_) fun _ _ z => z.elim
      subst q8
      refine ⟨m', hm', i + 1, _, _, (I8.unpinned).weak (by rw [lσ, I8.len]; rfl) kp6, T.keep _ _ _ st5 fun b hb o e => (I8.pin (b, o) (List.mem_append_right _ (List.mem_append_right _ (mem_pinsAt hb e)))).1, fun b hb => ?_, w7⟩
      obtain ⟨o, e, d⟩ := T.obj _ _ st5 b hb
      exact (I8.pin (b, o) (List.mem_append_right _ (List.mem_append_right _ (mem_pinsAt hb e)))).2.1
  exact codeAny_compStart_list loop (T.self _ 0 _ _ _ st4 loop)
noncomputable def hasB (names : List (Str × NameKind)) (cl : List (Str × Addr)) : Bool := names.all fun y => match y.2 with
  | .cell => (cl.lookup y.1).isSome
  | .free => (cl.lookup y.1).isSome
  | _ => true
theorem has_of {names : List (Str × NameKind)} {cl : List (Str × Addr)} (h : hasB names cl = true) : ∀ x, (names.lookup x = some .cell ∨ names.lookup x = some .free) → ∃ c, cl.lookup x = some c := by
  intro x hx
  have all := List.all_eq_true.mp h
  rcases hx with hx | hx
  · have := all _ (PySem.mem_of_lookup hx)
    exact Option.isSome_iff_exists.mp this
  · have := all _ (PySem.mem_of_lookup hx)
    exact Option.isSome_iff_exists.mp this
theorem one_idx {X : Cx} {scope : Scope} {own j0 : Nat} {N : List Str} {x0 : Str} (h0 : N[own]? = some x0) (h : X.N[j0]? = some x0 ∧ X.env.kindOf x0 = some .cell ∧ (relabel scope X.env).names.lookup x0 = some .cell ∧ X.env.scope.names.lookup x0 = some .cell) :
    ∀ (k j : Nat) (x : Str), [j0][k]? = some j → N[own + k]? = some x → X.N[j]? = some x ∧ X.env.kindOf x = some .cell ∧ (relabel scope X.env).names.lookup x = some .cell ∧ X.env.scope.names.lookup x = some .cell := by
  intro k j x e1 e2
  match k, e1 with
  | 0, e1 =>
    cases e1
    rw [Nat.add_zero, h0] at e2
    cases e2
    exact h
  | k + 1, e1 => cases e1
end
theorem comp_by {J : It} {xs : List V} {σ0 : L2.St} {g : TG} {te : TE} {Q : VK} {p : Addr} {H' : Hp} (Pv : Nat → List V → Hp → Prop) (hz : xs.length < sizeLine) (h0 : Pv 0 [] H')
    (hgo : ∀ i ys H2, Pv i ys H2 → i < xs.length → J.go i H2 ∧ ∀ x H3, J.yld i H2 x H3 → H3 = H2 ∧ xs[i]? = some x) (hst : ∀ ys H2, Pv xs.length ys H2 → J.stop xs.length H2) (hl : ∀ i ys H2, Pv i ys H2 → H2 p = some (.lst ys))
    (hs : ∀ i m ys x H2, xs[i]? = some x → m = xs.length - i → ys.length = i → Pv i ys H2 → g x σ0 H2 fun σ4 H4 => Keep σ0 σ4 ∧ te σ4 H4 fun y H5 => H5 p = some (.lst ys) ∧ ∃ m', m' < m ∧ CompW xs Pv (i + 1) m' (ys ++ [y]) (upd H5 p (.lst (ys ++ [y]))))
    (hd : ∀ ys H2, ys.length = xs.length → Pv xs.length ys H2 → Q (.ref p) H2) : CompGoF σ0 J g te Q p H' := by
  unfold CompGoF
  refine ⟨CompW xs Pv, ⟨_, rfl, Nat.zero_le _, rfl, h0⟩, ?_⟩
  rintro i m ys H2 ⟨hm, hi, hy, hp⟩
  refine ⟨hl i ys H2 hp, by omega, ?_⟩
  by_cases hlt : i < xs.length
  · obtain ⟨g1, g2⟩ := hgo i ys H2 hp hlt
    refine .inr ⟨g1, fun x H3 y => ?_⟩
    obtain ⟨e3, z⟩ := g2 x H3 y
    subst e3
    exact hs i m ys x _ z hm hy hp
  · have ei : i = xs.length := by omega
    subst ei
    exact .inl ⟨hst ys H2 hp, hd ys H2 hy hp⟩
theorem comp_listF {K : PySem.W.Frag} {a : Addr} {xs : List V} {σ0 : L2.St} {g : TG} {te : TE} {Q : VK} {p : Addr} {H' : Hp} (Pv : Nat → List V → Hp → Prop) (hz : xs.length < sizeLine) (h0 : Pv 0 [] H')
    (hl : ∀ i ys H2, Pv i ys H2 → SqL K H2 a xs ∧ H2 p = some (.lst ys))
    (hs : ∀ i m ys x H2, xs[i]? = some x → m = xs.length - i → ys.length = i → Pv i ys H2 → g x σ0 H2 fun σ4 H4 => Keep σ0 σ4 ∧ te σ4 H4 fun y H5 => H5 p = some (.lst ys) ∧ ∃ m', m' < m ∧ CompW xs Pv (i + 1) m' (ys ++ [y]) (upd H5 p (.lst (ys ++ [y]))))
    (hd : ∀ ys H2, ys.length = xs.length → Pv xs.length ys H2 → Q (.ref p) H2) : CompGoF σ0 (Itl K a) g te Q p H' :=
  comp_by Pv hz h0 (fun i ys H2 h hi => ⟨⟨xs, xs[i], (hl i ys H2 h).1, by simp [hi]⟩, fun x H3 y => ⟨y.1, y.2 xs (hl i ys H2 h).1⟩⟩) (fun ys H2 h => ⟨xs, (hl _ ys H2 h).1, Nat.le_refl _⟩) (fun i ys H2 h => (hl i ys H2 h).2) hs hd
theorem comp_tupF {K : PySem.W.Frag} {a : Addr} {xs : List V} {σ0 : L2.St} {g : TG} {te : TE} {Q : VK} {p : Addr} {H' : Hp} (Pv : Nat → List V → Hp → Prop) (hz : xs.length < sizeLine) (h0 : Pv 0 [] H')
    (hl : ∀ i ys H2, Pv i ys H2 → SqT K H2 a xs ∧ H2 p = some (.lst ys))
    (hs : ∀ i m ys x H2, xs[i]? = some x → m = xs.length - i → ys.length = i → Pv i ys H2 → g x σ0 H2 fun σ4 H4 => Keep σ0 σ4 ∧ te σ4 H4 fun y H5 => H5 p = some (.lst ys) ∧ ∃ m', m' < m ∧ CompW xs Pv (i + 1) m' (ys ++ [y]) (upd H5 p (.lst (ys ++ [y]))))
    (hd : ∀ ys H2, ys.length = xs.length → Pv xs.length ys H2 → Q (.ref p) H2) : CompGoF σ0 (Itt K a) g te Q p H' :=
  comp_by Pv hz h0 (fun i ys H2 h hi => ⟨⟨xs, xs[i], (hl i ys H2 h).1, by simp [hi]⟩, fun x H3 y => ⟨y.1, y.2 xs (hl i ys H2 h).1⟩⟩) (fun ys H2 h => ⟨xs, (hl _ ys H2 h).1, Nat.le_refl _⟩) (fun i ys H2 h => (hl i ys H2 h).2) hs hd
section
theorem preSum_take (ns : List Int) : ∀ j, j ≤ ns.length → preSum (fun i => ns.getD i 0) j = (ns.take j).sum
  | 0, _ => by simp [preSum]
  | j + 1, h => by
    have hj : j < ns.length := h
    show preSum (fun i => ns.getD i 0) j + ns.getD j 0 = _
    rw [preSum_take ns j (by omega), List.take_succ_eq_append_getElem hj, List.sum_append, List.getD_eq_getElem?_getD, List.getElem?_eq_getElem hj]
    simp
end
end Lw

namespace LwT
open PySem PySem.Spec PyProof.Rows L2 Lw
noncomputable def lexI (f : Int → Int → Bool) (g : Nat → Nat → Bool) : List Int → List Int → Bool
  | x :: xs, y :: ys => if x = y then lexI f g xs ys else f x y
  | xs, ys => g xs.length ys.length
noncomputable abbrev lexLt : List Int → List Int → Bool := lexI (fun i j => decide (i < j)) (fun m n => decide (m < n))
noncomputable abbrev lexNe : List Int → List Int → Bool := lexI (fun _ _ => true) (fun m n => m != n)
noncomputable abbrev lexGe : List Int → List Int → Bool := lexI (fun i j => decide (j ≤ i)) (fun m n => decide (n ≤ m))
theorem lexI_nil_left {f g} {ys : List Int} : lexI f g [] ys = g 0 ys.length := by cases ys <;> rfl
theorem lexI_nil_right {f g} {xs : List Int} : lexI f g xs [] = g xs.length 0 := by cases xs <;> rfl
theorem lexGe_eq : ∀ (xs ys : List Int), lexGe xs ys = !lexLt xs ys
  | [], ys => by
    show lexI _ _ _ _ = !lexI _ _ _ _
    rw [lexI_nil_left, lexI_nil_left]
    cases ys <;> simp
  | x :: xs, [] => by
    show lexI _ _ _ _ = !lexI _ _ _ _
    rw [lexI_nil_right, lexI_nil_right]
    simp
  | x :: xs, y :: ys => by
    show (if x = y then lexGe xs ys else _) = !(if x = y then lexLt xs ys else _)
    by_cases h : x = y
    · rw [if_pos h, if_pos h]
      exact lexGe_eq xs ys
    · rw [if_neg h, if_neg h]
      by_cases h2 : x < y
      · simp [h2, show ¬ y ≤ x by omega]
      · simp [h2, show y ≤ x by omega]
theorem lexNe_eq : ∀ (xs ys : List Int), lexI (fun _ _ => true) (fun m n => m != n) xs ys = !decide (xs = ys)
  | [], ys => by
    rw [lexI_nil_left]
    cases ys <;> simp
  | x :: xs, [] => by
    rw [lexI_nil_right]
    simp
  | x :: xs, y :: ys => by
    show (if x = y then lexI _ _ xs ys else true) = _
    by_cases h : x = y
    · rw [if_pos h, lexNe_eq xs ys]
      simp [h]
    · rw [if_neg h]
      simp [h]
theorem lex_end {f : Int → Int → Bool} {g : Nat → Nat → Bool} {xs ys : List Int} {i : Nat} (h : min xs.length ys.length ≤ i) : lexI f g (xs.drop i) (ys.drop i) = g (xs.length - i) (ys.length - i) := by
  by_cases hx : xs.length ≤ i
  · rw [List.drop_of_length_le hx, lexI_nil_left, List.length_drop]
    rw [show xs.length - i = 0 by omega]
  · have hy : ys.length ≤ i := by omega
    rw [List.drop_of_length_le hy, lexI_nil_right, List.length_drop]
    rw [show ys.length - i = 0 by omega]
theorem drop_ints {vs : List Value} {ns : List Int} (r : IntsAre vs ns) {i : Nat} (h : i < vs.length) : ∃ n t, vs[i] = .int n t ∧ ns.drop i = n :: ns.drop (i + 1) := by
  obtain ⟨n, t, e1, e2⟩ := ints_get r h
  refine ⟨n, t, e2, ?_⟩
  obtain ⟨hi, e⟩ := List.getElem?_eq_some_iff.mp e1
  rw [List.drop_eq_getElem_cons hi, e]
section
variable {l b : Addr} {as bs : List Value} {xs ys : List Int} {n n2 : Nat} {dd dd2 : Option Addr} {sl sl2 : Array (Option Value)}
theorem tuple_lt (ra : IntsAre as xs) (rb : IntsAre bs ys) :
    Meets (Builtin.«tuple.__lt__» ⟨[.ref l, .ref b], []⟩)
      (fun _ R s => s.heap.get? l = some { cls := .type "tuple", dict := dd, data := .seq as.toArray n, slots := sl } ∧ s.heap.get? b = some { cls := .type "tuple", dict := dd2, data := .seq bs.toArray n2, slots := sl2 } ∧
        R (.ok (.ret (.bool (lexLt xs ys)))) s) :=
  .of_wp fun prog w A R s h => by
    obtain ⟨hp, g, d, tk, os⟩ := s
    obtain ⟨hl, hb, h⟩ := h
    have f2 := AutoSeq1.sub_tuple_tuple
    have la := ints_len ra
    have lb := ints_len rb
    have hZ : (as.zip bs).length = min as.length bs.length := by simp
    wp_walk using wpAny_loadPart' hl, wpAny_loadPart' hb, wpAny_forIn_list _ (fun rest b s' => b.1 = none ∧ s' = ⟨hp, g, d, tk, os⟩ ∧ ∃ i, i ≤ (as.zip bs).length ∧ rest = (as.zip bs).drop i ∧
      R (.ok (.ret (.bool (lexLt (xs.drop i) (ys.drop i))))) ⟨hp, g, d, tk, os⟩) _
    case turn =>
      rintro ⟨y, x⟩ rest b s' ⟨hb', rfl, i, hi, hz, hR⟩
      have hlt : i < (as.zip bs).length := by
        rcases Nat.lt_or_ge i (as.zip bs).length with h' | h'
        · exact h'
        · rw [List.drop_of_length_le h'] at hz; cases hz
      have h1 : i < as.length := by omega
      have h2 : i < bs.length := by omega
      rw [List.drop_eq_getElem_cons hlt] at hz
      injection hz with hyx hrest
      obtain ⟨p, t1, e1, d1⟩ := drop_ints ra h1
      obtain ⟨q, t2, e2, d2⟩ := drop_ints rb h2
      have hy : y = .int p t1 := by have := congrArg Prod.fst hyx; rw [← e1]; simpa using this
      have hx : x = .int q t2 := by have := congrArg Prod.snd hyx; rw [← e2]; simpa using this
      subst hy hx
      rw [d1, d2] at hR
      have hR : R (.ok (.ret (.bool (if p = q then lexLt (xs.drop (i + 1)) (ys.drop (i + 1)) else decide (p < q))))) ⟨hp, g, d, tk, os⟩ := hR
      refine wpAny_bind (SeqAt.EqAt.int_int _ _ _ _ prog w _ _ ?_)
      by_cases hpq : p = q
      · rw [if_pos hpq] at hR
        have e : (p == q) = true := by simp [hpq]
        rw [e]
        wp_walk
        exact ⟨rfl, rfl, i + 1, hlt, hrest, hR⟩
      · rw [if_neg hpq] at hR
        have e : (p == q) = false := by simp [hpq]
        rw [e]
        simp only [Bool.not_false, if_true]
        refine wpAny_bind (wpAny_rule ?_)
        refine wpAny_bind (lt_int (a := p) (b := q) ?_)
        wp_walk
        exact ⟨_, rfl, hR⟩
    case fin =>
      rintro ⟨b1, b2⟩ s' ⟨hb', rfl, i, hi, hz, hR⟩
      simp only at hb'
      subst hb'
      have hge : min as.length bs.length ≤ i := by
        rcases Nat.lt_or_ge i (as.zip bs).length with h' | h'
        · rw [List.drop_eq_getElem_cons h'] at hz; cases hz
        · exact hZ ▸ h'
      have e : lexLt (xs.drop i) (ys.drop i) = decide (xs.length - i < ys.length - i) := lex_end (by rw [la, lb] at hge; exact hge)
      have e2 : decide (xs.length - i < ys.length - i) = decide (as.length < bs.length) := by
        rw [hZ] at hi
        by_cases q : as.length < bs.length
        · rw [decide_eq_true q, decide_eq_true (by omega)]
        · rw [decide_eq_false q, decide_eq_false (by omega)]
      rw [e, e2] at hR
      wp_walk
      exact ⟨_, rfl, by simpa [Builtin.Tuple.tupleCompareSizes] using hR⟩
    case h =>
      exact ⟨rfl, rfl, 0, Nat.zero_le _, rfl, by simpa using h⟩
theorem tuple_ne (ra : IntsAre as xs) (rb : IntsAre bs ys) :
    Meets (Builtin.«tuple.__ne__» ⟨[.ref l, .ref b], []⟩)
      (fun _ R s => s.heap.get? l = some { cls := .type "tuple", dict := dd, data := .seq as.toArray n, slots := sl } ∧ s.heap.get? b = some { cls := .type "tuple", dict := dd2, data := .seq bs.toArray n2, slots := sl2 } ∧
        R (.ok (.ret (.bool (lexNe xs ys)))) s) :=
  .of_wp fun prog w A R s h => by
    obtain ⟨hp, g, d, tk, os⟩ := s
    obtain ⟨hl, hb, h⟩ := h
    have f2 := AutoSeq1.sub_tuple_tuple
    have la := ints_len ra
    have lb := ints_len rb
    have hZ : (as.zip bs).length = min as.length bs.length := by simp
    wp_walk using wpAny_loadPart' hl, wpAny_loadPart' hb, wpAny_forIn_list _ (fun rest b s' => b.1 = none ∧ s' = ⟨hp, g, d, tk, os⟩ ∧ ∃ i, i ≤ (as.zip bs).length ∧ rest = (as.zip bs).drop i ∧
      R (.ok (.ret (.bool (lexNe (xs.drop i) (ys.drop i))))) ⟨hp, g, d, tk, os⟩) _
    case turn =>
      rintro ⟨y, x⟩ rest b s' ⟨hb', rfl, i, hi, hz, hR⟩
      have hlt : i < (as.zip bs).length := by
        rcases Nat.lt_or_ge i (as.zip bs).length with h' | h'
        · exact h'
        · rw [List.drop_of_length_le h'] at hz; cases hz
      have h1 : i < as.length := by omega
      have h2 : i < bs.length := by omega
      rw [List.drop_eq_getElem_cons hlt] at hz
      injection hz with hyx hrest
      obtain ⟨p, t1, e1, d1⟩ := drop_ints ra h1
      obtain ⟨q, t2, e2, d2⟩ := drop_ints rb h2
      have hy : y = .int p t1 := by have := congrArg Prod.fst hyx; rw [← e1]; simpa using this
      have hx : x = .int q t2 := by have := congrArg Prod.snd hyx; rw [← e2]; simpa using this
      subst hy hx
      rw [d1, d2] at hR
      have hR : R (.ok (.ret (.bool (if p = q then lexNe (xs.drop (i + 1)) (ys.drop (i + 1)) else true)))) ⟨hp, g, d, tk, os⟩ := hR
      refine wpAny_bind (SeqAt.EqAt.int_int _ _ _ _ prog w _ _ ?_)
      by_cases hpq : p = q
      · rw [if_pos hpq] at hR
        have e : (p == q) = true := by simp [hpq]
        rw [e]
        wp_walk
        exact ⟨rfl, rfl, i + 1, hlt, hrest, hR⟩
      · rw [if_neg hpq] at hR
        have e : (p == q) = false := by simp [hpq]
        rw [e]
        wp_walk
        exact ⟨_, rfl, hR⟩
    case fin =>
      rintro ⟨b1, b2⟩ s' ⟨hb', rfl, i, hi, hz, hR⟩
      simp only at hb'
      subst hb'
      have hge : min as.length bs.length ≤ i := by
        rcases Nat.lt_or_ge i (as.zip bs).length with h' | h'
        · rw [List.drop_eq_getElem_cons h'] at hz; cases hz
        · exact hZ ▸ h'
      have e : lexNe (xs.drop i) (ys.drop i) = (xs.length - i != ys.length - i) := lex_end (by rw [la, lb] at hge; exact hge)
      have e2 : (xs.length - i != ys.length - i) = (as.length != bs.length) := by
        rw [hZ] at hi
        by_cases q : as.length = bs.length
        · have q2 : xs.length - i = ys.length - i := by omega
          rw [bne, bne, q2, q, beq_self_eq_true, beq_self_eq_true]
        · have q2 : ¬ xs.length - i = ys.length - i := by omega
          rw [bne, bne, beq_eq_false_iff_ne.mpr q2, beq_eq_false_iff_ne.mpr q]
      rw [e, e2] at hR
      wp_walk
      exact ⟨_, rfl, by simpa [Builtin.Tuple.tupleCompareSizes] using hR⟩
    case h =>
      exact ⟨rfl, rfl, 0, Nat.zero_le _, rfl, by simpa using h⟩
end
section
variable {X : Cx}
noncomputable def rOrdT (K : PySem.W.Frag) (f : List Int → List Int → Bool) : R2 := fun x y H Q => ∃ (a b : Addr) (ns ms : List Int), x = .ref a ∧ y = .ref b ∧ SqT K H a (ns.map V.int) ∧ SqT K H b (ms.map V.int) ∧ Q (.bl (f ns ms)) H
theorem op_neT (hu : X.A.units < cLine) : OpR X (compareOp .NotEq) (rOrdT X.K lexNe) := by
  intro pins s σ H x y v u Q I rx ry h
  obtain ⟨a, b, ns, ms, rfl, rfl, ha, hb, q⟩ := h
  cases rx
  cases ry
  obtain ⟨its, r1, p1, _⟩ := I.tuple ha
  obtain ⟨its2, r2, p2, _⟩ := I.tuple hb
  obtain ⟨⟨cls, dd, data, sl⟩, ho, hc, n, hd⟩ := id p1
  obtain ⟨⟨cls2, dd2, data2, sl2⟩, ho2, hc2, n2, hd2⟩ := id p2
  simp only at hc hd hc2 hd2
  subst hc hd hc2 hd2
  exact richCompare_meets_room (op := .NotEq) ⟨_, ho, rfl⟩ ⟨_, ho2, rfl⟩ PySem.F.slot_tuple_ne PySem.F.entry_tuple_ne (PySem.F.args_tuple_ne_2 _ _) (tuple_ne (intsAre_of r1) (intsAre_of r2)) ⟨ho, ho2, show Value.bool _ ≠ Value.notImplemented ∧ _ from ⟨(fun z => nomatch z), ⟨.bl _, H, I, rfl, q⟩⟩⟩ hu
end
end LwT

namespace L2
open PySem PySem.Spec PyProof.Rows

section
variable {κ : Type} [DecidableEq κ]
noncomputable def valV (kvs : List (κ × V)) (k : κ) : Option V := (kvs.find? fun kv => decide (kv.1 = k)).map (·.2)
noncomputable def putK (kvs : List (κ × V)) (k : κ) (v : V) : List (κ × V) :=
  if (kvs.any fun kv => decide (kv.1 = k)) = true then kvs.map (fun kv => if kv.1 = k then (kv.1, v) else kv) else kvs ++ [(k, v)]
noncomputable def dropK (kvs : List (κ × V)) (k : κ) : List (κ × V) := kvs.filter fun kv => decide (kv.1 ≠ k)

theorem valV_pos {p : κ × V} {r : List (κ × V)} {k : κ} (e : p.1 = k) : valV (p :: r) k = some p.2 := by simp [valV, List.find?_cons, e]
theorem valV_neg {p : κ × V} {r : List (κ × V)} {k : κ} (e : ¬ p.1 = k) : valV (p :: r) k = valV r k := by simp [valV, List.find?_cons, e]
theorem valV_any (k : κ) : ∀ kvs : List (κ × V), (kvs.any fun kv => decide (kv.1 = k)) = (valV kvs k).isSome
  | [] => rfl
  | p :: r => by
    rw [List.any_cons]
    by_cases e : p.1 = k
    · simp only [valV_pos e, decide_eq_true e, Bool.true_or, Option.isSome_some]
    · rw [valV_neg e, decide_eq_false e, Bool.false_or]; exact valV_any k r
theorem length_putK (kvs : List (κ × V)) (k : κ) (v : V) : (putK kvs k v).length ≤ kvs.length + 1 := by
  unfold putK
  split
  · rw [List.length_map]; omega
  · rw [List.length_append, List.length_cons, List.length_nil]; omega

theorem RelO.isSome_eq {o : Option V} {u : Option Value} (r : RelO o u) : o.isSome = u.isSome := by
  cases o with
  | none => cases u with
    | none => rfl
    | some _ => exact (show False from r).elim
  | some _ => cases u with
    | none => exact (show False from r).elim
    | some _ => rfl
theorem RelO.getD {o : Option V} {u : Option Value} {d : V} {d' : Value} (r : RelO o u) (rd : RelV d d') : RelV (o.getD d) (u.getD d') := by
  cases o with
  | none => cases u with
    | none => exact rd
    | some _ => exact (show False from r).elim
  | some _ => cases u with
    | none => exact (show False from r).elim
    | some _ => exact r

theorem KV.val {kvs : List (κ × V)} {vs : List (κ × Value)} (r : KV kvs vs) (k : κ) : RelO (valV kvs k) (valueAt vs k) := by
  unfold KV at r
  induction r with
  | nil => exact True.intro
  | @cons p q ps qs h t ih =>
    obtain ⟨h1, h2⟩ := h
    by_cases e : p.1 = k
    · have e' : q.1 = k := h1.symm.trans e
      have b : valueAt (q :: qs) k = some q.2 := by simp [valueAt, List.find?_cons, e']
      rw [valV_pos e, b]; exact h2
    · have e' : ¬ q.1 = k := fun z => e (h1.trans z)
      have b : valueAt (q :: qs) k = valueAt qs k := by simp [valueAt, List.find?_cons, e']
      rw [valV_neg e, b]; exact ih
theorem KV.any {kvs : List (κ × V)} {vs : List (κ × Value)} (r : KV kvs vs) (k : κ) : (kvs.any fun kv => decide (kv.1 = k)) = vs.any fun kv => decide (kv.1 = k) := by
  unfold KV at r
  induction r with
  | nil => rfl
  | cons h t ih => rw [List.any_cons, List.any_cons, ih, h.1]
theorem KV.repl {kvs : List (κ × V)} {vs : List (κ × Value)} (r : KV kvs vs) (k : κ) {y : V} {u : Value} (ry : RelV y u) :
    KV (kvs.map fun kv => if kv.1 = k then (kv.1, y) else kv) (vs.map fun kv => if kv.1 = k then (kv.1, u) else kv) := by
  unfold KV at r ⊢
  induction r with
  | nil => exact .nil
  | @cons p q ps qs h t ih =>
    rw [List.map_cons, List.map_cons]
    refine .cons ?_ ih
    obtain ⟨h1, h2⟩ := h
    by_cases e : p.1 = k
    · rw [if_pos e, if_pos (h1.symm.trans e)]; exact ⟨h1, ry⟩
    · rw [if_neg e, if_neg (fun z => e (h1.trans z))]; exact ⟨h1, h2⟩
theorem KV.put {kvs : List (κ × V)} {vs : List (κ × Value)} (r : KV kvs vs) (k : κ) {y : V} {u : Value} (ry : RelV y u) : KV (putK kvs k y) (stored vs k u) := by
  unfold putK stored
  rw [r.any k]
  by_cases e : (vs.any fun kv => decide (kv.1 = k)) = true
  · rw [if_pos e, if_pos e]; exact r.repl k ry
  · rw [if_neg e, if_neg e]; exact Paired.snoc r ⟨rfl, ry⟩
theorem KV.length {kvs : List (κ × V)} {vs : List (κ × Value)} (r : KV kvs vs) : kvs.length = vs.length := Paired.length r
theorem dropK_le (kvs : List (κ × V)) (k : κ) : (dropK kvs k).length ≤ kvs.length := List.length_filter_le _ _
end


theorem kV_is {P : Program} {w : World} {k : Key} {u : Value} (r : RelV (kV k) u) : (mixKind P w).is k u = true := by
  cases k with
  | inl i => obtain ⟨t, e⟩ := (show ∃ t, u = Value.int i t from r); subst e; exact mixKind_int P w i t
  | inr x => obtain ⟨t, e⟩ := (show ∃ t, u = Value.str x t from r); subst e; exact mixKind_str P w x t
theorem items_are {P : Program} {w : World} : ∀ {ks : List Key} {us : List Value}, Vals (ks.map kV) us → ItemsAre (mixKind P w) ks us
  | [], _, r => by rw [List.map_nil] at r; cases r; exact .nil
  | k :: ks, _, r => by
    rw [List.map_cons] at r
    cases r with
    | cons h t => exact .cons (kV_is h) (items_are t)

noncomputable abbrev KT (H : Hp) : List (List Key × V) → List (List Key × Addr × Value) → Prop := Paired fun p q => p.1 = q.1 ∧ H q.2.1 = some (.tup (p.1.map kV)) ∧ RelV p.2 q.2.2
theorem KT.val {H : Hp} {kvs : List (List Key × V)} {xs : List (List Key × Addr × Value)} (r : KT H kvs xs) (k : List Key) : RelO (valV kvs k) ((atKey xs k).map (·.2)) := by
  induction r with
  | nil => exact True.intro
  | @cons p q ps qs h t ih =>
    obtain ⟨h1, _, h2⟩ := h
    by_cases e : p.1 = k
    · have e' : q.1 = k := h1.symm.trans e
      have b : atKey (q :: qs) k = some q.2 := by simp [atKey, List.find?_cons, e']
      rw [valV_pos e, b]; exact h2
    · have e' : ¬ q.1 = k := fun z => e (h1.trans z)
      have b : atKey (q :: qs) k = atKey qs k := by simp [atKey, List.find?_cons, e']
      rw [valV_neg e, b]; exact ih
theorem KT.repl {H : Hp} {kvs : List (List Key × V)} {xs : List (List Key × Addr × Value)} (r : KT H kvs xs) (k : List Key) {y : V} {u : Value} (ry : RelV y u) :
    KT H (kvs.map fun kv => if kv.1 = k then (kv.1, y) else kv) (xs.map (putAt k u)) := by
  induction r with
  | nil => exact .nil
  | @cons p q ps qs h t ih =>
    rw [List.map_cons, List.map_cons]
    refine .cons ?_ ih
    obtain ⟨h1, h2, h3⟩ := h
    unfold putAt
    by_cases e : p.1 = k
    · rw [if_pos e, if_pos (h1.symm.trans e)]; exact ⟨h1, h2, ry⟩
    · rw [if_neg e, if_neg (fun z => e (h1.trans z))]; exact ⟨h1, h2, h3⟩
theorem KT.put {H : Hp} {kvs : List (List Key × V)} {xs : List (List Key × Addr × Value)} (r : KT H kvs xs) (k : List Key) {b : Addr} {y : V} {u : Value} (hb : H b = some (.tup (k.map kV))) (ry : RelV y u) :
    KT H (putK kvs k y) (storedH xs k b u) := by
  have e : (kvs.any fun kv => decide (kv.1 = k)) = (atKey xs k).isSome := by
    rw [valV_any, (r.val k).isSome_eq, Option.isSome_map]
  unfold putK storedH
  rw [e]
  by_cases q : (atKey xs k).isSome = true
  · rw [if_pos q, if_pos q]; exact r.repl k ry
  · rw [if_neg q, if_neg q]; exact Paired.snoc r ⟨rfl, hb, ry⟩
theorem KT.keeps {H H' : Hp} {kvs : List (List Key × V)} {xs : List (List Key × Addr × Value)} (r : KT H kvs xs) (ht : ∀ b ys, H b = some (.tup ys) → H' b = some (.tup ys)) : KT H' kvs xs :=
  Paired.mapP r fun _ _ z => ⟨z.1, ht _ _ z.2.1, z.2.2⟩

section
variable {P : Program} {w : World} {H : Hp} {h : Heap} {a : Addr}
theorem rd_of {u : HO} (ok : HOk P w H h) (e : Rd H a u) : ObjOk P w H h a u := e.ok ok
theorem dk_rd {kvs : List (Key × V)} (ok : HOk P w H h) (e : Rd H a (.dK kvs)) : kvs.length ≤ sizeLine ∧ (a == sysModules) = false ∧ ∃ vs, KV kvs vs ∧ h.DictOf (mixKind P w) a vs :=
  show ObjOk P w H h a (.dK kvs) from rd_of ok e
theorem dk_of {kvs : List (Key × V)} (ok : HOk P w H h) (e : H a = some (.dK kvs)) : kvs.length ≤ sizeLine ∧ (a == sysModules) = false ∧ ∃ vs, KV kvs vs ∧ h.DictOf (mixKind P w) a vs := dk_rd ok (.inl e)
theorem key_of {ks : List Key} (ok : HOk P w H h) (e : H a = some (.tup (ks.map kV))) : (tupleKind (mixKind P w)).is h ks a := by
  obtain ⟨_, its, r, o, h1, h2, n, h3⟩ := (show ObjOk P w H h a (.tup (ks.map kV)) from ok a _ e)
  exact ⟨o, its.toArray, n, h1, h2, h3, by simpa using items_are r⟩
theorem dt_rd {kvs : List (List Key × V)} (ok : HOk P w H h) (e : Rd H a (.dT kvs)) : kvs.length ≤ sizeLine ∧ (a == sysModules) = false ∧
    ∃ xs, KT H kvs xs ∧ h.DictOfH (tupleKind (mixKind P w)) a xs := by
  obtain ⟨z, y, xs, r, o, es, ep, h1, h2, h3, h4, h5⟩ := (show ObjOk P w H h a (.dT kvs) from rd_of ok e)
  refine ⟨z, y, xs, r, o, es, ep, h1, h2, h3, h4, fun x hx => ?_, h5⟩
  have all : ∀ {l : List (List Key × V)} {m : List (List Key × Addr × Value)}, KT H l m → ∀ x ∈ m, (tupleKind (mixKind P w)).is h x.1 x.2.1 := by
    intro l m q
    induction q with
    | nil => intro x hx; exact nomatch hx
    | @cons p q ps qs hq t ih =>
      intro x hx
      rcases List.mem_cons.mp hx with e | hx
      · subst e
        exact key_of ok (by rw [← hq.1]; exact hq.2.1)
      · exact ih x hx
  exact all r x hx
theorem dt_of {kvs : List (List Key × V)} (ok : HOk P w H h) (e : H a = some (.dT kvs)) : kvs.length ≤ sizeLine ∧ (a == sysModules) = false ∧
    ∃ xs, KT H kvs xs ∧ h.DictOfH (tupleKind (mixKind P w)) a xs := dt_rd ok (.inl e)
end

noncomputable def DGet (H : Hp) (a : Addr) (y : V) (r : Option V) : Prop :=
  (∃ kvs k, Rd H a (.dK kvs) ∧ y = kV k ∧ r = valV kvs k) ∨ ∃ kvs k b, Rd H a (.dT kvs) ∧ y = .ref b ∧ H b = some (.tup (k.map kV)) ∧ r = valV kvs k
noncomputable def DPut (H : Hp) (a : Addr) (y v : V) (H' : Hp) : Prop :=
  (∃ kvs k, H a = some (.dK kvs) ∧ y = kV k ∧ kvs.length < sizeLine ∧ H' = upd H a (.dK (putK kvs k v))) ∨
  ∃ kvs k b, H a = some (.dT kvs) ∧ y = .ref b ∧ H b = some (.tup (k.map kV)) ∧ kvs.length < sizeLine ∧ H' = upd H a (.dT (putK kvs k v))
theorem DGet.t {H : Hp} {a b : Addr} {kvs : List (List Key × V)} {k : List Key} (e : H a = some (.dT kvs)) (eb : H b = some (.tup (k.map kV))) : DGet H a (.ref b) (valV kvs k) := .inr ⟨kvs, k, b, .inl e, rfl, eb, rfl⟩
theorem DPut.t {H : Hp} {a b : Addr} {kvs : List (List Key × V)} {k : List Key} {v : V} (e : H a = some (.dT kvs)) (eb : H b = some (.tup (k.map kV))) (hl : kvs.length < sizeLine) :
    DPut H a (.ref b) v (upd H a (.dT (putK kvs k v))) := .inr ⟨kvs, k, b, e, rfl, eb, hl, rfl⟩


section
variable {X : Cx} {pins : List (Addr × Obj)} {σ : St} {H : Hp} {s : Shared} {a : Addr} {y v : V} {u r : Value} {o : Option V} {A : Around} {E : Value → Shared → Prop}

theorem Inv.big (I : Inv X pins σ H s) : sysModules < s.heap.objs.size := by
  have h : mainGlobals < s.heap.objs.size := (I.mod.glob.keeps I.bk).lt
  exact Nat.lt_trans (by decide) h

theorem d_getItem {Q : Value → Shared → Prop} (hu : A.units + 1 < cLine) (I : Inv X pins σ H s) (g : DGet H a y (some v)) (ry : RelV y u) (h : ∀ w' s', Inv X pins σ H s' → RelV v w' → Q w' s') :
    wpAny (model X.prog X.w) A (getItem (.ref a) u) Q E s := by
  rcases g with ⟨kvs, k, e, ey, l⟩ | ⟨kvs, k, b, e, ey, eb, l⟩
  · subst ey
    obtain ⟨z, hd, vs, rel, dd⟩ := dk_rd I.hok e
    obtain ⟨w', hw, rw'⟩ := RelO.some_of (v := v) (o := valueAt vs k) (by rw [l]; exact rel.val k)
    exact wpAny_getItem_of (kV_is ry) dd.mapOf hw (h w' _ (I.tok _) rw')
  · subst ey
    cases (show u = Value.ref b from ry)
    obtain ⟨z, hd, xs, rel, dd⟩ := dt_rd I.hok e
    obtain ⟨w', hw, rw'⟩ := RelO.some_of (v := v) (o := (atKey xs k).map (·.2)) (by rw [l]; exact rel.val k)
    obtain ⟨p, hp, hp2⟩ := Option.map_eq_some_iff.mp hw
    refine wpAny_getItem_heap (tupleKind_room_in1 hu) (key_of I.hok eb) dd hp ?_
    rw [hp2]
    exact h w' _ (I.tok _) rw'
theorem d_in {Q : Value → Shared → Prop} (hu : A.units + 1 < cLine) (I : Inv X pins σ H s) (g : DGet H a y o) (ry : RelV y u) (h : ∀ s', Inv X pins σ H s' → Q (.bool o.isSome) s') :
    wpAny (model X.prog X.w) A (compareOp .In u (.ref a)) Q E s := by
  rcases g with ⟨kvs, k, e, ey, l⟩ | ⟨kvs, k, b, e, ey, eb, l⟩
  · subst ey
    obtain ⟨z, hd, vs, rel, dd⟩ := dk_rd I.hok e
    refine wpAny_in_of (kV_is ry) hd dd.mapOf ?_
    rw [← (rel.val k).isSome_eq, ← l]
    exact h _ (I.tok _)
  · subst ey
    cases (show u = Value.ref b from ry)
    obtain ⟨z, hd, xs, rel, dd⟩ := dt_rd I.hok e
    refine wpAny_in_heap (tupleKind_room_in1 hu) (key_of I.hok eb) hd dd ?_
    have q := (rel.val k).isSome_eq
    rw [Option.isSome_map] at q
    rw [← q, ← l]
    exact h _ (I.tok _)
theorem d_write {h' : Heap} {t' : Nat} {ob : HO} (I : Inv X pins σ H s) (mu : Mut (H a)) (hs : Heap.SameBut a s.heap h') (he : ∃ q, h'.get? a = some q) (new : ObjOk X.prog X.w (upd H a ob) h' a ob) :
    Inv X pins σ (upd H a ob) { s with heap := h', toks := t' } :=
  I.write (x := a) (e := a) mu (.inl rfl) (fun b q hb z => (hs.2 b hb).trans z) he new
theorem dk_new {P : Program} {w : World} {H' : Hp} {h' : Heap} {kvs : List (Key × V)} {vs : List (Key × Value)} (z : kvs.length ≤ sizeLine) (hd : (a == sysModules) = false) (rel : KV kvs vs) (dd : h'.DictOf (mixKind P w) a vs) :
    ObjOk P w H' h' a (.dK kvs) := ⟨z, hd, vs, rel, dd⟩
theorem d_setItem {H' : Hp} {Q : Unit → Shared → Prop} (hu : A.units + 1 < cLine) (I : Inv X pins σ H s) (g : DPut H a y v H') (ry : RelV y u) (rv : RelV v r) (h : ∀ s', Inv X pins σ H' s' → Q () s') :
    wpAny (model X.prog X.w) A (setItem (.ref a) u r) Q E s := by
  rcases g with ⟨kvs, k, e, ey, l, eH⟩ | ⟨kvs, k, b, e, ey, eb, l, eH⟩
  · subst ey eH
    obtain ⟨z, hd, vs, rel, dd⟩ := dk_of I.hok e
    have hz : vs.length ≤ sizeLine := by rw [← rel.length]; exact z
    have hl : (putK kvs k v).length ≤ sizeLine := by have := length_putK kvs k v; omega
    refine wpAny_setItem_pairs (hsz := hz) (kV_is ry) dd fun h' dd' hs => h _ ?_
    have he : ∃ q, h'.get? a = some q := let ⟨q, _, _, hq, _⟩ := dd'; ⟨q, hq⟩
    exact d_write I (by rw [e]; exact True.intro) hs he (dk_new hl hd (rel.put k rv) dd')
  · subst ey eH
    cases (show u = Value.ref b from ry)
    obtain ⟨z, hd, xs, rel, dd⟩ := dt_of I.hok e
    have hz : xs.length ≤ sizeLine := by rw [← Paired.length rel]; exact z
    have hl : (putK kvs k v).length ≤ sizeLine := by have := length_putK kvs k v; omega
    refine wpAny_setItem_heap (hsz := hz) (tupleKind_room_in1 hu) (key_of I.hok eb) dd fun h' dd' hs => h _ ?_
    obtain ⟨q, es, ep, hq, h2, h3, h4, _, h5⟩ := dd'
    refine d_write I (by rw [e]; exact True.intro) hs ⟨q, hq⟩ ⟨hl, hd, _, (rel.put k eb rv).keeps fun c ys ec => ?_, q, es, ep, hq, h2, h3, h4, h5⟩
    rw [upd_ne (ne_of ec e (fun z => nomatch z))]
    exact ec
end

section
variable {X : Cx} {pins : List (Addr × Obj)} {σ : St} {H : Hp} {s : Shared} {a : Addr} {kvs : List (Key × V)} {k : Key} {u : Value} {A : Around} {E : Value → Shared → Prop}
end


noncomputable def NoSl (i : Expr) : Prop := ∀ ov iv, subscripted i false ov iv = operate [ov, iv] (getItem ov iv)
theorem subD_of {prog : Program} {w : World} {A : Around} {E : Value → Shared → Prop} {s : Shared} {env : Env} {value slice : Expr} {pos : Pos} {T id : String} {Q : Value → Shared → Prop}
    (hl : typeLookup (.type T) "__getitem__" = pure (some (.builtin id))) (hs : NoSl slice)
    (h : wpAny (model prog w) A (eval value env) (fun o s₁ => wpAny (model prog w) A (eval slice env) (fun i s₂ => s₂.TypeIs o T ∧ wpAny (model prog w) A (getItem o i) Q E s₂) E s₁) E s) :
    wpAny (model prog w) A (eval (.Subscript value slice pos) env) Q E s := by
  refine Subscript_ (wpAny_mono h (fun o s₁ h₁ => wpAny_mono h₁ (fun i s₂ h₂ => ?_) fun _ _ x => x) fun _ _ x => x)
  obtain ⟨hT, h₂⟩ := h₂
  unfold subscriptTail
  refine wpAny_bind ?_
  rw [getitemInPython_of_ne hT.not_modules]
  refine wpAny_bind (wpAny_specialOf hT hl ?_)
  have fin : wpAny (model prog w) A (subscripted slice false o i) (fun r s₃ => wpAny (model prog w) A (letTemporaryGo value o r >>= fun _ => pure r) Q E s₃) E s₂ := by
    rw [hs o i]
    exact wpAny_operating (wpAny_mono h₂ (fun r s₃ h₃ => wpAny_bind (wpAny_letTemporaryGo (wpAny_pure h₃))) fun _ _ x => x)
  first
    | exact wpAny_pure (wpAny_bind fin)
    | exact wpAny_bind (wpAny_pure (wpAny_bind fin))
    | exact wpAny_bind fin

theorem dict_typeIs {X : Cx} {pins : List (Addr × Obj)} {σ : St} {H : Hp} {s : Shared} {a : Addr} {y : V} {o : Option V} (I : Inv X pins σ H s) (g : DGet H a y o) : s.TypeIs (.ref a) "dict" := by
  rcases g with ⟨kvs, k, e, _, _⟩ | ⟨kvs, k, b, e, _, _, _⟩
  · obtain ⟨_, _, vs, _, dd⟩ := dk_rd I.hok e
    exact dd.typeIs
  · obtain ⟨_, _, xs, _, dd⟩ := dt_rd I.hok e
    exact dd.typeIs

noncomputable def tDGet (td ty : TE) : TE := fun σ H Q => td σ H fun x H1 => ty σ H1 fun y H2 => ∃ a v, x = .ref a ∧ DGet H2 a y (some v) ∧ Q v H2
noncomputable def tDIn (ty td : TE) : TE := fun σ H Q => ty σ H fun y H1 => td σ H1 fun x H2 => ∃ a o, x = .ref a ∧ DGet H2 a y o ∧ Q (.bl o.isSome) H2
noncomputable def sDPut (td ty tv : TE) : TS := fun D σ H => tv σ H fun v H1 => td σ H1 fun x H2 => ty σ H2 fun y H3 => ∃ a H4, x = .ref a ∧ DPut H3 a y v H4 ∧ D.nx σ H4

section
variable {X : Cx} {o i e value : Expr} {pos pos' tpos : Pos} {td ty tv : TE}
theorem pe_dget (hu : X.A.units + 1 < cLine) (ho : PE X o td) (hi : PE X i ty) (hs : NoSl i) : PE X (.Subscript o i pos) (tDGet td ty) := by
  intro pins s σ H Q I h
  refine subD_of PySem.F.slot_dict_getitem.lookup hs (thn (ho pins s σ H _ I h) fun u s1 ⟨x, H1, I1, rx, q1⟩ => thn (hi pins s1 σ H1 _ I1 q1) fun iv s2 ⟨y, H2, I2, ry, a, v, ex, g, q2⟩ => ?_)
  subst ex
  obtain rfl : u = Value.ref a := rx
  exact ⟨dict_typeIs I2 g, d_getItem hu I2 g ry fun w' s3 I3 rw' => ⟨v, H2, I3, rw', q2⟩⟩
theorem pc_din (hu : X.A.units + 1 < cLine) (hi : PE X i ty) (ho : PE X o td) : PC X .In i o (tDIn ty td) := by
  intro pins s σ H Q I h
  refine thn (hi pins s σ H _ I h) fun iv s1 ⟨y, H1, I1, ry, q1⟩ => thn (ho pins s1 σ H1 _ I1 q1) fun u s2 ⟨x, H2, I2, rx, a, ov, ex, g, q2⟩ => ?_
  subst ex
  obtain rfl : u = Value.ref a := rx
  exact d_in hu I2 g ry fun s3 I3 => ⟨.bl ov.isSome, H2, I3, rfl, q2⟩
theorem ps_dput (hu : X.A.units + 1 < cLine) (ho : PE X o td) (hi : PE X i ty) (hv : PE X value tv) (hs : swapsWith value (some (.Subscript o i pos')) pos.line X.env = pure false) :
    PS X (.Assign [.Subscript o i pos'] value pos) (sDPut td ty tv) := by
  intro pins s σ H D I h
  refine wpAny_Assign_Subscript (thn (hv pins s σ H _ I h) fun r s1 ⟨v, H1, I1, rv, q1⟩ => thn (ho pins s1 σ H1 _ I1 q1) fun u s2 ⟨x, H2, I2, rx, q2⟩ => thn (hi pins s2 σ H2 _ I2 q2) fun iv s3 ⟨y, H3, I3, ry, a, H4, ex, g, q3⟩ => ?_) hs
  subst ex
  obtain rfl : u = Value.ref a := rx
  exact d_setItem hu I3 g ry rv fun s4 I4 => ⟨σ, H4, I4, q3⟩
end


theorem dt_empty {P : Program} {w : World} {H : Hp} (h : Heap) (hb : sysModules < h.objs.size) : ObjOk P w H (h.push { cls := .type "dict", data := .dict #[] }) h.objs.size (.dT []) :=
  ⟨Nat.zero_le _, beq_eq_false_iff_ne.mpr (Ne.symm (Nat.ne_of_lt hb)), [], .nil, _, #[], 0, Heap.get?_push_size _ rfl, ⟨rfl, rfl, rfl⟩, rfl, rfl, List.nodup_nil⟩
noncomputable def tDNewT : TE := fun _ H Q => ∀ p, H p = none → Q (.ref p) (upd H p (.dT []))
section
variable {X : Cx} {pos : Pos}
theorem pe_dnewT : PE X (.Dict [] [] pos) tDNewT := fun pins s σ H Q I h =>
  wpAny_Dict_empty ⟨.ref s.heap.objs.size, _, I.laid (a := s.heap.objs.size) (o := .dT []) (t' := s.toks) (fun _ _ q => Heap.get?_push_of_some _ q) (Nat.le_refl _) (dt_empty s.heap I.big), rfl, h _ (I.hok.fresh (Nat.le_refl _))⟩
end




structure M1 (X : Cx) (o : Expr) (m : Str) (apos : Pos) (e : Expr) (cpos : Pos) : Prop where
  base : attributeBase o m X.env (eval o X.env) = eval o X.env
  few : ((backTo cpos (starEach [e] X.env)).all (fun x => !x.1) && (backToKw cpos (keywordEach [] X.env)).all (fun x => x.1.isSome)
    && decide (([e] : List Expr).length + ([] : List Keyword).length + (if ([] : List Keyword).isEmpty then 0 else 1) < 30)) = true
  line : (apos.endLine == cpos.line) = true
  trees : backTo cpos (starEach [e] X.env) = [(false, eval e X.env)]
structure M2 (X : Cx) (o : Expr) (m : Str) (apos : Pos) (e f : Expr) (cpos : Pos) : Prop where
  base : attributeBase o m X.env (eval o X.env) = eval o X.env
  few : ((backTo cpos (starEach [e, f] X.env)).all (fun x => !x.1) && (backToKw cpos (keywordEach [] X.env)).all (fun x => x.1.isSome)
    && decide (([e, f] : List Expr).length + ([] : List Keyword).length + (if ([] : List Keyword).isEmpty then 0 else 1) < 30)) = true
  line : (apos.endLine == cpos.line) = true
  trees : backTo cpos (starEach [e, f] X.env) = [(false, eval e X.env), (false, eval f X.env)]

noncomputable def IsD (H : Hp) (a : Addr) : Prop := (∃ kvs, Rd H a (.dK kvs)) ∨ ∃ kvs, Rd H a (.dT kvs)
theorem isD_at {X : Cx} {pins : List (Addr × Obj)} {σ : St} {H : Hp} {s : Shared} {a : Addr} (I : Inv X pins σ H s) (d : IsD H a) :
    s.TypeIs (.ref a) "dict" ∧ (∀ b, Value.ref a = .ref b → ∃ ob, s.heap.get? b = some ob ∧ ob.dict = none) ∧ (a == sysModules) = false := by
  rcases d with ⟨kvs, e⟩ | ⟨kvs, e⟩
  · obtain ⟨_, hd, vs, _, dd⟩ := dk_rd I.hok e
    refine ⟨dd.typeIs, fun b q => ?_, hd⟩
    cases q
    obtain ⟨ob, _, _, h1, h2, _⟩ := dd
    exact ⟨ob, h1, h2.2.1⟩
  · obtain ⟨_, hd, xs, _, dd⟩ := dt_rd I.hok e
    refine ⟨dd.typeIs, fun b q => ?_, hd⟩
    cases q
    obtain ⟨ob, _, _, h1, h2, _⟩ := dd
    exact ⟨ob, h1, h2.2.1⟩

section
variable {X : Cx} {pins : List (Addr × Obj)} {σ : St} {H : Hp} {s : Shared} {a : Addr} {y d : V} {u r : Value} {o : Option V} {A : Around} {E : Value → Shared → Prop}
theorem d_get2 {Q : Value → Shared → Prop} (hu : A.units + 1 < cLine) (I : Inv X pins σ H s) (g : DGet H a y o) (ry : RelV y u) (rd : RelV d r) (h : ∀ w' s', Inv X pins σ H s' → RelV (o.getD d) w' → Q w' s') :
    wpAny (model X.prog X.w) A (call (.builtin "dict.get") [.ref a, u, r]) Q E s := by
  rcases g with ⟨kvs, k, e, ey, l⟩ | ⟨kvs, k, b, e, ey, eb, l⟩
  · subst ey
    obtain ⟨z, hd, vs, rel, dd⟩ := dk_rd I.hok e
    refine call_meetsIn PySem.F.slot_dict_get dd.typeIs PySem.F.entry_dict_get (PySem.F.args_dict_get_3 _ _ _) (meets_dict_get_default (mixKind X.prog X.w) a (kV_is ry) hd r) ⟨_, dd.mapOf, h _ _ (I.tok _) ?_⟩
    rw [l]
    exact (rel.val k).getD rd
  · subst ey
    cases (show u = Value.ref b from ry)
    obtain ⟨z, hd, xs, rel, dd⟩ := dt_rd I.hok e
    refine call_meetsIn PySem.F.slot_dict_get dd.typeIs PySem.F.entry_dict_get (PySem.F.args_dict_get_3 _ _ _) (meetsH_dict_get_default (tupleKind (mixKind X.prog X.w)) a b hd r) ⟨tupleKind_room_in1 hu, k, xs, key_of I.hok eb, dd, h _ _ (I.tok _) ?_⟩
    rw [l]
    exact (rel.val k).getD rd
end

noncomputable def tDGet2 (td ty tx : TE) : TE := fun σ H Q => td σ H fun x H1 => ∃ a, x = .ref a ∧ IsD H1 a ∧ ty σ H1 fun y H2 => tx σ H2 fun z H3 => ∃ o, DGet H3 a y o ∧ Q (o.getD z) H3
section
variable {X : Cx} {o e f : Expr} {apos cpos : Pos} {td ty tx : TE}
theorem pe_dget2 (hu : X.A.units + 1 < cLine) (ho : PE X o td) (he : PE X e ty) (hf : PE X f tx) (m : M2 X o "get" apos e f cpos) : PE X (.Call (.Attribute o "get" apos) [e, f] [] cpos) (tDGet2 td ty tx) := by
  intro pins s σ H Q I h
  refine wpAny_Call_method m.base m.few m.line PySem.F.plainAttrs_dict PySem.F.slot_dict_get PySem.F.type_dict_get (thn (ho pins s σ H _ I h) fun u s1 ⟨x, H1, I1, rx, a, ex, d, q1⟩ => ?_)
  subst ex
  obtain rfl : u = Value.ref a := rx
  obtain ⟨t1, t2, _⟩ := isD_at I1 d
  refine ⟨t1, t2, ?_⟩
  rw [m.trees]
  refine Calls.callWith_builtin rfl (Calls.evalArgs_plain (Calls.spliced_cons (thn (he pins s1 σ H1 _ I1 q1) fun iv s2 ⟨y, H2, I2, ry, q2⟩ =>
    Calls.spliced_cons (thn (hf pins s2 σ H2 _ I2 q2) fun fv s3 ⟨z, H3, I3, rz, ov, g, q3⟩ => Calls.spliced_nil ?_))))
  exact d_get2 hu I3 g ry rz fun w' s4 I4 rw' => ⟨_, H3, I4, rw', q3⟩
end

section
variable {X : Cx} {pins : List (Addr × Obj)} {σ : St} {H : Hp} {s : Shared} {a : Addr} {kvs : List (Key × V)} {A : Around} {E : Value → Shared → Prop}
end


section
variable {X : Cx} {pins : List (Addr × Obj)} {σ : St} {H : Hp} {s : Shared} {a : Addr} {y : V} {u : Value} {A : Around} {E : Value → Shared → Prop}
end
end L2
namespace L2
open PySem PySem.Spec PyProof.Rows
section
variable {X : Cx}
end
end L2
namespace L2
open PySem PySem.Spec PyProof.Rows

section
variable {κ : Type} [DecidableEq κ]
end
end L2

namespace LwD
open PySem PySem.Spec PyProof.Rows L2
theorem KTdrop {H : Hp} {kvs : List (List Key × V)} {xs : List (List Key × Addr × Value)} (r : KT H kvs xs) (k : List Key) : KT H (dropK kvs k) (xs.filter fun x => decide (x.1 ≠ k)) := by
  induction r with
  | nil => exact .nil
  | @cons p q ps qs h t ih =>
    unfold dropK at ih ⊢
    rw [List.filter_cons, List.filter_cons]
    by_cases e : p.1 = k
    · rw [if_neg (by simp [e]), if_neg (by rw [h.1] at e; simp [e])]
      exact ih
    · rw [if_pos (by simp [e]), if_pos (by rw [h.1] at e; simp [e])]
      exact .cons h ih
theorem map_erase {α β : Type} (f : α → β) : ∀ (xs : List α) (j : Nat), (xs.map f).eraseIdx j = (xs.eraseIdx j).map f
  | [], _ => rfl
  | _ :: _, 0 => rfl
  | x :: r, j + 1 => by rw [List.map_cons, List.eraseIdx_cons_succ, List.eraseIdx_cons_succ, List.map_cons, map_erase f r j]
theorem erase_filter {K : Type} [DecidableEq K] {k : K} : ∀ {xs : List (K × Addr × Value)} {j : Nat} {p : Addr × Value}, (xs.map (·.1)).Nodup → xs[j]? = some (k, p) → xs.eraseIdx j = xs.filter fun x => decide (x.1 ≠ k)
  | [], _, _, _, e => by simp at e
  | x :: r, 0, p, hn, e => by
    simp only [List.getElem?_cons_zero, Option.some.injEq] at e
    subst e
    rw [List.map_cons, List.nodup_cons] at hn
    rw [List.eraseIdx_zero, List.tail_cons, List.filter_cons, if_neg (by simp)]
    symm
    rw [List.filter_eq_self]
    intro y hy
    have : y.1 ≠ k := fun z => hn.1 (List.mem_map.mpr ⟨y, hy, z⟩)
    simp [this]
  | x :: r, j + 1, p, hn, e => by
    rw [List.map_cons, List.nodup_cons] at hn
    have e' : r[j]? = some (k, p) := by simpa using e
    have hx : x.1 ≠ k := fun z => hn.1 (z ▸ List.mem_map.mpr ⟨(k, p), List.mem_of_getElem? e', rfl⟩)
    rw [List.eraseIdx_cons_succ, List.filter_cons, if_pos (by simp [hx]), erase_filter hn.2 e']
section
variable {prog : Program} {w : World} {K : Type} [DecidableEq K] {knd : HeapKind prog w K} {A : Around} {E : Value → Shared → Prop} {s : Shared}
theorem takeOut_heap {d a : Addr} {xs : List (K × Addr × Value)} {k : K} {p : Addr × Value} {Q : Option DictEntry → Shared → Prop} (hu : knd.room A) (hkey : knd.is s.heap k a) (hm : s.heap.DictOfH knd d xs) (hz : xs.length ≤ sizeLine) (hp : atKey xs k = some p)
    (hs : ∀ h', h'.DictOfH knd d (xs.filter fun x => decide (x.1 ≠ k)) → Heap.SameBut d s.heap h' → Q (some (entryOfKey knd (k, p))) { s with heap := h', toks := s.toks + knd.draws k }) :
    wpAny (model prog w) A (Builtin.Dict.takeOut d (.ref a)) Q E s := by
  obtain ⟨o, es, ep, ho, hc, hd, he, his, hn⟩ := hm
  have hes : es.size ≤ sizeLine := by rw [size_of_entries he]; exact hz
  unfold Builtin.Dict.takeOut
  try with_reducible refine wpAny_holding ?_
  refine wpAny_bind (knd.pyHash hu hkey (wpAny_bind (wpAny_dictFind_heap (s := { s with toks := s.toks + knd.draws k }) hu hkey ho hd he his hn ?_ ?_)))
  · intro hno
    rw [atKey_none_of_get hno] at hp
    cases hp
  · intro j p' hj
    rw [atKey_of_get hn hj] at hp
    cases hp
    refine wpAny_bind (wpAny_dictEntries (s := { s with toks := s.toks + knd.draws k }) ho hd ?_)
    rw [entry_at he j, hj]
    refine wpAny_bind (wpAny_updateDictKeys (hz := hes) (s := { s with toks := s.toks + knd.draws k }) ho hd (wpAny_pure (hs _ ⟨_, _, ep + 1, Heap.get?_update_self _ ho (Obj.isFreed_of_dict (Obj.data_mapDictKeys hd _)), hc.mapDictKeys _, Obj.data_mapDictKeys hd _, ?_, ?_, ?_⟩ (Heap.SameBut.update ..))))
    · rw [← erase_filter hn hj]
      obtain ⟨l⟩ := es
      simp only at he
      subst he
      show ((List.map (entryOfKey knd) xs).toArray.eraseIdxIfInBounds j).toList = _
      rw [List.eraseIdxIfInBounds_toArray]
      exact map_erase _ xs j
    · intro x hx
      exact knd.keeps (his x (List.mem_filter.mp hx).1) ho hd (Heap.SameBut.update ..)
    · exact hn.sublist (List.filter_sublist.map _)
theorem meets_popT {d a : Addr} {k : K} :
    MeetsIn prog w (Builtin.«dict.pop» ⟨[.ref d, .ref a], []⟩) (fun A R s => ∃ xs p, knd.room A.in1 ∧ knd.is s.heap k a ∧ s.heap.DictOfH knd d xs ∧ xs.length ≤ sizeLine ∧ atKey xs k = some p ∧
      ∀ h', h'.DictOfH knd d (xs.filter fun x => decide (x.1 ≠ k)) → Heap.SameBut d s.heap h' → R (.ok (.ret p.2)) { s with heap := h', toks := s.toks + knd.draws k }) :=
  .of_wp fun A R s ⟨xs, p, hu, hkey, hm, hz, hp, h⟩ => by
    unfold Builtin.«dict.pop»
    refine wpAny_bind ?_
    unfold Builtin.Dict.keyAndDefault
    refine wpAny_bind (wpAny_notOrdered_dict hm.typeIs ?_)
    show wpAny _ _ (pure (d, Value.ref a, none)) _ _ s
    refine wpAny_pure ?_
    obtain ⟨o, es, ep, ho, hc, hd, he, his, hn⟩ := id hm
    have ne : es.isEmpty = false := by
      have e1 := size_of_entries he
      have e2 : xs ≠ [] := fun z => by subst z; cases hp
      have e3 : 0 < xs.length := List.length_pos_iff.mpr e2
      rw [Array.isEmpty_eq_false_iff_exists_mem]
      exact ⟨es[0]'(by omega), Array.getElem_mem _⟩
    have go : wpAny (model prog w) A.in1 (Builtin.Dict.takeOut d (.ref a)) (fun old s' => old = some (entryOfKey knd (k, p)) ∧ R (.ok (.ret p.2)) s') (fun _ _ => False) s :=
      takeOut_heap hu hkey hm hz hp fun h' hm' hs' => ⟨rfl, h h' hm' hs'⟩
    have kp : (keyPart (Value.ref a)).isSome = false := rfl
    simp only [kp, Bool.false_eq_true, if_false]
    refine wpAny_bind (wpAny_dictEntries ho hd ?_)
    rw [ne]
    refine wpAny_bind (wpAny_pure ?_)
    simp only [Bool.false_eq_true, if_false]
    refine wpAny_bind (wpAny_mono go (fun old s' ⟨e1, hR⟩ => ?_) fun _ _ z => z.elim)
    subst e1
    simp only [Option.isNone_some, Bool.false_eq_true, if_false]
    exact wpAny_bind (wpAny_letGo (wpAny_pure ⟨p.2, rfl, hR⟩))
end
section
variable {X : Cx} {pins : List (Addr × Obj)} {σ : L2.St} {H : Hp} {s : Shared} {a b : Addr} {kvs : List (List Key × V)} {k : List Key} {E : Value → Shared → Prop}
theorem d_popT {v : V} {Q : Value → Shared → Prop} (hu : X.A.units + 1 < cLine) (I : Inv X pins σ H s) (e : H a = some (.dT kvs)) (eb : H b = some (.tup (k.map kV))) (l : valV kvs k = some v)
    (h : ∀ w' s', Inv X pins σ (upd H a (.dT (dropK kvs k))) s' → RelV v w' → Q w' s') : wpAny (model X.prog X.w) X.A (call (.builtin "dict.pop") [.ref a, .ref b]) Q E s := by
  obtain ⟨z, hd, xs, rel, dd⟩ := dt_of I.hok e
  have hz : xs.length ≤ sizeLine := by rw [← Paired.length rel]; exact z
  have rv := rel.val k
  rw [l] at rv
  cases hp : atKey xs k with
  | none => rw [hp] at rv; exact rv.elim
  | some p =>
    rw [hp] at rv
    refine call_meetsIn PySem.F.slot_dict_pop dd.typeIs PySem.F.entry_dict_pop (PySem.F.args_dict_pop_2 _ _) (meets_popT (knd := tupleKind (mixKind X.prog X.w)) (k := k)) ⟨xs, p, tupleKind_room_in1 hu, key_of I.hok eb, dd, hz, hp, fun h' dd' hs => h p.2 _ ?_ rv⟩
    obtain ⟨q, es, ep, hq, h2, h3, h4, _, h5⟩ := dd'
    have hl : (dropK kvs k).length ≤ sizeLine := Nat.le_trans (dropK_le kvs k) z
    refine d_write I (by rw [e]; exact True.intro) hs ⟨q, hq⟩ ⟨hl, hd, _, (KTdrop rel k).keeps fun c ys ec => ?_, q, es, ep, hq, h2, h3, h4, h5⟩
    rw [upd_ne (ne_of ec e (fun z => nomatch z))]
    exact ec
variable {o e : Expr} {td ty : TE} {apos cpos : Pos}
noncomputable def tDPopT (td ty : TE) : TE := fun σ H Q => td σ H fun x H1 => ∃ a, x = .ref a ∧ IsD H1 a ∧ ty σ H1 fun y H2 => ∃ kvs k v b, H2 a = some (.dT kvs) ∧ y = .ref b ∧ H2 b = some (.tup (k.map kV)) ∧ valV kvs k = some v ∧ Q v (upd H2 a (.dT (dropK kvs k)))
theorem pe_dpopT (hu : X.A.units + 1 < cLine) (ho : PE X o td) (he : PE X e ty) (m : M1 X o "pop" apos e cpos) : PE X (.Call (.Attribute o "pop" apos) [e] [] cpos) (tDPopT td ty) := by
  intro pins s σ H Q I h
  refine wpAny_Call_method m.base m.few m.line PySem.F.plainAttrs_dict PySem.F.slot_dict_pop PySem.F.type_dict_pop (thn (ho pins s σ H _ I h) fun u s1 ⟨x, H1, I1, rx, a, ex, d, q1⟩ => ?_)
  subst ex
  obtain rfl : u = Value.ref a := rx
  obtain ⟨t1, t2, _⟩ := isD_at I1 d
  refine ⟨t1, t2, ?_⟩
  rw [m.trees]
  refine Calls.callWith_builtin rfl (Calls.evalArgs_plain (Calls.spliced_cons (thn (he pins s1 σ H1 _ I1 q1) fun iv s2 ⟨y, H2, I2, ry, kvs, k, v, b, ea, ey, eb, l, q2⟩ => Calls.spliced_nil ?_)))
  subst ey
  cases ry
  exact d_popT hu I2 ea eb l fun w' s3 I3 rw' => ⟨v, _, I3, rw', q2⟩
end
end LwD

namespace LwD
open PySem PySem.Spec PyProof.Rows L2
noncomputable def Raw (h : Heap) (d : Addr) (es : Array DictEntry) (ep : Nat) : Prop := ∃ o, h.get? d = some o ∧ o.ExactDict ∧ o.data = .dict es ep
theorem Raw.lt {h : Heap} {d : Addr} {es : Array DictEntry} {ep : Nat} (r : Raw h d es ep) : d < h.objs.size := let ⟨_, e, _⟩ := r; Heap.lt_size e
theorem Raw.keep {h h' : Heap} {d : Addr} {es : Array DictEntry} {ep : Nat} (r : Raw h d es ep) (k : ∀ o, h.get? d = some o → h'.get? d = some o) : Raw h' d es ep := let ⟨o, e, x⟩ := r; ⟨o, k o e, x⟩
theorem Raw.ty {s : Shared} {d : Addr} {es : Array DictEntry} {ep : Nat} (r : Raw s.heap d es ep) : s.TypeIs (.ref d) "dict" := let ⟨o, e, c, _⟩ := r; ⟨o, e, c.1⟩
section
variable {prog : Program} {w : World} {A : Around} {E : Value → Shared → Prop} {s : Shared} {d it : Addr} {es : Array DictEntry} {ep i : Nat}
theorem raw_iter {Q : Value → Shared → Prop} (lo : (d == sysModules) = false) (r : Raw s.heap d es ep)
    (q : Q (.ref s.heap.objs.size) { s with heap := s.heap.push { cls := .type "dict_keyiterator", data := .fields #[.ref d, .int 0 0, .int es.size 0, .int ep 0] } }) : wpAny (model prog w) A (pyIter (.ref d)) Q E s := by
  have ty := r.ty
  obtain ⟨o, ho, hc, hdat⟩ := r
  refine wpAny_pyIter_slot ty PySem.F.slot_dict_iter (wpAny_call_entry PySem.F.slot_dict_iter ty PySem.F.entry_dict_iter ?_ (PySem.F.args_dict_iter_1 _))
  unfold Builtin.«dict.__iter__»
  refine wpAny_bind (show wpAny _ _ (Builtin.Dict.dictSlotNone _ _) _ _ s from ?_)
  unfold Builtin.Dict.dictSlotNone
  refine wpAny_bind (wpAny_notOrdered_dict ty (show wpAny _ _ (pure (Value.ref d)) _ _ s from wpAny_pure ?_))
  show wpAny _ _ (Builtin.Dict.showsAll d >>= _) _ _ s
  unfold Builtin.Dict.showsAll
  rw [if_neg (by rw [lo]; exact Bool.false_ne_true)]
  refine wpAny_bind (wpAny_pure (wpAny_bind (wpAny_dictEntries ho hdat (wpAny_bind (wpAny_dictEpoch ho hdat ?_)))))
  refine wpAny_bind (wpAny_newObj_type (wpAny_pure ⟨_, rfl, "dict_keyiterator", _, ⟨_, Heap.get?_push_size _ rfl, rfl⟩, PySem.F.slot_dict_keyiterator_next.lookup, ?_⟩))
  simpa [rawInt] using q
theorem raw_next {Q : Option Value → Shared → Prop} (k : s.heap.IsKeyIter it d i es.size ep) (r : Raw s.heap d es ep) (hi : i < es.size)
    (q : ∀ h', h'.IsKeyIter it d (i + 1) es.size ep → Heap.SameBut it s.heap h' → Q (some es[i].key) { s with heap := h' }) : wpAny (model prog w) A (pyNext (.ref it)) Q E s := by
  have ty := k.typeIs
  obtain ⟨o, ho, hc, hd⟩ := id k
  obtain ⟨od, hod, hcd, hdd⟩ := id r
  have own : Builtin.Dict_items.ownsTuple "dict_keyiterator" = false := by decide
  unfold pyNext
  refine wpAny_bind (wpAny_attempt (wpAny_callSpecial?_slot (name := Str.ofString "__next__") ty PySem.F.slot_dict_keyiterator_next (wpAny_call_entry PySem.F.slot_dict_keyiterator_next ty PySem.F.entry_dict_keyiterator_next ?_ (PySem.F.args_dict_keyiterator_next_1 _))))
  refine wpAny_bind (wpAny_pure (wpAny_bind (wpAny_bind ?_)))
  first | refine wpAny_bind (wpAny_typeNameOfWhole_keyiter ty (wpAny_pure (wpAny_bind (wpAny_fieldsOf ho hd ?_)))) | refine wpAny_bind (wpAny_typeNameOf_keyiter ty (wpAny_pure (wpAny_bind (wpAny_fieldsOf ho hd ?_))))
  simp only [own, Bool.false_eq_true, if_false]
  show wpAny _ _ (if (Value.ref d == Value.none) = true then _ else _) _ _ s
  rw [if_neg (show ¬ ((Value.ref d == Value.none) = true) from Bool.false_ne_true)]
  refine wpAny_bind (wpAny_pure (wpAny_bind (wpAny_dictEntries hod hdd ?_)))
  rw [if_neg (by simp)]
  refine wpAny_bind (wpAny_pure (wpAny_bind (wpAny_dictEpoch hod hdd ?_)))
  rw [if_neg (by simp)]
  refine wpAny_pure ?_
  simp only [show ¬ ((i : Int) < 0) from by omega, if_false, Int.toNat_natCast, Array.getElem?_eq_getElem hi]
  refine wpAny_bind ?_
  first | refine wpAny_bind (wpAny_typeNameOfWhole_keyiter ty (wpAny_pure (wpAny_bind (wpAny_isOneOf_keyiter ty ?_)))) | refine wpAny_bind (wpAny_typeNameOf_keyiter ty (wpAny_pure (wpAny_bind (wpAny_isOneOf_keyiter ty ?_))))
  show wpAny _ _ (setField (.ref it) 1 (rawInt ((i : Int) + 1)) >>= _) _ _ s
  have k' : (s.heap.update it (Obj.mapFields (·.setIfInBounds 1 (rawInt ((i : Int) + 1))))).IsKeyIter it d (i + 1) es.size ep :=
    ⟨_, Heap.get?_update_self _ ho (Obj.isFreed_of_fields (Obj.data_mapFields hd _)), (Obj.cls_mapFields ..).trans hc, by rw [Obj.data_mapFields hd]; simp [rawInt]⟩
  refine wpAny_bind (wpAny_setField ho hd (by simp) (wpAny_bind (wpAny_holding ?_)))
  refine wpAny_bind (wpAny_isOneOf_keyiter (s := { s with heap := s.heap.update it (Obj.mapFields (·.setIfInBounds 1 (rawInt ((i : Int) + 1)))) }) k'.typeIs ?_)
  show wpAny _ _ (pure es[i].key) _ _ _
  exact wpAny_pure (wpAny_pure ⟨_, rfl, wpAny_pure (q _ k' (Heap.SameBut.update ..))⟩)
theorem raw_end {Q : Option Value → Shared → Prop} (hh : A.handled = none) (k : s.heap.IsKeyIter it d es.size es.size ep) (r : Raw s.heap d es ep) (q : ∀ h', Heap.ExtBut it s.heap h' → Q none { s with heap := h' }) : wpAny (model prog w) A (pyNext (.ref it)) Q E s := by
  have ty := k.typeIs
  obtain ⟨o, ho, hc, hd⟩ := id k
  obtain ⟨od, hod, hcd, hdd⟩ := id r
  have own : Builtin.Dict_items.ownsTuple "dict_keyiterator" = false := by decide
  unfold pyNext
  refine wpAny_bind (wpAny_attempt (wpAny_callSpecial?_slot (name := Str.ofString "__next__") ty PySem.F.slot_dict_keyiterator_next (wpAny_call_entry PySem.F.slot_dict_keyiterator_next ty PySem.F.entry_dict_keyiterator_next ?_ (PySem.F.args_dict_keyiterator_next_1 _))))
  refine wpAny_bind (wpAny_pure (wpAny_bind (wpAny_bind ?_)))
  first | refine wpAny_bind (wpAny_typeNameOfWhole_keyiter ty (wpAny_pure (wpAny_bind (wpAny_fieldsOf ho hd ?_)))) | refine wpAny_bind (wpAny_typeNameOf_keyiter ty (wpAny_pure (wpAny_bind (wpAny_fieldsOf ho hd ?_))))
  simp only [own, Bool.false_eq_true, if_false]
  show wpAny _ _ (if (Value.ref d == Value.none) = true then _ else _) _ _ s
  rw [if_neg (show ¬ ((Value.ref d == Value.none) = true) from Bool.false_ne_true)]
  refine wpAny_bind (wpAny_pure (wpAny_bind (wpAny_dictEntries hod hdd ?_)))
  rw [if_neg (by simp)]
  refine wpAny_bind (wpAny_pure (wpAny_bind (wpAny_dictEpoch hod hdd ?_)))
  rw [if_neg (by simp)]
  refine wpAny_pure ?_
  simp only [show ¬ ((es.size : Int) < 0) from by omega, if_false, Int.toNat_natCast, Array.getElem?_eq_none (Nat.le_refl es.size)]
  refine wpAny_bind ?_
  first | refine wpAny_bind (wpAny_typeNameOfWhole_keyiter ty (wpAny_pure ?_)) | refine wpAny_bind (wpAny_typeNameOf_keyiter ty (wpAny_pure ?_))
  show wpAny _ _ (setField (.ref it) 0 .none >>= _) _ _ s
  refine wpAny_bind (wpAny_setField ho hd (by simp) (show wpAny _ _ (newExc (.type "StopIteration") [] >>= _) _ _ _ from wpAny_bind ?_))
  simp only [newExc, newTuple]
  refine wpAny_bind (wpAny_newObj_type (wpAny_bind (m := firstArgMember _ _) (wpAny_of_eq (a := Value.none) (by first | rfl | (simp only [firstArgMember]; rfl)) (wpAny_newObj_type ?_ (by size_fits)))) (by size_fits))
  simp only [raiseNew]
  refine wpAny_bind (wpAny_handled ?_)
  rw [show A.in1.handled = none from hh]
  refine wpAny_bind (wpAny_pure (wpAny_throw ?_))
  refine wpAny_bind (wpAny_isInstance (b := true) (T := "StopIteration") ⟨_, Heap.get?_push_size _ rfl, rfl⟩ isSubtype_stop ?_)
  exact wpAny_pure (q _ (((Heap.SameBut.update ..).extBut.push _).push _))
theorem raw_walks (hh : A.handled = none) (hne : d ≠ it) : Walks prog w A it [it, d] [it] es.size (fun i v => ∃ h : i < es.size, v = es[i].key) (fun i h => h.IsKeyIter it d i es.size ep ∧ Raw h d es ep) where
  sub := fun b hb => by simp at hb; simp [hb]
  frame := fun _ _ _ st hk => ⟨st.1.at fun o e => hk it (by simp) o e, st.2.keep fun o e => hk d (by simp) o e⟩
  item := fun i s Q E hi st hQ => raw_next st.1 st.2 hi fun h' k' hs' => hQ _ h' s.toks ⟨hi, rfl⟩ ⟨k', st.2.keep fun o e => hs'.extBut d o hne e⟩ fun b o hb e => hs'.extBut b o (fun h => hb (by simp [h])) e
  done := fun s Q E st hQ => raw_end hh st.1 st.2 fun h' he' => hQ h' s.toks fun b o hb e => he' b o (fun h => hb (by simp [h])) e
  self := fun _ _ _ _ st hQ => wpAny_pyIter_keyiter st.1 hQ
theorem raw_src (lo : (d == sysModules) = false) : PySem.W.KdlSrc prog w "dict" d d es.size (fun i v => ∃ h : i < es.size, v = es[i].key) (fun h => Raw h d es ep) where
  type := fun _ hm => hm.ty
  there := fun _ hm => ⟨hm.lt, hm.lt⟩
  keep := fun _ _ hm hk => hm.keep fun o e => hk d (.inl rfl) o e
  notList := by decide
  notTuple := by decide
  hint := fun _ _ _ _ hm hq => PySem.W.kdl_hint_dict hm.ty hq
  iter := fun _ _ hh hm => ⟨_, _, (fun _ _ hq => raw_iter lo hm hq), raw_walks hh (Nat.ne_of_lt hm.lt), ⟨⟨_, Heap.get?_push_size _ rfl, rfl, rfl⟩, hm.keep fun o e => Heap.get?_push_of_some _ e⟩⟩
end
end LwD

namespace LwD
open PySem PySem.W PySem.Spec PyProof.Rows
noncomputable def Pm (n : Nat) (p : Array Nat) : Prop := p.toList.Perm (List.range n)
theorem Pm.size {n : Nat} {p : Array Nat} (h : Pm n p) : p.size = n := by have := h.length_eq; simpa using this
theorem Pm.lt {n : Nat} {p : Array Nat} (h : Pm n p) {i : Nat} (hn : 0 < n) : p.getD i 0 < n := by
  by_cases hi : i < p.size
  · have : p.getD i 0 ∈ p.toList := by simp [Array.getD, hi]
    exact List.mem_range.mp (h.mem_iff.mp this)
  · simp [Array.getD, hi, hn]
theorem Pm.rev {n : Nat} {p : Array Nat} (h : Pm n p) (i j : Nat) : Pm n (kas_rev p i j) := (Array.perm_iff_toList_perm.mp (mirror_perm p i j _)).trans h
theorem Pm.bub {n : Nat} {p : Array Nat} (h : Pm n p) (i j : Nat) : Pm n (bubble p i j) := (Array.perm_iff_toList_perm.mp (bubble_perm p i j)).trans h
section
variable {prog : Program} {w : World} {A : Around} {E : Value → Shared → Prop} {s : Shared}
end
end LwD

namespace LwD
open PySem PySem.Spec PyProof.Rows L2 Lw
theorem ns_uniq {h : Heap} {a : Addr} {m m' : Str → Option Value} (x : h.Ns a m) (y : h.Ns a m') : m = m' := by
  obtain ⟨o, es, ep, ho, hd, hk, hm⟩ := x
  obtain ⟨o', es', ep', ho', hd', hk', hm'⟩ := y
  rw [ho] at ho'
  cases ho'
  rw [hd] at hd'
  cases hd'
  funext z
  rw [← hm z, ← hm' z]
theorem obj_some {P : Program} {w : World} {H : Hp} {h : Heap} {a : Addr} {o : HO} (x : ObjOk P w H h a o) : ∃ q, h.get? a = some q := by
  cases o with
  | lst xs => obtain ⟨_, _, _, _, e⟩ := x; exact ⟨_, e⟩
  | tup xs => obtain ⟨_, _, _, q, e, _⟩ := x; exact ⟨_, e⟩
  | dK kvs => obtain ⟨_, _, _, _, o, _, _, e, _⟩ := x; exact ⟨_, e⟩
  | dT kvs => obtain ⟨_, _, _, _, o, _, _, e, _⟩ := x; exact ⟨_, e⟩
  | set S n => obtain ⟨o, _, _, _, e, _⟩ := x; exact ⟨_, e⟩
  | ins C dx fs => obtain ⟨_, _, _, e, _⟩ := x; exact ⟨_, e⟩
  | own y => exact x
  | xd fs => obtain ⟨_, ⟨_, _, _, e, _⟩, _⟩ := x; exact ⟨_, e⟩
  | rng lo hi => obtain ⟨_, _, _, e⟩ := x; exact ⟨_, e⟩
  | frz ob u => exact ⟨_, x.1⟩
  | tbl ps => exact ⟨_, x⟩
  | met f y => exact ⟨_, x⟩
  | ext φ => exact x.2.1
section
variable {X : Cx} {pins : List (Addr × Obj)} {σ : L2.St} {H : Hp} {s : Shared}
theorem new_by_news {D : Addr} {o : Obj} {ho : HO} {h3 : Heap} {m : Str → Option Value} {tk : Nat} (I : Inv X pins σ H s) (F : Fr X.base X.env.locals s.heap m) (F3 : Fr X.base X.env.locals h3 m) (N3 : News X.base X.env.locals h3 ((D, o) :: allNews X.base s.heap X.env.locals))
    (lt : ∀ q ∈ allNews X.base s.heap X.env.locals, q.1 < D) (new : h3.get? D = some o → ObjOk X.prog X.w (upd H D ho) h3 D ho) : H D = none ∧ Inv X pins σ (upd H D ho) { s with heap := h3, toks := tk } := by
  have n1 := N3 (D, o) (List.mem_cons_self ..)
  have dn : s.heap.get? D = none := by
    cases q : s.heap.get? D with
    | none => rfl
    | some u => exact absurd (lt _ (mem_allNews n1.2.1 n1.2.2 q)) (Nat.lt_irrefl _)
  have Hn : H D = none := by
    cases q : H D with
    | none => rfl
    | some u =>
      obtain ⟨z, e⟩ := obj_some (I.hok D u q)
      rw [dn] at e
      cases e
  have kp : ∀ b u, b ≠ X.env.locals → s.heap.get? b = some u → h3.get? b = some u := fun b u hb e => by
    cases q : X.base.get? b with
    | some z =>
      have y := I.bk b z q
      rw [e] at y
      cases y
      exact F3.keep b _ q
    | none => exact (N3 (b, u) (List.mem_cons_of_mem _ (mem_allNews hb q e))).1
  have ne : ∀ b u, s.heap.get? b = some u → b ≠ D := fun b u e z => by rw [z, dn] at e; cases e
  have thr : ∀ b u, s.heap.get? b = some u → ∃ u', h3.get? b = some u' := fun b u e => by
    by_cases hb : b = X.env.locals
    · obtain ⟨u', _, _, e', _⟩ := F3.ns
      exact ⟨u', by rw [hb]; exact e'⟩
    · exact ⟨u, kp b u hb e⟩
  refine ⟨Hn, I.step (g' := s.gens) (d' := s.drawn) (ch := []) (fun _ z => nomatch z) (fun b u hb _ _ e _ => kp b u hb e) (fun b u hb _ _ e _ => ⟨u.slots, kp b u hb e⟩) (fun b u _ e n => ?_) (fun b u _ e => thr b u e) (fun b xs e => ?_) (fun b u v e => ?_) (fun b ps e => ?_) (fun m' hm => ?_) (fun b u e => ?_) I.bare⟩
  · rw [upd_ne (ne b u e)]
    exact n
  · rw [upd_ne (ne_of_none e Hn)]
    exact e
  · rw [upd_ne (ne_of_none e Hn)]
    exact e
  · exact ⟨#[], by rw [upd_ne (ne_of_none e Hn), e]; simp⟩
  · rw [ns_uniq hm F.ns]
    exact F3.ns
  · by_cases hb : b = D
    · subst hb
      rw [upd_same] at e
      cases e
      exact new n1.1
    · rw [upd_ne hb] at e
      refine (I.hok b u e).stay (fun c v hc q => kp c v (fun z => ?_) q) (fun c q => by rw [upd_ne (ne_of_none q Hn)]; exact q) fun c xs q => by rw [upd_ne (ne_of_none q Hn)]; exact q
      rcases hc with y | y
      · rw [← y, z, I.free] at e
        cases e
      · rw [z, I.free] at y
        cases y
end
section
variable {prog : Program} {w : World} {A : Around} {E : Value → Shared → Prop} {s : Shared}
theorem sort_small {a : Addr} {vs : List Value} {n : Nat} {Q : Value → Shared → Prop} (ho : s.heap.get? a = some (seqObj "list" vs.toArray n)) (h2 : vs.length < 2) (q : Q .none { s with heap := sortedHeap s.heap a vs vs.toArray }) : wpAny (model prog w) A (call (.builtin "list.sort") [.ref a]) Q E s := by
  refine wpAny_call_entry slot_list_sort ⟨_, ho, rfl⟩ entry_list_sort ?_ (args_list_sort _)
  rw [list_sort_plain]
  have ha : a < s.heap.objs.size := Heap.lt_size ho
  obtain ⟨e1, ho1⟩ : ∃ e1, (s.heap.update a (Obj.mapSeq fun _ => #[])).get? a = some (seqObj "list" #[] e1) := ⟨_, get?_update_seq ho (fun _ => #[])⟩
  have ho6 : (((s.heap.update a (Obj.mapSeq fun _ => #[])).push (seqObj "tuple" vs.toArray 0)).push (seqObj "list" #[] 0)).get? a = some (seqObj "list" #[] e1) := Heap.get?_push_of_some _ (Heap.get?_push_of_some _ ho1)
  have hz : vs.toArray.size < 2 := by simpa using h2
  refine wpAny_bind (listItems_at ho rfl (wpAny_bind (listUpdate_at ho rfl (wpAny_bind (seqEpoch_at ho1 rfl (wpAny_bind (wpAny_newTuple (wpAny_bind (wpAny_newList (wpAny_holding ?_))))))))))
  show wpAny (model prog w) _ _ _ E { s with heap := ((s.heap.update a (Obj.mapSeq fun _ => #[])).push (seqObj "tuple" vs.toArray 0)).push (seqObj "list" #[] 0) }
  dsimp only
  rw [if_pos hz, if_pos hz]
  refine wpAny_bind (wpAny_pure ?_)
  rw [StateT.run_pure]
  refine wpAny_bind (wpAny_pure ?_)
  dsimp only
  have hm : (arrOf (SortSt.mk' general' (vs.toArray.zip vs.toArray) #[] 7 none)).map (·.2) = vs.toArray := by
    show (vs.toArray.zip vs.toArray).map (·.2) = vs.toArray
    apply Array.ext'
    simp [List.map_snd_zip]
  refine wpAny_bind (seqEpoch_at ho6 rfl (wpAny_bind (listUpdate_at ho6 rfl ?_ (hsz2 := by rw [hm, sizeLine_eq]; omega))))
  rw [hm]
  simp only [bne_self_eq_false, Bool.false_eq_true, if_false]
  exact wpAny_pure ⟨_, rfl, q⟩
end
end LwD

namespace LwD
open PySem PySem.Spec PyProof.Rows L2 Lw
noncomputable abbrev ik (ns : List Int) : List Key := ns.map Sum.inl
theorem ik_map (ns : List Int) : (ik ns).map kV = ns.map V.int := by
  unfold ik
  rw [List.map_map]
  rfl
section
variable {X : Cx}
end
end LwD

namespace LwD
open PySem PySem.Spec PyProof.Rows L2 Lw
theorem KTgetI {H : Hp} {kvs : List (List Key × V)} {xs : List (List Key × Addr × Value)} (r : KT H kvs xs) : ∀ {j : Nat} {q : List Key × Addr × Value}, xs[j]? = some q → ∃ v, kvs[j]? = some (q.1, v) ∧ H q.2.1 = some (.tup (q.1.map kV)) := by
  induction r with
  | nil => intro j q e; simp at e
  | @cons p q' ps qs h t ih =>
    intro j q e
    cases j with
    | zero =>
      simp only [List.getElem?_cons_zero, Option.some.injEq] at e
      subst e
      exact ⟨p.2, by rw [← h.1]; rfl, by rw [← h.1]; exact h.2.1⟩
    | succ j =>
      simp only [List.getElem?_cons_succ] at e ⊢
      exact ih e
noncomputable def Keyed (H : Hp) (ys : List V) (zs : List (List Key × V)) : Prop := ys.length = zs.length ∧ ∀ (i : Nat) (y : V) (p : List Key × V), ys[i]? = some y → zs[i]? = some p → ∃ (b : Addr) (ns : List Int), y = .ref b ∧ H b = some (.tup (ns.map V.int)) ∧ p.1 = ik ns
theorem getD_range {α : Type} (l : List α) (d : α) : (List.range l.length).map (fun i => l.getD i d) = l := by
  apply List.ext_getElem
  · simp
  · intro i h1 h2
    simp at h1
    simp [h1]
end LwD

namespace L2
open PySem PySem.Spec PyProof.Rows
section
variable {prog : Program} {w : World} {A : Around} {E : Value → Shared → Prop} {s : Shared}
theorem nextT {it t : Addr} {k : Nat} {its : Array Value} {v : Value} {Q : Value → Shared → Prop} (st : s.heap.IsTupleIter it t k) (tu : s.heap.IsTuple t its) (hv : its[k]? = some v)
    (q : ∀ g, g.IsTupleIter it t (k + 1) → Heap.SameBut it s.heap g → Q v { s with heap := g }) : wpAny (model prog w) A (Builtin.SmallTypes.nextOf (.ref it)) Q E s := by
  obtain ⟨oi, gi, ci, di⟩ := id st; obtain ⟨ot, gt, _, nt, dt⟩ := tu
  unfold Builtin.SmallTypes.nextOf
  refine wpAny_bind (wpAny_callSpecial?_slot (name := Str.ofString "__next__") st.typeIs F.slot_tuple_iterator_next (wpAny_call_entry F.slot_tuple_iterator_next st.typeIs F.entry_tuple_iterator_next ?_ (F.args_tuple_iterator_next_1 _)))
  show wpAny _ _ (field (.ref it) 0 >>= _) _ _ _
  refine wpAny_bind (wpAny_field gi di (x := .ref t) rfl ?_)
  show wpAny _ _ (if (Value.ref t == Value.none) = true then _ else _) _ _ _
  rw [if_neg (show ¬ (Value.ref t == Value.none) = true from Bool.false_ne_true)]
  show wpAny _ _ (field (.ref it) 1 >>= _) _ _ _
  refine wpAny_bind (wpAny_field gi di (x := .int k 0) rfl ?_)
  show wpAny _ _ (seqItems? (.ref t) >>= _) _ _ _
  refine wpAny_bind (wpAny_seqItems gt dt ?_)
  simp only [Int.toNat_natCast, hv]
  refine wpAny_bind (wpAny_setField gi di (by simp) (wpAny_pure ⟨v, rfl, wpAny_pure (q _ ⟨_, Heap.get?_update_self _ gi (Obj.isFreed_of_fields (Obj.data_mapFields di _)), (Obj.cls_mapFields ..).trans ci, by rw [Obj.data_mapFields di]; simp [rawInt]⟩ (Heap.SameBut.update ..))⟩))
theorem nextT_end {it t : Addr} {k : Nat} {its : Array Value} {Q : Value → Shared → Prop} (hh : A.handled = none) (st : s.heap.IsTupleIter it t k) (tu : s.heap.IsTuple t its) (hv : its[k]? = none)
    (q : ∀ g e, Heap.ExtBut it s.heap g → (∃ o, g.get? e = some o ∧ o.cls = .type "StopIteration") → E (.ref e) { s with heap := g }) : wpAny (model prog w) A (Builtin.SmallTypes.nextOf (.ref it)) Q E s := by
  obtain ⟨oi, gi, ci, di⟩ := id st; obtain ⟨ot, gt, _, nt, dt⟩ := tu
  unfold Builtin.SmallTypes.nextOf
  refine wpAny_bind (wpAny_callSpecial?_slot (name := Str.ofString "__next__") st.typeIs F.slot_tuple_iterator_next (wpAny_call_entry F.slot_tuple_iterator_next st.typeIs F.entry_tuple_iterator_next ?_ (F.args_tuple_iterator_next_1 _)))
  show wpAny _ _ (field (.ref it) 0 >>= _) _ _ _
  refine wpAny_bind (wpAny_field gi di (x := .ref t) rfl ?_)
  show wpAny _ _ (if (Value.ref t == Value.none) = true then _ else _) _ _ _
  rw [if_neg (show ¬ (Value.ref t == Value.none) = true from Bool.false_ne_true)]
  show wpAny _ _ (field (.ref it) 1 >>= _) _ _ _
  refine wpAny_bind (wpAny_field gi di (x := .int k 0) rfl ?_)
  show wpAny _ _ (seqItems? (.ref t) >>= _) _ _ _
  refine wpAny_bind (wpAny_seqItems gt dt ?_)
  simp only [Int.toNat_natCast, hv]
  refine wpAny_bind (wpAny_rule (wpAny_bind (wpAny_setField gi di (by simp) ?_)))
  show wpAny _ _ (newExc (.type "StopIteration") [] >>= _) _ _ _
  refine wpAny_bind ?_
  simp only [newExc, newTuple]
  refine wpAny_bind (wpAny_newObj_type ?_ (by size_fits))
  refine wpAny_bind (m := firstArgMember _ _) (wpAny_of_eq (a := Value.none) (by first | rfl | (simp only [firstArgMember]; rfl)) ?_)
  refine wpAny_newObj_type ?_ (by size_fits)
  simp only [raiseNew]
  refine wpAny_bind (wpAny_handled ?_)
  first | rw [show A.in1.handled = none from hh] | rw [hh]
  exact wpAny_bind (wpAny_pure (wpAny_throw (q _ _ (((Heap.SameBut.update ..).extBut.push _).push _) ⟨_, Heap.get?_push_size _ rfl, rfl⟩)))
structure ZT (z TI TO i1 i2 l1 l2 : Addr) (k : Nat) (h : Heap) : Prop where
  zz : IsZip h z TI TO .none
  ti : IsPair h TI (.ref i1) (.ref i2)
  to : ∃ a b, IsPair h TO a b
  one : h.IsTupleIter i1 l1 k
  two : h.IsTupleIter i2 l2 k
theorem IsTupleIter.as {h h' : Heap} {a t : Addr} {k : Nat} (x : h.IsTupleIter a t k) (f : ∀ o, h.get? a = some o → h'.get? a = some o) : h'.IsTupleIter a t k := let ⟨o, ho, r⟩ := x; ⟨o, f o ho, r⟩
variable {z TI TO i1 i2 l1 l2 : Addr} {k : Nat} {xs ys : Array Value}
theorem zipT_item {x y : Value} {Q : Option Value → Shared → Prop} (D : ZipApart z TI TO i1 i2 l1 l2) (Z : ZT z TI TO i1 i2 l1 l2 k s.heap) (t1 : s.heap.IsTuple l1 xs) (t2 : s.heap.IsTuple l2 ys) (hx : xs[k]? = some x) (hy : ys[k]? = some y)
    (q : ∀ g, IsZip g z TI TO (rawInt s.heap.objs.size) → IsPair g TO x y → g.IsTupleIter i1 l1 (k + 1) → g.IsTupleIter i2 l2 (k + 1) → IsPair g s.heap.objs.size x y →
      (∀ c o, c ∉ [z, TO, i1, i2] → s.heap.get? c = some o → g.get? c = some o) → Q (some (.ref s.heap.objs.size)) { s with heap := g }) : wpAny (model prog w) A (pyNext (.ref z)) Q E s := by
  obtain ⟨hz, hti, ⟨a, b, hto⟩, s1, s2⟩ := Z
  have T : s.TypeIs (.ref z) "zip" := ⟨_, hz, rfl⟩
  unfold pyNext
  refine wpAny_bind (wpAny_attempt (wpAny_callSpecial?_slot (name := Str.ofString "__next__") T F.slot_zip_next (wpAny_call_entry F.slot_zip_next T F.entry_zip_next ?_ (F.args_zip_next_1 _))))
  show wpAny _ _ (field (.ref z) 2 >>= _) _ _ _
  refine wpAny_bind (wpAny_field hz rfl (x := .bool false) rfl ?_)
  show wpAny _ _ (field (.ref z) 3 >>= _) _ _ _
  refine wpAny_bind (wpAny_field hz rfl (x := .ref TI) rfl (wpAny_bind (wpAny_seqItems hti rfl ?_)))
  show wpAny _ _ (Builtin.SmallTypes.ownedTupleIsFree (.ref z) >>= _) _ _ _
  refine wpAny_bind ?_
  unfold Builtin.SmallTypes.ownedTupleIsFree
  refine wpAny_bind (wpAny_field hz rfl (x := .none) rfl (wpAny_pure ?_))
  simp only [if_true]
  refine wpAny_bind (wpAny_rule (wpAny_bind (wpAny_field hz rfl (x := .ref TO) rfl (wpAny_bind (wpAny_setField_rec hz (by simp) fun g1 z1 b1 => ?_)))))
  replace z1 : IsZip g1 z TI TO .ellipsis := z1
  refine wpAny_bind ?_
  simp only [List.zipIdx_cons, List.zipIdx_nil, List.forIn_cons, List.forIn_nil]
  refine wpAny_bind (wpAny_bind (wpAny_onRaise ?_))
  show wpAny _ _ (Builtin.SmallTypes.nextOf (.ref i1) >>= _) _ _ _
  refine wpAny_bind (nextT (s1.extBut b1.extBut D.i1z) (t1.extBut b1.extBut D.l1z) hx fun g2 n2 b2 => wpAny_pure ?_)
  have o2 : IsPair g2 TO a b := b2.extBut _ _ D.TOi1 (b1.extBut _ _ D.TOz hto)
  refine wpAny_bind (wpAny_seqItems o2 rfl (wpAny_bind (wpAny_updateSeq_pair o2 fun g3 o3 b3 => ?_)))
  replace o3 : IsPair g3 TO x b := o3
  refine wpAny_bind (wpAny_letGo (wpAny_pure (wpAny_bind (wpAny_bind (wpAny_onRaise ?_)))))
  show wpAny _ _ (Builtin.SmallTypes.nextOf (.ref i2) >>= _) _ _ _
  refine wpAny_bind (nextT (((s2.extBut b1.extBut D.i2z).extBut b2.extBut D.i12.symm).extBut b3.extBut D.TOi2.symm) (((t2.extBut b1.extBut D.l2z).extBut b2.extBut D.l2i1).extBut b3.extBut D.l2TO) hy fun g4 n4 b4 => wpAny_pure ?_)
  have o4 : IsPair g4 TO x b := b4.extBut _ _ D.TOi2 o3
  refine wpAny_bind (wpAny_seqItems o4 rfl (wpAny_bind (wpAny_updateSeq_pair o4 fun g5 o5 b5 => ?_)))
  replace o5 : IsPair g5 TO x y := o5
  refine wpAny_bind (wpAny_letGo (wpAny_pure (wpAny_pure (wpAny_bind (wpAny_seqItems o5 rfl (wpAny_bind (wpAny_newTuple ?_)))))))
  have sz : g5.objs.size = s.heap.objs.size := by rw [b5.1, b4.1, b3.1, b2.1, b1.1]
  have z5 : IsZip g5 z TI TO .ellipsis := b5.extBut _ _ D.TOz.symm (b4.extBut _ _ D.i2z.symm (b3.extBut _ _ D.TOz.symm (b2.extBut _ _ D.i1z.symm z1)))
  have k5 : ∀ c o, c ∉ [z, TO, i1, i2] → s.heap.get? c = some o → g5.get? c = some o := fun c o hc e => by
    simp only [List.mem_cons, not_or] at hc
    exact b5.extBut _ _ hc.2.1 (b4.extBut _ _ hc.2.2.2.1 (b3.extBut _ _ hc.2.1 (b2.extBut _ _ hc.2.2.1 (b1.extBut _ _ hc.1 e))))
  have n5 : g5.IsTupleIter i1 l1 (k + 1) := ((n2.extBut b3.extBut D.TOi1.symm).extBut b4.extBut D.i12).extBut b5.extBut D.TOi1.symm
  have m5 : g5.IsTupleIter i2 l2 (k + 1) := n4.extBut b5.extBut D.TOi2.symm
  have zl : z < g5.objs.size := Heap.lt_size z5
  show wpAny _ _ (Builtin.SmallTypes.ownedTupleHandOut (.ref z) (.ref g5.objs.size) >>= _) _ _ _
  refine wpAny_bind ?_
  unfold Builtin.SmallTypes.ownedTupleHandOut
  have z6 : IsZip (g5.push { cls := .type "tuple", data := .seq #[x, y] }) z TI TO .ellipsis := Heap.get?_push_of_some _ z5
  refine wpAny_bind (wpAny_setField_rec z6 (by simp) fun g7 z7 b7 => ?_)
  replace z7 : IsZip g7 z TI TO (rawInt g5.objs.size) := z7
  refine wpAny_setField_rec z7 (by simp) fun g8 z8 b8 => ?_
  replace z8 : IsZip g8 z TI TO (rawInt g5.objs.size) := z8
  have up : ∀ c o, c ≠ z → g5.get? c = some o → g8.get? c = some o := fun c o cz e => b8.extBut _ _ cz (b7.extBut _ _ cz (Heap.get?_push_of_some _ e))
  have nu : IsPair g8 g5.objs.size x y := b8.extBut _ _ (Nat.ne_of_gt zl) (b7.extBut _ _ (Nat.ne_of_gt zl) (Heap.get?_push_size _ rfl))
  rw [sz] at z8 nu
  refine wpAny_pure ⟨_, rfl, wpAny_pure ?_⟩
  show Q (some (.ref g5.objs.size)) _
  rw [sz]
  exact q g8 z8 (up _ _ D.TOz o5) (IsTupleIter.as n5 fun o e => up _ o D.i1z e) (IsTupleIter.as m5 fun o e => up _ o D.i2z e) nu fun c o hc e => up c o (fun h => hc (by simp [h])) (k5 c o hc e)
theorem zipT_end {Q : Option Value → Shared → Prop} (hh : A.handled = none) (D : ZipApart z TI TO i1 i2 l1 l2) (Z : ZT z TI TO i1 i2 l1 l2 k s.heap) (t1 : s.heap.IsTuple l1 xs) (t2 : s.heap.IsTuple l2 ys) (he : xs[k]? = none ∨ ys[k]? = none)
    (q : ∀ g, (∀ c o, c ∉ [z, TO, i1, i2] → s.heap.get? c = some o → g.get? c = some o) → Q none { s with heap := g }) : wpAny (model prog w) A (pyNext (.ref z)) Q E s := by
  obtain ⟨hz, hti, ⟨a, b, hto⟩, s1, s2⟩ := Z
  have T : s.TypeIs (.ref z) "zip" := ⟨_, hz, rfl⟩
  unfold pyNext
  refine wpAny_bind (wpAny_attempt (wpAny_callSpecial?_slot (name := Str.ofString "__next__") T F.slot_zip_next (wpAny_call_entry F.slot_zip_next T F.entry_zip_next ?_ (F.args_zip_next_1 _))))
  have fin : ∀ g (e : Addr), (∀ c o, c ∉ [z, TO, i1, i2] → s.heap.get? c = some o → g.get? c = some o) → (∃ o, g.get? e = some o ∧ o.cls = .type "StopIteration") →
      wpAny (model prog w) A (do if (← isInstance (.ref e) (.type "StopIteration")) then pure none else throw (.ref e)) Q E { s with heap := g } := fun g e hk ⟨o, ho, hc⟩ =>
    wpAny_bind (wpAny_isInstance (T := "StopIteration") (b := true) ⟨o, ho, hc⟩ isSubtype_stop (wpAny_pure (q _ hk)))
  show wpAny _ _ (field (.ref z) 2 >>= _) _ _ _
  refine wpAny_bind (wpAny_field hz rfl (x := .bool false) rfl ?_)
  show wpAny _ _ (field (.ref z) 3 >>= _) _ _ _
  refine wpAny_bind (wpAny_field hz rfl (x := .ref TI) rfl (wpAny_bind (wpAny_seqItems hti rfl ?_)))
  show wpAny _ _ (Builtin.SmallTypes.ownedTupleIsFree (.ref z) >>= _) _ _ _
  refine wpAny_bind ?_
  unfold Builtin.SmallTypes.ownedTupleIsFree
  refine wpAny_bind (wpAny_field hz rfl (x := .none) rfl (wpAny_pure ?_))
  simp only [if_true]
  refine wpAny_bind (wpAny_rule (wpAny_bind (wpAny_field hz rfl (x := .ref TO) rfl (wpAny_bind (wpAny_setField_rec hz (by simp) fun g1 z1 b1 => ?_)))))
  replace z1 : IsZip g1 z TI TO .ellipsis := z1
  refine wpAny_bind ?_
  simp only [List.zipIdx_cons, List.zipIdx_nil, List.forIn_cons, List.forIn_nil]
  refine wpAny_bind (wpAny_bind (wpAny_onRaise ?_))
  show wpAny _ _ (Builtin.SmallTypes.nextOf (.ref i1) >>= _) _ _ _
  cases hx : xs[k]? with
  | none =>
    refine wpAny_bind (nextT_end hh (s1.extBut b1.extBut D.i1z) (t1.extBut b1.extBut D.l1z) hx fun g2 e b2 ⟨oe, he, ce⟩ => ?_)
    have z2 : IsZip g2 z TI TO .ellipsis := b2 _ _ D.i1z.symm z1
    have ez : e ≠ z := fun h => by subst h; rw [z2] at he; cases he; simp at ce
    refine wpAny_setField_rec z2 (by simp) fun g3 _ b3 => fin g3 e (fun c o hc h => ?_) ⟨oe, b3.extBut _ _ ez he, ce⟩
    simp only [List.mem_cons, not_or] at hc
    exact b3.extBut _ _ hc.1 (b2 _ _ hc.2.2.1 (b1.extBut _ _ hc.1 h))
  | some x =>
    have hy : ys[k]? = none := he.resolve_left (by rw [hx]; simp)
    refine wpAny_bind (nextT (s1.extBut b1.extBut D.i1z) (t1.extBut b1.extBut D.l1z) hx fun g2 n2 b2 => wpAny_pure ?_)
    have o2 : IsPair g2 TO a b := b2.extBut _ _ D.TOi1 (b1.extBut _ _ D.TOz hto)
    refine wpAny_bind (wpAny_seqItems o2 rfl (wpAny_bind (wpAny_updateSeq_pair o2 fun g3 o3 b3 => ?_)))
    refine wpAny_bind (wpAny_letGo (wpAny_pure (wpAny_bind (wpAny_bind (wpAny_onRaise ?_)))))
    show wpAny _ _ (Builtin.SmallTypes.nextOf (.ref i2) >>= _) _ _ _
    refine wpAny_bind (nextT_end hh (((s2.extBut b1.extBut D.i2z).extBut b2.extBut D.i12.symm).extBut b3.extBut D.TOi2.symm) (((t2.extBut b1.extBut D.l2z).extBut b2.extBut D.l2i1).extBut b3.extBut D.l2TO) hy fun g4 e b4 ⟨oe, he, ce⟩ => ?_)
    have z4 : IsZip g4 z TI TO .ellipsis := b4 _ _ D.i2z.symm (b3.extBut _ _ D.TOz.symm (b2.extBut _ _ D.i1z.symm z1))
    have ez : e ≠ z := fun h => by subst h; rw [z4] at he; cases he; simp at ce
    refine wpAny_setField_rec z4 (by simp) fun g5 _ b5 => fin g5 e (fun c o hc h => ?_) ⟨oe, b5.extBut _ _ ez he, ce⟩
    simp only [List.mem_cons, not_or] at hc
    exact b5.extBut _ _ hc.1 (b4 _ _ hc.2.2.2.1 (b3.extBut _ _ hc.2.1 (b2.extBut _ _ hc.2.2.1 (b1.extBut _ _ hc.1 h))))
theorem meets_zipT (a b : Addr) (xs ys : Array Value) :
    Meets (Builtin.«zip.__new__» ⟨[.type "zip", .ref a, .ref b], []⟩) (fun _ R s => s.heap.IsTuple a xs ∧ s.heap.IsTuple b ys ∧
      ∀ g, (∀ c o, s.heap.get? c = some o → g.get? c = some o) → ZT (s.heap.objs.size + 4) (s.heap.objs.size + 2) (s.heap.objs.size + 3) s.heap.objs.size (s.heap.objs.size + 1) a b 0 g → R (.ok (.ret (.ref (s.heap.objs.size + 4)))) { s with heap := g }) :=
  .of_wp fun prog w A R s h => by
    obtain ⟨hp, gs, d, tk, os⟩ := s; obtain ⟨t1, t2, h⟩ := h
    have hsub := sub_zip
    have T1 : Heap.IsTuple (Shared.heap ⟨hp, gs, d, tk, os⟩) a xs := t1
    have T2 : Heap.IsTuple (Shared.heap ⟨hp.push { cls := .type "tuple_iterator", data := .fields #[.ref a, .int 0 0] }, gs, d, tk, os⟩) b ys := Heap.IsTuple.push t2 _
    wp_walk using wpAny_pyIter_tuple T1, wpAny_pyIter_tuple T2
    have e1 := fun o => Heap.size_push hp (o := o)
    refine ⟨_, rfl, ?_⟩
    simp only [Heap.size_push] at h ⊢
    refine h _ (fun c o e => Heap.get?_push_of_some _ (Heap.get?_push_of_some _ (Heap.get?_push_of_some _ (Heap.get?_push_of_some _ (Heap.get?_push_of_some _ e))))) ⟨?_, ?_, ?_, ?_, ?_⟩
    · have e := Heap.get?_push_size (((((hp.push { cls := .type "tuple_iterator", data := .fields #[.ref a, .int 0 0] }).push { cls := .type "tuple_iterator", data := .fields #[.ref b, .int 0 0] }).push { cls := .type "tuple", data := .seq #[.ref hp.objs.size, .ref (hp.objs.size + 1)] })).push { cls := .type "tuple", data := .seq #[.none, .none] }) (o := { cls := .type "zip", data := .fields #[.none, .bool false, .bool false, .ref (hp.objs.size + 2), .ref (hp.objs.size + 3)] }) rfl
      simp only [Heap.size_push] at e
      exact e
    · have e := Heap.get?_push_size ((hp.push { cls := .type "tuple_iterator", data := .fields #[.ref a, .int 0 0] }).push { cls := .type "tuple_iterator", data := .fields #[.ref b, .int 0 0] }) (o := { cls := .type "tuple", data := .seq #[.ref hp.objs.size, .ref (hp.objs.size + 1)] }) rfl
      simp only [Heap.size_push] at e
      exact Heap.get?_push_of_some _ (Heap.get?_push_of_some _ e)
    · have e := Heap.get?_push_size ((((hp.push { cls := .type "tuple_iterator", data := .fields #[.ref a, .int 0 0] }).push { cls := .type "tuple_iterator", data := .fields #[.ref b, .int 0 0] }).push { cls := .type "tuple", data := .seq #[.ref hp.objs.size, .ref (hp.objs.size + 1)] })) (o := { cls := .type "tuple", data := .seq #[.none, .none] }) rfl
      simp only [Heap.size_push] at e
      exact ⟨_, _, Heap.get?_push_of_some _ e⟩
    · have e := Heap.get?_push_size hp (o := { cls := .type "tuple_iterator", data := .fields #[.ref a, .int 0 0] }) rfl
      exact ⟨_, Heap.get?_push_of_some _ (Heap.get?_push_of_some _ (Heap.get?_push_of_some _ (Heap.get?_push_of_some _ e))), rfl, rfl⟩
    · have e := Heap.get?_push_size (hp.push { cls := .type "tuple_iterator", data := .fields #[.ref a, .int 0 0] }) (o := { cls := .type "tuple_iterator", data := .fields #[.ref b, .int 0 0] }) rfl
      simp only [Heap.size_push] at e
      exact ⟨_, Heap.get?_push_of_some _ (Heap.get?_push_of_some _ (Heap.get?_push_of_some _ e)), rfl, rfl⟩
theorem call_zipT {a b : Addr} {xs ys : Array Value} {Q : Value → Shared → Prop} (t1 : s.heap.IsTuple a xs) (t2 : s.heap.IsTuple b ys)
    (q : ∀ g, (∀ c o, s.heap.get? c = some o → g.get? c = some o) → ZT (s.heap.objs.size + 4) (s.heap.objs.size + 2) (s.heap.objs.size + 3) s.heap.objs.size (s.heap.objs.size + 1) a b 0 g → Q (.ref (s.heap.objs.size + 4)) { s with heap := g }) :
    wpAny (model prog w) A (call (.type "zip") [.ref a, .ref b]) Q E s :=
  callType_new F.called_zip (by decide) (F.typeCall_zip_2 _ _) (F.newCall_zip_2 _ _) (fun obj => F.args_object_init_3 obj _ _) F.entry_zip_new (meets_zipT a b xs ys) ⟨t1, t2, fun g k Z => ⟨⟨_, Z.zz, rfl⟩, q g k Z⟩⟩
end
section
variable {X : Cx} {pins : List (Addr × Obj)} {σ : St} {H : Hp} {s : Shared} {h' : Heap}
theorem Inv.turnedL {t' : Nat} {fp : List Addr} (I : Inv X pins σ H s) (hf : ∀ b ∈ fp, FpOk X pins H b) (k : ∀ b o, b ∉ fp → s.heap.get? b = some o → h'.get? b = some o) : Inv X pins σ H { s with heap := h', toks := t' } := by
  have nit : ∀ b u, H b = some u → b ∉ fp := fun b u e z => by rw [(hf b z).1] at e; cases e
  refine I.step (g' := s.gens) (d' := s.drawn) (ch := fp) (fun b hb => ⟨(hf b hb).2.2.2.1, (hf b hb).2.1, (hf b hb).2.2.2.2.1, (hf b hb).2.2.2.2.2⟩) (fun b o _ _ hc e _ => k b o hc e) (fun b o _ _ hc e _ => ⟨o.slots, k b o hc e⟩) (fun _ _ _ _ n => n)
    (fun b o hc e => ⟨o, k b o hc e⟩) (fun _ _ e => e) (fun _ _ _ e => e) (fun b ps e => ⟨#[], by rw [e]; simp⟩) (fun m ⟨o, es, ep, ho, r⟩ => ⟨o, es, ep, k _ o (fun z => (hf _ z).2.1 rfl) ho, r⟩) (fun b u e => ?_) I.bare
  refine (I.hok b u e).stay (fun c v hc q => k c v ?_ q) (fun _ q => q) fun _ _ q => q
  rcases hc with z | z
  · rw [z]; exact nit b u e
  · exact nit c _ z
theorem FpOk.apart {a b : Addr} {xs : List V} (I : Inv X pins σ H s) (f : FpOk X pins H b) (h : SqT X.K H a xs) : a ≠ b := by
  rintro rfl
  rcases h with (h | ⟨o, h⟩) | ⟨o, its, n, hk, hc, hs, hz, r⟩
  · rw [f.1] at h; cases h
  · rw [f.1] at h; cases h
  · have hb : X.base.get? a = some o := I.ok.mod.kin a o hk
    rcases f.2.2.2.1 with z | z
    · exact I.ok.noex a o hb z
    · exact absurd (Nat.lt_of_lt_of_le (Heap.lt_size hb) (Nat.le_trans I.ok.bsz z)) (Nat.lt_irrefl _)
end
noncomputable def Itz (K : PySem.W.Frag) (a b : Addr) : It :=
  ⟨fun i H => ∃ xs ys x y, SqT K H a xs ∧ SqT K H b ys ∧ xs[i]? = some x ∧ ys[i]? = some y,
   fun i H v H' => ∃ p x y, H p = none ∧ v = .ref p ∧ H' = upd H p (.tup [x, y]) ∧ (∀ xs, SqT K H a xs → xs[i]? = some x) ∧ (∀ ys, SqT K H b ys → ys[i]? = some y),
   fun i H => ∃ xs ys, SqT K H a xs ∧ SqT K H b ys ∧ (xs.length ≤ i ∨ ys.length ≤ i)⟩
structure Five (z TI TO i1 i2 : Addr) : Prop where
  nd : [z, TI, TO, i1, i2].Nodup
theorem Five.of {z TI TO i1 i2 l1 l2 : Addr} (F : Five z TI TO i1 i2) (h1 : ∀ b ∈ [z, TI, TO, i1, i2], l1 ≠ b) (h2 : ∀ b ∈ [z, TI, TO, i1, i2], l2 ≠ b) : ZipApart z TI TO i1 i2 l1 l2 := by
  have nd := F.nd
  simp only [List.nodup_cons, List.mem_cons, not_or, List.not_mem_nil] at nd
  obtain ⟨⟨a1, a2, a3, a4, _⟩, ⟨b1, b2, b3, _⟩, ⟨c1, c2, _⟩, ⟨d1, _⟩, _⟩ := nd
  exact ⟨Ne.symm a1, Ne.symm a2, Ne.symm a3, Ne.symm a4, b1, b2, b3, c1, c2, d1, h1 _ (by simp), h1 _ (by simp), h1 _ (by simp), h1 _ (by simp), h2 _ (by simp), h2 _ (by simp), h2 _ (by simp), h2 _ (by simp)⟩
theorem turn_zipT {P : Program} {w : World} {K : PySem.W.Frag} {es : List Expr} {x1} {pos : Pos} (l1 l2 : Addr) {z TI TO i1 i2 : Addr} (F : Five z TI TO i1 i2) : Turn P w K (.Tuple es x1 pos) (Itz K l1 l2) [z, TI, TO, i1, i2] z (fun i h => ZT z TI TO i1 i2 l1 l2 i h) where
  mem := by simp
  obj := fun i h Z b hb => by
    simp only [List.mem_cons, List.not_mem_nil, or_false] at hb
    obtain ⟨hz, hti, ⟨a, c, hto⟩, ⟨o1, g1, c1, d1⟩, ⟨o2, g2, c2, d2⟩⟩ := Z
    rcases hb with rfl | rfl | rfl | rfl | rfl
    · exact ⟨_, hz, fun v q => by cases (show Data.fields _ = Data.cell v from q)⟩
    · exact ⟨_, hti, fun v q => by cases (show Data.seq _ _ = Data.cell v from q)⟩
    · exact ⟨_, hto, fun v q => by cases (show Data.seq _ _ = Data.cell v from q)⟩
    · exact ⟨_, g1, fun v q => by rw [d1] at q; cases q⟩
    · exact ⟨_, g2, fun v q => by rw [d2] at q; cases q⟩
  keep := fun i h h' Z k => by
    obtain ⟨hz, hti, ⟨a, c, hto⟩, s1, s2⟩ := Z
    exact ⟨k z (by simp) _ hz, k TI (by simp) _ hti, ⟨a, c, k TO (by simp) _ hto⟩, IsTupleIter.as s1 fun o e => k i1 (by simp) o e, IsTupleIter.as s2 fun o e => k i2 (by simp) o e⟩
  item := by
    intro X hP hw hK hc i pins s σ H E I hf Z hg
    subst hP hw hK
    obtain ⟨xs, ys, x, y, q1, q2, hx, hy⟩ := hg
    obtain ⟨its1, r1, p1, _⟩ := I.tuple q1
    obtain ⟨its2, r2, p2, _⟩ := I.tuple q2
    obtain ⟨u1, hu1, ru1⟩ := r1.get hx
    obtain ⟨u2, hu2, ru2⟩ := r2.get hy
    have D := F.of (fun b hb => FpOk.apart I (hf b hb) q1) (fun b hb => FpOk.apart I (hf b hb) q2)
    refine zipT_item D Z (show s.heap.IsTuple l1 its1.toArray from p1) (show s.heap.IsTuple l2 its2.toArray from p2) (x := u1) (y := u2) (by simpa using hu1) (by simpa using hu2) fun g z1 to1 n1 n2 nu kk => ⟨_, rfl, ?_⟩
    refine wpAny_letOwnedTupleGo_zip z1 fun g2 z2 sb => ?_
    have fr : H s.heap.objs.size = none := I.hok.fresh (Nat.le_refl _)
    have fp : ∀ b ∈ [z, TI, TO, i1, i2], FpOk X pins (upd H s.heap.objs.size (.tup [x, y])) b := fun b hb => by
      have lt : b ≠ s.heap.objs.size := by
        simp only [List.mem_cons, List.not_mem_nil, or_false] at hb
        obtain ⟨hz, hti, ⟨a, c, hto⟩, ⟨o1, g1, _⟩, ⟨o2, g2, _⟩⟩ := Z
        rcases hb with rfl | rfl | rfl | rfl | rfl
        · exact Nat.ne_of_lt (Heap.lt_size hz)
        · exact Nat.ne_of_lt (Heap.lt_size hti)
        · exact Nat.ne_of_lt (Heap.lt_size hto)
        · exact Nat.ne_of_lt (Heap.lt_size g1)
        · exact Nat.ne_of_lt (Heap.lt_size g2)
      exact ⟨by rw [upd_ne lt]; exact (hf b hb).1, (hf b hb).2⟩
    have I1 : Inv X pins σ (upd H s.heap.objs.size (.tup [x, y])) { s with heap := s.heap.push { cls := .type "tuple", data := .seq #[u1, u2] } } := I.laid (t' := s.toks) (fun b u e => Heap.get?_push_of_some _ e) (Nat.le_refl _) ⟨by simp [sizeLine], [u1, u2], .cons ru1 (.cons ru2 .nil), ⟨_, Heap.get?_push_size _ rfl, rfl, _, rfl⟩⟩
    have up : ∀ c o, c ≠ z → g.get? c = some o → g2.get? c = some o := fun c o cz e => sb.extBut _ _ cz e
    have zs : z ≠ s.heap.objs.size := Nat.ne_of_lt (Heap.lt_size Z.zz)
    have I2 : Inv X pins σ (upd H s.heap.objs.size (.tup [x, y])) { s with heap := g2 } := by
      refine Inv.turnedL (s := { s with heap := s.heap.push { cls := .type "tuple", data := .seq #[u1, u2] } }) (h' := g2) (t' := s.toks) I1 fp fun b o hb e => ?_
      have bz : b ≠ z := fun h => hb (by simp [h])
      rcases Heap.get?_push_cases e with ⟨e1, e2⟩ | e1
      · rw [e1, e2]
        exact up _ _ (Ne.symm zs) nu
      · exact up _ _ bz (kk b o (fun h => hb (by simp only [List.mem_cons, List.not_mem_nil, or_false] at h ⊢; rcases h with h | h | h | h <;> simp [h])) e1)
    exact ⟨.ref s.heap.objs.size, _, I2, rfl, ⟨_, x, y, fr, rfl, rfl, fun xs' h => by rw [I.tuple_inj h q1]; exact hx, fun ys' h => by rw [I.tuple_inj h q2]; exact hy⟩, ⟨z2, up _ _ D.TIz (kk _ _ (by simp [D.TIz, D.TITO, D.TIi1, D.TIi2]) Z.ti), ⟨_, _, up _ _ D.TOz to1⟩, IsTupleIter.as n1 fun o e => up _ o D.i1z e, IsTupleIter.as n2 fun o e => up _ o D.i2z e⟩, fun b hb => (fp b hb).1⟩
  done := by
    intro X hP hw hK hc i pins s σ H E I hf Z hg
    subst hP hw hK
    obtain ⟨xs, ys, q1, q2, he⟩ := hg
    obtain ⟨its1, r1, p1, _⟩ := I.tuple q1
    obtain ⟨its2, r2, p2, _⟩ := I.tuple q2
    have D := F.of (fun b hb => FpOk.apart I (hf b hb) q1) (fun b hb => FpOk.apart I (hf b hb) q2)
    have e1 := r1.length; have e2 := r2.length
    refine zipT_end (I.ok.hd hc) D Z (show s.heap.IsTuple l1 its1.toArray from p1) (show s.heap.IsTuple l2 its2.toArray from p2) ?_ fun g kk => ⟨rfl, Inv.turnedL (t' := s.toks) I hf fun b o hb e => kk b o (fun h => hb (by simp only [List.mem_cons, List.not_mem_nil, or_false] at h ⊢; rcases h with h | h | h | h <;> simp [h])) e⟩
    rcases he with h | h
    · exact .inl (by simp; omega)
    · exact .inr (by simp; omega)
  self := fun _ _ _ _ _ Z h => wpAny_pyIter_zip Z.zz h
section
variable {X : Cx}
noncomputable def iZipT (K : PySem.W.Frag) (ta : TA) : TI := fun σ H R => ta σ H fun vs H1 => ∃ a b, vs = [.ref a, .ref b] ∧ (∃ xs, SqT K H1 a xs) ∧ (∃ ys, SqT K H1 b ys) ∧ R (Itz K a b) H1
theorem pi_zipT {es : List Expr} {x1} {tp : Pos} {a b : Expr} {ta : TA} {p pos : Pos} (hg : Gl X "zip") (hm : X.mg "zip" = none) (ha : PA X [a, b] ta) (hs : starEach [a, b] X.env = [(false, eval a X.env), (false, eval b X.env)] := by rfl) (hs2 : starEach [b] X.env = [(false, eval b X.env)] := by rfl) :
    PI X (.Tuple es x1 tp) (.Call (.Name "zip" p) [a, b] [] pos) (iZipT X.K ta) := by
  intro pins s σ H R I h
  refine Call_ (ld_blt I hg hm boot_zip (PyProof.Rows.callWith_type1 (thn (ha pos pins s σ H _ I h) fun us s1 ⟨vs, H1, I1, r1, q1⟩ => ?_) (by rw [hs, hs2]) (by rw [hs2]; rfl)))
  obtain ⟨l1, l2, e, ⟨xs, q1⟩, ⟨ys, q2⟩, q⟩ := q1
  subst e
  cases r1 with
  | cons r rr =>
    cases rr with
    | cons r' rr =>
      cases rr
      cases r
      cases r'
      obtain ⟨its1, _, p1, _⟩ := I1.tuple q1
      obtain ⟨its2, _, p2, _⟩ := I1.tuple q2
      refine call_zipT (show s1.heap.IsTuple l1 its1.toArray from p1) (show s1.heap.IsTuple l2 its2.toArray from p2) fun g k Z => wpAny_pyIter_zip Z.zz ?_
      refine ⟨_, _, _, _, H1, rfl, I1.kept (t' := s1.toks) k, turn_zipT l1 l2 ⟨by simp⟩, Z, fun b hb => ?_, q⟩
      have hb' : s1.heap.objs.size ≤ b := by
        simp only [List.mem_cons, List.not_mem_nil, or_false] at hb
        rcases hb with rfl | rfl | rfl | rfl | rfl <;> first | exact Nat.le_add_right _ _ | exact Nat.le_refl _
      exact I1.fpOk hb' (I1.hok.fresh hb')
end
end L2

namespace HT
open PySem PySem.Spec PyProof.Rows
section
variable {prog : Program} {w : World} {A : Around} {E : Value → Shared → Prop} {s : Shared}

end
end HT
namespace L2
open PySem PySem.Spec PyProof.Rows
section
variable {X : Cx}
end
end L2

namespace LwMx
open PySem PySem.Spec PyProof.Rows L2 Lw
section
variable {prog : Program} {w : World} {A : Around} {R : Result → Shared → Prop} {J : Addr} {fp wr : List Addr} {n : Nat} {Pv : Nat → Value → Prop} {St : Nat → Heap → Prop}
end
section
variable {prog : Program} {w : World} {A : Around} {E : Value → Shared → Prop} {s : Shared}
end
section
variable {X : Cx}
variable {p pos kpos : Pos} {e e2 : Expr} {es : List Expr} {t tk : TA}
end
end LwMx

namespace L2
open PySem PySem.Spec PyProof.Rows
section
variable {prog : Program} {w : World} {A : Around} {E : Value → Shared → Prop} {s : Shared}
structure ZU (z TI TO i1 i2 l1 l2 : Addr) (k : Nat) (h : Heap) : Prop where
  zz : IsZip h z TI TO .none
  ti : IsPair h TI (.ref i1) (.ref i2)
  to : ∃ a b, IsPair h TO a b
  one : h.IsTupleIter i1 l1 k
  two : h.IsListIter i2 l2 k
variable {z TI TO i1 i2 l1 l2 : Addr} {k : Nat} {xs ys : Array Value}
end
section
variable {X : Cx} {pins : List (Addr × Obj)} {σ : St} {H : Hp} {s : Shared} {h' : Heap}
theorem FpOk.apartL {a b : Addr} {xs : List V} (I : Inv X pins σ H s) (f : FpOk X pins H b) (h : SqL X.K H a xs) : a ≠ b := by
  rintro rfl
  rcases h with (h | ⟨o, h⟩) | ⟨o, its, n, hk, hc, hs, hz, r⟩
  · rw [f.1] at h; cases h
  · rw [f.1] at h; cases h
  · have hb : X.base.get? a = some o := I.ok.mod.kin a o hk
    rcases f.2.2.2.1 with z | z
    · exact I.ok.noex a o hb z
    · exact absurd (Nat.lt_of_lt_of_le (Heap.lt_size hb) (Nat.le_trans I.ok.bsz z)) (Nat.lt_irrefl _)
end
section
variable {X : Cx}
end
end L2

namespace L2
open PySem PySem.Spec PyProof.Rows
section
open AutoSeq1 (wpAny_loadPart')
end
section
variable {prog : Program} {w : World} {A : Around} {E : Value → Shared → Prop} {s : Shared}
end
section
variable {X : Cx}
end
end L2

namespace LwD
open PySem PySem.Spec PyProof.Rows L2 Lw
section
variable {X : Cx}
end
end LwD

namespace LwD
open PySem PySem.Spec PyProof.Rows L2 Lw
section
variable {X : Cx} {pins : List (Addr × Obj)} {σ : L2.St} {H : Hp} {s : Shared}
theorem Inv.freeze {d : Addr} {kvs : List (List Key × V)} (I : Inv X pins σ H s) (e : H d = some (.dT kvs)) : ∃ o, Inv X pins σ (upd H d (.frz o (.dT kvs))) s := by
  have ob : ObjOk X.prog X.w H s.heap d (.dT kvs) := I.hok d _ e
  obtain ⟨z, lo, xs, rel, o, es, ep, ho, r⟩ := id ob
  refine ⟨o, ?_⟩
  have ne : ∀ {b : Addr} {u : HO}, H b = some u → (∀ k, u ≠ .dT k) → upd H d (.frz o (.dT kvs)) b = some u := fun {b u} q n => by
    rw [upd_ne (fun y => by rw [y, e] at q; cases q; exact n _ rfl)]
    exact q
  refine I.step (h' := s.heap) (g' := s.gens) (t' := s.toks) (d' := s.drawn) (ch := []) (fun _ y => nomatch y) (fun b u _ _ _ q _ => q) (fun b u _ _ _ q _ => ⟨u.slots, q⟩) (fun b u _ _ q => ?_) (fun b u _ q => ⟨u, q⟩) (fun b xs q => ne q fun _ y => by cases y) (fun b u v q => ne q fun _ y => by cases y)
    (fun b ps q => ⟨#[], by rw [ne q fun _ y => by cases y]; simp⟩) (fun m hm => hm) ?_ I.bare
  · rw [upd_ne (fun y => by rw [y, e] at q; cases q)]
    exact q
  · intro b u q
    by_cases hb : b = d
    · subst hb
      rw [upd_same] at q
      cases q
      exact ⟨ho, ob.stay (fun c v _ q => q) (fun c q => ne q fun _ y => by cases y) fun c xs q => ne q fun _ y => by cases y⟩
    · rw [upd_ne hb] at q
      exact (I.hok b u q).stay (fun c v _ q => q) (fun c q => ne q fun _ y => by cases y) fun c xs q => ne q fun _ y => by cases y
end
section
variable {X : Cx}
noncomputable def tFrz (te : TE) : TE := fun σ H Q => te σ H fun v H1 => ∃ d kvs, v = .ref d ∧ H1 d = some (.dT kvs) ∧ ∀ o, Q v (upd H1 d (.frz o (.dT kvs)))
theorem pe_frz {e : Expr} {te : TE} (h : PE X e te) : PE X e (tFrz te) := by
  intro pins s σ H Q I hq
  refine thn (h pins s σ H _ I hq) fun u s1 ⟨x, H1, I1, r1, q1⟩ => ?_
  obtain ⟨d, kvs, rfl, hd, k⟩ := q1
  obtain ⟨o, I2⟩ := Inv.freeze I1 hd
  exact ⟨.ref d, _, I2, r1, k o⟩
end
noncomputable def Itk (d : Addr) (o : Obj) (kvs : List (List Key × V)) (ys : List V) : It :=
  ⟨fun i H => H d = some (.frz o (.dT kvs)) ∧ i < ys.length, fun i H x H' => H' = H ∧ ys[i]? = some x, fun i H => H d = some (.frz o (.dT kvs)) ∧ i = ys.length⟩
theorem turn_keys {P : Program} {w : World} {K : PySem.W.Frag} {tg : Expr} (d it : Addr) {o : Obj} {es : Array DictEntry} {ep : Nat} {kvs : List (List Key × V)} {ys : List V} (xo : o.ExactDict) (ho : o.data = .dict es ep)
    (hy : ∀ (i : Nat) (h : i < es.size), ∃ b, es[i].key = .ref b ∧ ys[i]? = some (.ref b)) (hl : ys.length = es.size) : Turn P w K tg (Itk d o kvs ys) [it] it (fun i h => h.IsKeyIter it d i es.size ep) where
  mem := by simp
  obj := fun i h st b hb => by
    have e : b = it := by simpa using hb
    subst e
    obtain ⟨o, e, c, d⟩ := st
    exact ⟨o, e, fun v z => by rw [d] at z; cases z⟩
  keep := fun i h h' st k => st.at fun o e => k it (by simp) o e
  item := by
    intro X hP hw hK hc i pins s σ H E I hf st hg
    subst hP hw hK
    obtain ⟨hd, hi⟩ := hg
    have raw : Raw s.heap d es ep := ⟨o, (I.hok d _ hd).1, xo, ho⟩
    obtain ⟨b, eb, yb⟩ := hy i (by omega)
    obtain ⟨f0, f1, f2, f3, f4, f5⟩ := hf it (by simp)
    refine raw_next st raw (by omega) fun h' st' sb => ?_
    have I1 : Inv X pins σ H { s with heap := h' } := I.turned (t' := s.toks) (fun b o hb e => (sb.2 b hb).trans e) f0 f1 f3 f4 f5
    obtain ⟨oi, e, c, dd⟩ := id st'
    exact ⟨_, rfl, go_of (s := { s with heap := h' }) e c dd (by decide) ⟨.ref b, H, I1, by rw [eb]; rfl, ⟨rfl, yb⟩, st', fun b hb => (hf b hb).1⟩⟩
  done := by
    intro X hP hw hK hc i pins s σ H E I hf st hg
    subst hP hw hK
    obtain ⟨hd, hi⟩ := hg
    have raw : Raw s.heap d es ep := ⟨o, (I.hok d _ hd).1, xo, ho⟩
    obtain ⟨f0, f1, f2, f3, f4, f5⟩ := hf it (by simp)
    rw [hi, hl] at st
    exact raw_end (I.ok.hd hc) st raw fun h' eb => ⟨rfl, I.turned (t' := s.toks) (fun b o hb e => eb b o hb e) f0 f1 f3 f4 f5⟩
  self := fun _ _ _ _ _ st h => wpAny_pyIter_keyiter st h
section
variable {X : Cx}
noncomputable def iKeys (te : TE) : TI := fun σ H R => te σ H fun v H1 => ∃ d o kvs, v = .ref d ∧ H1 d = some (.frz o (.dT kvs)) ∧ (∀ p ∈ kvs, ∃ ns : List Int, p.1 = ik ns) ∧ ∀ ys, Keyed H1 ys kvs → R (Itk d o kvs ys) H1
theorem pi_keys {tg l : Expr} {tl : TE} (hl : PE X l tl) : PI X tg l (iKeys tl) := by
  intro pins s σ H R I h
  refine thn (hl pins s σ H _ I h) fun v s1 ⟨x, H1, I1, r1, q1⟩ => ?_
  obtain ⟨d, o, kvs, rfl, hd, hk, q⟩ := q1
  cases r1
  obtain ⟨go, ob⟩ := I1.hok d _ hd
  obtain ⟨z, lo, ks, rel, o', es, ep, ho, xo, hdat, he, hn⟩ := (show ObjOk X.prog X.w H1 s1.heap d (.dT kvs) from ob)
  rw [go] at ho
  cases ho
  have esz : es.size = kvs.length := by rw [size_of_entries he, ← Paired.length rel]
  have itup : ∀ (j : Nat) (h : j < es.size), ∃ (b : Addr) (ns : List Int) (v : V), es[j].key = .ref b ∧ H1 b = some (.tup (ns.map V.int)) ∧ kvs[j]? = some (ik ns, v) := fun j hj => by
    have e1 := entry_at he j
    rw [Array.getElem?_eq_getElem hj] at e1
    cases e2 : ks[j]? with
    | none => rw [e2] at e1; cases e1
    | some x =>
      rw [e2] at e1
      have e3 : es[j] = entryOfKey _ x := Option.some.inj e1
      obtain ⟨v, m1, m2⟩ := KTgetI rel e2
      obtain ⟨ns, n1⟩ := hk _ (List.mem_of_getElem? m1)
      dsimp only at n1
      rw [n1] at m1 m2
      rw [ik_map] at m2
      exact ⟨x.2.1, ns, v, by rw [e3]; rfl, m2, m1⟩
  have kref : ∀ (j : Nat) (h : j < es.size), ∃ b : Addr, es[j].key = .ref b := fun j hj => let ⟨b, _, _, e, _⟩ := itup j hj; ⟨b, e⟩
  refine raw_iter lo ⟨o, go, xo, hdat⟩ ?_
  refine ⟨s1.heap.objs.size, [s1.heap.objs.size], _, _, H1, rfl, I1.kept (t' := s1.toks) fun b o e => Heap.get?_push_of_some _ e, turn_keys (kvs := kvs) d _ xo hdat (ys := es.toList.map fun e => match e.key with | .ref b => V.ref b | _ => V.non) ?_ (by simp), ⟨_, Heap.get?_push_size _ rfl, rfl, rfl⟩, fun b hb => ?_, q _ ⟨by simp [esz], fun i y p ey ep => ?_⟩⟩
  · intro i hi
    obtain ⟨b, e⟩ := kref i hi
    refine ⟨b, e, ?_⟩
    simp only [List.getElem?_map, Array.getElem?_toList, Array.getElem?_eq_getElem hi, Option.map_some, e]
  · have e : b = s1.heap.objs.size := by simpa using hb
    rw [e]
    exact I1.fpOk (Nat.le_refl _) (I1.hok.fresh (Nat.le_refl _))
  · have hi : i < es.size := by
      have := (List.getElem?_eq_some_iff.mp ey).1
      simpa using this
    obtain ⟨b, ns, v, e1, e2, e3⟩ := itup i hi
    simp only [List.getElem?_map, Array.getElem?_toList, Array.getElem?_eq_getElem hi, Option.map_some, e1, Option.some.injEq] at ey
    rw [e3] at ep
    cases ep
    exact ⟨b, ns, ey.symm, e2, rfl⟩
end
theorem for_keys {d : Addr} {o : Obj} {kvs : List (List Key × V)} {xs : List V} {g : TG} {tb : TS} {D : Ends} {σ : L2.St} {H : Hp} (Pv : Nat → L2.St → Hp → Prop) (h0 : Pv 0 σ H) (hl : ∀ i σ H, Pv i σ H → H d = some (.frz o (.dT kvs)))
    (hs : ∀ i x σ H, xs[i]? = some x → Pv i σ H → g x σ H fun σ2 H2 => tb { D with nx := Pv (i + 1), ct := Pv (i + 1), bk := D.nx } σ2 H2) (hd : ∀ σ H, Pv xs.length σ H → D.nx σ H) :
    ∃ W : Nat → Nat → L2.St → Hp → Prop, (∃ m, W 0 m σ H) ∧ ∀ i m σ H, W i m σ H →
      ((Itk d o kvs xs).stop i H ∧ D.nx σ H) ∨ ((Itk d o kvs xs).go i H ∧ ∃ N : L2.St → Hp → Prop, (∀ σ' H', N σ' H' → ∃ m', m' < m ∧ W (i + 1) m' σ' H') ∧ ∀ x H', (Itk d o kvs xs).yld i H x H' → g x σ H' fun σ2 H2 => tb { D with nx := N, ct := N, bk := D.nx } σ2 H2) := by
  refine ⟨fun i m σ H => m = xs.length - i ∧ i ≤ xs.length ∧ Pv i σ H, ⟨xs.length, by simp, Nat.zero_le _, h0⟩, ?_⟩
  rintro i m σ H ⟨rfl, hi, p⟩
  have q := hl i σ H p
  by_cases hlt : i < xs.length
  · refine .inr ⟨⟨q, hlt⟩, Pv (i + 1), fun σ' H' p' => ⟨xs.length - (i + 1), by omega, rfl, hlt, p'⟩, fun x H' y => ?_⟩
    obtain ⟨e, y⟩ := y
    subst e
    exact hs i x σ _ y p
  · have ei : i = xs.length := by omega
    subst ei
    exact .inl ⟨⟨q, rfl⟩, hd σ H p⟩
theorem tmul_meets (l : Addr) (x : Value) (n : Nat) (od : Option Addr) (sl : Array (Option Value)) (k : Nat) (hk : 2 ≤ k ∧ k ≤ 4) (u : Tok) :
    Meets (Builtin.«tuple.__mul__» ⟨[.ref l, .int k u], []⟩) (fun _ R s => s.heap.get? l = some { cls := .type "tuple", dict := od, data := .seq #[x] n, slots := sl } ∧ R (.ok (.ret (Value.ref s.heap.objs.size))) { s with heap := s.heap.push { cls := Value.type "tuple", data := Data.seq (List.replicate k x).toArray } }) :=
  .of_wp fun prog w A R s h => by
    obtain ⟨hp, g, d, tk, os⟩ := s; obtain ⟨hl, h⟩ := h
    have : k = 2 ∨ k = 3 ∨ k = 4 := by omega
    rcases this with rfl | rfl | rfl <;> (wp_walk; exact ⟨_, rfl, h⟩)
theorem tmul_one (l : Addr) (x : Value) (n : Nat) (od : Option Addr) (sl : Array (Option Value)) (u : Tok) :
    Meets (Builtin.«tuple.__mul__» ⟨[.ref l, .int 1 u], []⟩) (fun _ R s => s.heap.get? l = some { cls := .type "tuple", dict := od, data := .seq #[x] n, slots := sl } ∧ R (.ok (.ret (Value.ref l))) s) :=
  .of_wp fun prog w A R s h => by
    obtain ⟨hp, g, d, tk, os⟩ := s; obtain ⟨hl, h⟩ := h
    wp_walk
    exact ⟨_, rfl, h⟩
theorem tmul_r (a : Int) (t : Tok) (l : Addr) (x : Value) (n : Nat) (od : Option Addr) (sl : Array (Option Value)) :
    Meets (Builtin.«int.__rmul__» ⟨[.int a t, .ref l], []⟩) (fun _ R s => s.heap.get? l = some { cls := .type "tuple", dict := od, data := .seq #[x] n, slots := sl } ∧ R (.ok (.ret Value.notImplemented)) s) :=
  .of_wp fun prog w A R s h => by obtain ⟨hp, g, d, tk, os⟩ := s; obtain ⟨hl, h⟩ := h; wp_walk; exact ⟨_, rfl, h⟩
theorem nofill_tmul : fillsNumberSlot (.type "tuple") "mul" = pure false :=
  PySem.fillsNumberSlot_seq (id := "tuple.__mul__") (r := some (.builtin "tuple.__rmul__")) F.slot_tuple_mul.lookup (by decide +kernel) F.slot_tuple_rmul.lookup (by decide +kernel)
theorem rep_tup : seqRepeat? (.type "tuple") = pure (some (.builtin "tuple.__mul__")) := by
  unfold seqRepeat?
  rw [PySem.seqSlot_of (T := "tuple") (name := "__mul__") (id := "tuple.__mul__") F.slot_tuple_mul.lookup (by decide +kernel), PySem.seqSlot_of (T := "tuple") (name := "__rmul__") (id := "tuple.__rmul__") F.slot_tuple_rmul.lookup (by decide +kernel)]
  rfl
section
variable {X : Cx}
noncomputable def rRepT : R2 := fun x y H Q => ∃ (l : Addr) (k : Nat) (v : V), x = .ref l ∧ y = .int k ∧ H l = some (.tup [v]) ∧ 1 ≤ k ∧ k ≤ 4 ∧ ∀ p H', Same H H' → H' p = some (.tup (List.replicate k v)) → Q (.ref p) H'
theorem op_repT : OpR X (binaryOp .Mult) rRepT := by
  intro pins s σ H x y v u Q I rx ry h
  obtain ⟨l, k, z, rfl, rfl, hH, h1, h2, q⟩ := h
  cases rx
  obtain ⟨t, rfl⟩ := ry
  obtain ⟨zl, its, rv, ⟨⟨cl, od, dt, sl⟩, ho, hc, n, hd⟩⟩ := (show ObjOk X.prog X.w H s.heap l (.tup [z]) from I.hok l _ hH)
  replace hc : cl = .type "tuple" := hc
  replace hd : dt = .seq its.toArray n := hd
  obtain ⟨iv, rfl, riv⟩ := vals1 rv
  subst hc hd
  refine wpAny_binaryOp_repeat_ref (T := "tuple") (U := "int") (by decide) ⟨_, ho, rfl⟩ (fun s' => typeIs_int s' k t) nofill_tmul F.fills_int_mul F.slot_int_rmul rep_tup F.slot_int_index.lookup
    (call_meets F.slot_int_rmul (typeIs_int s k t) F.entry_int_rmul (F.args_int_rmul_2 _ _) (tmul_r k t l iv n od sl) ⟨ho, rfl, ⟨_, ho, rfl⟩, ?_⟩)
  by_cases k1 : k = 1
  · subst k1
    exact call_meets F.slot_tuple_mul ⟨_, ho, rfl⟩ F.entry_tuple_mul (F.args_tuple_mul_2 _ _) (tmul_one l iv n od sl t) ⟨ho, ⟨.ref l, H, I, rfl, q l H (Same.refl _) hH⟩⟩
  · refine call_meets F.slot_tuple_mul ⟨_, ho, rfl⟩ F.entry_tuple_mul (F.args_tuple_mul_2 _ _) (tmul_meets l iv n od sl k (by omega) t) ⟨ho, ?_⟩
    have nz : H s.heap.objs.size = none := I.hok.fresh (Nat.le_refl _)
    have rr : Vals (List.replicate k z) (List.replicate k iv) := by
      clear h1 h2 q k1
      induction k with
      | zero => exact .nil
      | succ k ih => exact .cons riv ih
    exact ⟨.ref s.heap.objs.size, _, I.laid (o := .tup (List.replicate k z)) (t' := s.toks) (fun b u e => Heap.get?_push_of_some _ e) (Nat.le_refl _) ⟨by rw [List.length_replicate]; exact Nat.le_trans h2 (by decide), _, rr, ⟨_, Heap.get?_push_size _ rfl, rfl, _, rfl⟩⟩, rfl, q _ _ (same_upd _ nz) upd_same⟩
noncomputable def CDivP (i j : Int) : Prop := 0 < j ∧ Builtin.divisionGoesByPylong i j = false
theorem op_fdivP : OpR X (binaryOp .FloorDiv) (rI CDivP fun i j => .int (i / j)) := opI fun i j _ _ _ _ _ hc q => by
  refine floordiv_int (by have := hc.1; omega) ?_ (.inl hc.2)
  rw [Int.fdiv_eq_ediv_of_nonneg _ (Int.le_of_lt hc.1)]
  exact q
theorem cdivp_of {i j : Int} (h : CDivL i j) : CDivP i j := ⟨h.1, PyProof.noPylong_of_log2 (Nat.lt_of_lt_of_le (LwM.log2_lt (by decide) h.2) (by decide))⟩
theorem cdivp_near {i j : Int} {m : Nat} (hj : 0 < j) (hm : m ≤ 13400) (hi : i.natAbs < 2 ^ m) : CDivP i j := by
  refine ⟨hj, ?_⟩
  by_cases h9 : j.natAbs.log2 < 9000
  · exact PyProof.noPylong_of_log2 h9
  · show (decide ((if j == 0 then 0 else j.natAbs.log2 / 30 + 1) > 300) && decide ((if i == 0 then 0 else i.natAbs.log2 / 30 + 1) > (if j == 0 then 0 else j.natAbs.log2 / 30 + 1) + 150)) = false
    rw [Bool.and_eq_false_iff]
    right
    refine decide_eq_false ?_
    have j0 : (j == 0) = false := by
      rw [beq_eq_false_iff_ne]
      omega
    rw [j0]
    simp only [Bool.false_eq_true, if_false]
    have : i.natAbs.log2 < 13440 := by
      by_cases z : i.natAbs = 0
      · rw [z]; decide +kernel
      · exact (Nat.log2_lt z).mpr (Nat.lt_of_lt_of_le hi (Nat.pow_le_pow_right (by decide) (by omega)))
    split <;> omega
end
end LwD

namespace LwD
open PySem PySem.W PySem.Spec PyProof.Rows
noncomputable def TruT {α : Type} (lt : Nat → Nat → Bool) (n : Nat) : KasT α → (α → Prop) → Prop
  | .ret a, P => P a
  | .ask i j k, P => i < n ∧ j < n ∧ TruT lt n (k (lt i j)) P
theorem TruT.bind {α β : Type} {lt : Nat → Nat → Bool} {n : Nat} {f : α → KasT β} {P : α → Prop} {R : β → Prop} : ∀ {t : KasT α}, TruT lt n t P → (∀ a, P a → TruT lt n (f a) R) → TruT lt n (t.bind f) R
  | .ret a, h, g => g a h
  | .ask _ _ _, h, g => ⟨h.1, h.2.1, TruT.bind h.2.2 g⟩
theorem TruT.mono {α : Type} {lt : Nat → Nat → Bool} {n : Nat} {P R : α → Prop} (g : ∀ a, P a → R a) : ∀ {t : KasT α}, TruT lt n t P → TruT lt n t R
  | .ret a, h => g a h
  | .ask _ _ _, h => ⟨h.1, h.2.1, TruT.mono g h.2.2⟩
structure Strict (lt : Nat → Nat → Bool) (n : Nat) : Prop where
  tr : ∀ a b c, lt a b = true → lt b c = true → lt a c = true
  as : ∀ a b, lt a b = true → lt b a = false
  tot : ∀ a b, a < n → b < n → a ≠ b → lt a b = false → lt b a = true
noncomputable def Up (lt : Nat → Nat → Bool) (p : Array Nat) (m : Nat) : Prop := ∀ a b, a < b → b < m → lt (p.getD a 0) (p.getD b 0) = true
noncomputable def Dn (lt : Nat → Nat → Bool) (p : Array Nat) (m : Nat) : Prop := ∀ a b, a < b → b < m → lt (p.getD b 0) (p.getD a 0) = true
theorem Pm.ne {n : Nat} {p : Array Nat} (h : Pm n p) {a b : Nat} (hab : a < b) (hb : b < n) : p.getD a 0 ≠ p.getD b 0 := by
  have sz := h.size
  have nd : p.toList.Nodup := h.nodup_iff.mpr List.nodup_range
  have ha' : a < p.toList.length := by simp [sz]; omega
  have hb' : b < p.toList.length := by simp [sz]; omega
  intro e
  have e1 : p.toList[a] = p.toList[b] := by
    have h1 : p.getD a 0 = p.toList[a] := by simp [Array.getD, show a < p.size by omega]
    have h2 : p.getD b 0 = p.toList[b] := by simp [Array.getD, show b < p.size by omega]
    rw [← h1, ← h2, e]
  have := (List.getElem_inj nd).mp e1
  omega
section
variable {lt : Nat → Nat → Bool} {n : Nat}
theorem Up.snoc (O : Strict lt n) {p : Array Nat} {m : Nat} (u : Up lt p m) (h : 0 < m → lt (p.getD (m - 1) 0) (p.getD m 0) = true) : Up lt p (m + 1) := by
  intro a b hab hb
  by_cases hbm : b < m
  · exact u a b hab hbm
  · have : b = m := by omega
    subst this
    by_cases ha : a = b - 1
    · rw [ha]; exact h (by omega)
    · exact O.tr _ _ _ (u a (b - 1) (by omega) (by omega)) (h (by omega))
theorem Dn.snoc (O : Strict lt n) {p : Array Nat} {m : Nat} (u : Dn lt p m) (h : 0 < m → lt (p.getD m 0) (p.getD (m - 1) 0) = true) : Dn lt p (m + 1) := by
  intro a b hab hb
  by_cases hbm : b < m
  · exact u a b hab hbm
  · have : b = m := by omega
    subst this
    by_cases ha : a = b - 1
    · rw [ha]; exact h (by omega)
    · exact O.tr _ _ _ (h (by omega)) (u a (b - 1) (by omega) (by omega))
theorem tru_asc (O : Strict lt n) {p : Array Nat} (h : Pm n p) (hn : 0 < n) : ∀ (f k : Nat), 1 ≤ k → k + f = n → Up lt p k → TruT lt n (kas_asc p f k) fun m => k ≤ m ∧ m ≤ n ∧ Up lt p m ∧ (m < n → lt (p.getD m 0) (p.getD (m - 1) 0) = true)
  | 0, k, h1, h2, u => ⟨Nat.le_refl _, by omega, u, fun z => by omega⟩
  | f + 1, k, h1, h2, u => by
    refine ⟨h.lt hn, h.lt hn, ?_⟩
    cases hb : lt (p.getD k 0) (p.getD (k - 1) 0) with
    | true => exact ⟨Nat.le_refl _, by omega, u, fun _ => hb⟩
    | false =>
      have up : Up lt p (k + 1) := u.snoc O fun _ => O.tot _ _ (h.lt hn) (h.lt hn) (Ne.symm (h.ne (by omega) (by omega))) hb
      refine (tru_asc O h hn f (k + 1) (by omega) (by omega) up).mono fun m hm => ⟨by omega, hm.2⟩
theorem tru_desc (O : Strict lt n) (hn : 0 < n) {p : Array Nat} (h : Pm n p) : ∀ (f k : Nat), 1 ≤ k → k + f = n → Dn lt p k → TruT lt n (kas_desc f p k 0) fun r => r.1 = p ∧ r.2.2 = 0 ∧ k ≤ r.2.1 ∧ r.2.1 ≤ n ∧ Dn lt p r.2.1
  | 0, k, _, h2, d => ⟨rfl, rfl, Nat.le_refl _, (show k ≤ n by omega), d⟩
  | f + 1, k, h1, h2, d => by
    refine ⟨h.lt hn, h.lt hn, ?_⟩
    cases hb : lt (p.getD k 0) (p.getD (k - 1) 0) with
    | true =>
      have dn : Dn lt p (k + 1) := d.snoc O fun _ => hb
      exact (tru_desc O hn h f (k + 1) (by omega) (by omega) dn).mono fun r hr => ⟨hr.1, hr.2.1, by omega, hr.2.2.2⟩
    | false =>
      refine ⟨h.lt hn, h.lt hn, ?_⟩
      have : lt (p.getD (k - 1) 0) (p.getD k 0) = true := O.tot _ _ (h.lt hn) (h.lt hn) (Ne.symm (h.ne (by omega) (by omega))) hb
      rw [this]
      exact ⟨rfl, rfl, Nat.le_refl _, (show k ≤ n by omega), d⟩
theorem getD_of? {p : Array Nat} {i : Nat} {q : Array Nat} {j : Nat} (h : p[i]? = q[j]?) : p.getD i 0 = q.getD j 0 := by
  rw [Array.getD_eq_getD_getElem?, Array.getD_eq_getD_getElem?, h]
theorem rev_up {p : Array Nat} (sz : p.size = n) {k : Nat} (hk : k ≤ n) (d : Dn lt p k) : Up lt (kas_rev p 0 k) k := by
  intro a b hab hb
  have e : ∀ c, c < k → (kas_rev p 0 k).getD c 0 = p.getD (k - 1 - c) 0 := fun c hc => by
    refine getD_of? ?_
    unfold kas_rev
    rw [getElem?_mirror_all (by omega), if_pos ⟨Nat.zero_le _, hc⟩, Nat.zero_add]
  rw [e a (by omega), e b hb]
  exact d (k - 1 - b) (k - 1 - a) (by omega) (by omega)
theorem tru_count (O : Strict lt n) (hn : 0 < n) : TruT lt n (kas_count n (List.toArray (List.range n))) fun r => Pm n r.2 ∧ 1 ≤ r.1 ∧ r.1 ≤ n ∧ Up lt r.2 r.1 := by
  have h : Pm n (List.toArray (List.range n)) := by unfold Pm; simp
  generalize List.toArray (List.range n) = p at h
  have u1 : Up lt p 1 := fun a b h1 h2 => by omega
  refine (tru_asc O h hn (n - 1) 1 (by omega) (by omega) u1).bind fun m hm => ?_
  obtain ⟨m1, m2, um, hlt⟩ := hm
  by_cases e : m = n
  · rw [if_pos (by simp [e])]
    exact ⟨h, m1, m2, um⟩
  · rw [if_neg (by simp [e])]
    by_cases m3 : m > 1
    · rw [if_pos m3]
      refine ⟨h.lt hn, h.lt hn, ?_⟩
      rw [um 0 (m - 1) (by omega) (by omega)]
      exact ⟨h, m1, m2, um⟩
    · rw [if_neg m3]
      have m4 : m = 1 := by omega
      subst m4
      have d2 : Dn lt p 2 := by
        intro a b hab hb
        have hl := hlt (by omega)
        have : a = 0 ∧ b = 1 := by omega
        rw [this.1, this.2]
        exact hl
      unfold kas_descPart
      refine (tru_desc O hn h (n - (1 + 1)) (1 + 1) (by omega) (by omega) d2).bind fun r hr => ?_
      obtain ⟨r1, r2, r3, r4, r5⟩ := hr
      rw [if_neg (by rw [r2]; decide), r1]
      unfold kas_tail3
      have hv : Pm n (kas_rev p 0 r.2.1) := h.rev _ _
      refine (tru_asc O hv hn (n - r.2.1) r.2.1 (by omega) (by omega) (rev_up h.size r4 r5)).bind fun k hk => ?_
      exact ⟨hv, by omega, hk.2.1, hk.2.2.1⟩
theorem tru_place (O : Strict lt n) (hn : 0 < n) {p : Array Nat} (h : Pm n p) {k : Nat} (hk : k < n) (u : Up lt p k) : ∀ (f l r : Nat), l ≤ r → r ≤ k → r - l ≤ f → (∀ a, a < l → lt (p.getD a 0) (p.getD k 0) = true) → (∀ a, r ≤ a → a < k → lt (p.getD k 0) (p.getD a 0) = true) →
    TruT lt n (kas_place p k f l r) fun x => x ≤ k ∧ (∀ a, a < x → lt (p.getD a 0) (p.getD k 0) = true) ∧ ∀ a, x ≤ a → a < k → lt (p.getD k 0) (p.getD a 0) = true
  | 0, l, r, h1, h2, h3, hl, hr => ⟨by omega, hl, fun a ha => hr a (by omega)⟩
  | f + 1, l, r, h1, h2, h3, hl, hr => by
    show TruT lt n (if l ≥ r then _ else _) _
    split
    · exact ⟨by omega, hl, fun a ha => hr a (by omega)⟩
    · refine ⟨h.lt hn, h.lt hn, ?_⟩
      have mk : (l + r) / 2 < k := by omega
      cases hb : lt (p.getD k 0) (p.getD ((l + r) / 2) 0) with
      | true =>
        refine tru_place O hn h hk u f l ((l + r) / 2) (by omega) (by omega) (by omega) hl fun a ha hak => ?_
        by_cases e : a = (l + r) / 2
        · rw [e]; exact hb
        · exact O.tr _ _ _ hb (u _ _ (by omega) hak)
      | false =>
        have hm : lt (p.getD ((l + r) / 2) 0) (p.getD k 0) = true := O.tot _ _ (h.lt hn) (h.lt hn) (Ne.symm (h.ne mk hk)) hb
        refine tru_place O hn h hk u f ((l + r) / 2 + 1) r (by omega) h2 (by omega) (fun a ha => ?_) hr
        by_cases e : a = (l + r) / 2
        · rw [e]; exact hm
        · exact O.tr _ _ _ (u a _ (by omega) mk) hm
theorem bub_up {p : Array Nat} (sz : p.size = n) {k l : Nat} (hk : k < n) (hl : l ≤ k) (u : Up lt p k) (h1 : ∀ a, a < l → lt (p.getD a 0) (p.getD k 0) = true) (h2 : ∀ a, l ≤ a → a < k → lt (p.getD k 0) (p.getD a 0) = true) : Up lt (bubble p k (k - l)) (k + 1) := by
  have e : ∀ c, (bubble p k (k - l)).getD c 0 = if c = l then p.getD k 0 else if l < c ∧ c ≤ k then p.getD (c - 1) 0 else p.getD c 0 := fun c => by
    have := getElem?_bubble (xs := p) (src := k) (by omega) (k - l) (by omega) c
    have z : k - (k - l) = l := by omega
    rw [z] at this
    split
    · rename_i hc
      rw [if_pos hc] at this
      exact getD_of? this
    · rename_i hc
      rw [if_neg hc] at this
      split
      · rename_i hc2
        rw [if_pos hc2] at this
        exact getD_of? this
      · rename_i hc2
        rw [if_neg hc2] at this
        exact getD_of? this
  intro a b hab hb
  rw [e a, e b]
  by_cases a1 : a = l
  · rw [if_pos a1, if_neg (by omega), if_pos ⟨by omega, by omega⟩]
    exact h2 _ (by omega) (by omega)
  · rw [if_neg a1]
    by_cases a2 : l < a ∧ a ≤ k
    · rw [if_pos a2, if_neg (by omega), if_pos ⟨by omega, by omega⟩]
      exact u _ _ (by omega) (by omega)
    · rw [if_neg a2]
      by_cases b1 : b = l
      · rw [if_pos b1]
        exact h1 a (by omega)
      · rw [if_neg b1]
        by_cases b2 : l < b ∧ b ≤ k
        · rw [if_pos b2]
          by_cases ab : a = b - 1
          · omega
          · exact u _ _ (by omega) (by omega)
        · rw [if_neg b2]
          exact u _ _ hab (by omega)
theorem tru_bin (O : Strict lt n) (hn : 0 < n) : ∀ (f : Nat) {p : Array Nat} (_ : Pm n p) (k : Nat), k + f = n → Up lt p k → TruT lt n (kas_bin f p k) fun q => Pm n q ∧ Up lt q n
  | 0, p, h, k, hk, u => ⟨h, by have : k = n := by omega
                                rw [← this]; exact u⟩
  | f + 1, p, h, k, hk, u => by
    refine (tru_place O hn h (by omega) u k 0 k (Nat.zero_le _) (Nat.le_refl _) (by omega) (fun a ha => by omega) (fun a h1 h2 => by omega)).bind fun l hl => ?_
    exact tru_bin O hn f (h.bub _ _) (k + 1) (by omega) (bub_up h.size (by omega) hl.1 u hl.2.1 hl.2.2)
theorem tru_sort (O : Strict lt n) (hn : 0 < n) : TruT lt n (kas_sort n) fun q => Pm n q ∧ Up lt q n := by
  refine (tru_count O hn).bind fun r hr => ?_
  obtain ⟨h1, h2, h3, h4⟩ := hr
  split
  · rw [show max r.1 1 = r.1 by omega]
    exact tru_bin O hn _ h1 _ (by omega) h4
  · have : r.1 = n := by omega
    exact ⟨h1, this ▸ h4⟩
theorem wp_tru {α : Type} {cmp : Nat → Nat → (Bool → Shared → Prop) → Shared → Prop} {s : Shared} (hc : ∀ i j C, i < n → j < n → C (lt i j) s → cmp i j C s) {P : α → Prop} {Q : α → Shared → Prop} (hq : ∀ a, P a → Q a s) : ∀ {t : KasT α}, TruT lt n t P → t.kasWp cmp Q s
  | .ret a, h => hq a h
  | .ask i j k, h => hc i j _ h.1 h.2.1 (wp_tru hc hq h.2.2)
end
end LwD

namespace LwD
open PySem PySem.Spec PyProof.Rows L2 Lw
noncomputable def lexI : List Int → List Int → Bool
  | x :: xs, y :: ys => if x = y then lexI xs ys else decide (x < y)
  | [], _ :: _ => true
  | _, [] => false
theorem lexI_tr : ∀ a b c : List Int, lexI a b = true → lexI b c = true → lexI a c = true
  | [], [], _, h, _ => by simp [lexI] at h
  | [], _ :: _, [], _, h => by simp [lexI] at h
  | [], _ :: _, _ :: _, _, _ => by simp [lexI]
  | _ :: _, [], _, h, _ => by simp [lexI] at h
  | _ :: _, _ :: _, [], _, h => by simp [lexI] at h
  | x :: xs, y :: ys, z :: zs, h1, h2 => by
    have ih := lexI_tr xs ys zs
    simp only [lexI] at h1 h2 ⊢
    by_cases e1 : x = y
    · subst e1
      rw [if_pos rfl] at h1
      by_cases e2 : x = z
      · rw [if_pos e2] at h2 ⊢
        exact ih h1 h2
      · rw [if_neg e2] at h2 ⊢
        exact h2
    · rw [if_neg e1] at h1
      have h1 := of_decide_eq_true h1
      by_cases e2 : y = z
      · subst e2
        rw [if_neg e1]
        exact decide_eq_true h1
      · rw [if_neg e2] at h2
        have h2 := of_decide_eq_true h2
        rw [if_neg (by omega)]
        exact decide_eq_true (by omega)
theorem lexI_as : ∀ a b : List Int, lexI a b = true → lexI b a = false
  | [], [], h => by simp [lexI] at h
  | [], _ :: _, _ => by simp [lexI]
  | _ :: _, [], h => by simp [lexI] at h
  | x :: xs, y :: ys, h => by
    have ih := lexI_as xs ys
    simp only [lexI] at h ⊢
    by_cases e1 : x = y
    · subst e1
      rw [if_pos rfl] at h ⊢
      exact ih h
    · rw [if_neg e1] at h
      have h := of_decide_eq_true h
      rw [if_neg (by omega)]
      exact decide_eq_false (by omega)
theorem lexI_tot : ∀ a b : List Int, a ≠ b → lexI a b = false → lexI b a = true
  | [], [], n, _ => absurd rfl n
  | [], _ :: _, _, h => by simp [lexI] at h
  | _ :: _, [], _, _ => by simp [lexI]
  | x :: xs, y :: ys, n, h => by
    have ih := lexI_tot xs ys
    simp only [lexI] at h ⊢
    by_cases e1 : x = y
    · subst e1
      rw [if_pos rfl] at h ⊢
      exact ih (fun z => n (by rw [z])) h
    · rw [if_neg e1] at h
      have h := of_decide_eq_false h
      rw [if_neg (by omega)]
      exact decide_eq_true (by omega)
noncomputable def lexG (fin : Bool) : List Int → List Int → Bool
  | x :: xs, y :: ys => if x = y then lexG fin xs ys else decide (x < y)
  | _, _ => fin
theorem lexG_is : ∀ a b : List Int, lexG (decide (a.length < b.length)) a b = lexI a b
  | [], [] => rfl
  | [], _ :: _ => by simp [lexG, lexI]
  | _ :: _, [] => by simp [lexG, lexI]
  | x :: xs, y :: ys => by
    have ih := lexG_is xs ys
    simp only [lexG, lexI, List.length_cons, Nat.add_lt_add_iff_right]
    rw [ih]
noncomputable def kInts (k : List Key) : List Int := k.filterMap fun | .inl i => some i | .inr _ => none
theorem kInts_ik (ns : List Int) : kInts (ik ns) = ns := by
  unfold kInts ik
  induction ns with
  | nil => rfl
  | cons n r ih => simp [ih]
theorem KTkeys {H : Hp} {kvs : List (List Key × V)} {xs : List (List Key × Addr × Value)} (r : KT H kvs xs) : kvs.map (·.1) = xs.map (·.1) := by
  induction r with
  | nil => rfl
  | cons h _ ih => rw [List.map_cons, List.map_cons, ih, h.1]
section
variable {prog : Program} {w : World} {A : Around} {E : Value → Shared → Prop} {s : Shared}
theorem lex_true {b fin : Bool} {Q : Bool → Shared → Prop} : ∀ {as bs : List Value} {xs ys : List Int} (_ : IntsAre as xs) (_ : IntsAre bs ys) (_ : Q (lexG fin xs ys) s) (i : Nat), PySem.W.KatLex prog w A b fin Q (as.zip bs) i s
  | _, _, _, _, .nil, _, h, _ => by
    rw [List.zip_nil_left]
    exact PySem.W.kat_nil (by simpa [lexG] using h)
  | _, _, _, _, .cons _ _ _, .nil, h, _ => by
    rw [List.zip_nil_right]
    exact PySem.W.kat_nil (by simpa [lexG] using h)
  | _, _, _, _, .cons n t r, .cons m u r2, h, i => by
    rw [List.zip_cons_cons]
    simp only [lexG] at h
    refine PySem.W.kat_cons (SeqAt.EqAt.int_int _ _ _ _ prog w _ _ ?_)
    refine PySem.W.kat_go (fun e => PySem.W.kat_yes (lex_true r r2 (by rwa [if_pos (by simpa using e)] at h) (i + 1))) fun e => PySem.W.kat_no ?_
    rw [if_neg (by simpa using e)] at h
    cases hb : (b && i == 0) with
    | true => exact oneLt_int h
    | false => exact PySem.W.kat_one _ _ (lt_int h)
end
section
variable {X : Cx}
noncomputable def rSortS : List V → Hp → VK → Prop := fun xs H Q => ∃ (a : Addr) (kvs : List (List Key × V)), xs = [.ref a] ∧ Rd H a (.dT kvs) ∧ kvs.length < 64 ∧ (∀ p ∈ kvs, ∃ ns : List Int, p.1 = ik ns ∧ ns ≠ []) ∧
  ∀ (ys : List V) (zs : List (List Key × V)), zs.Perm kvs → Keyed H ys zs → zs.Pairwise (fun p q => lexI (kInts p.1) (kInts q.1) = true) → New H (.lst ys) Q
theorem call_sortS (hc : X.calm = true) : CallR X (.builtin "sorted") rSortS := by
  intro pins s σ H xs us Q I r h
  obtain ⟨a, kvs, rfl, ha, h64, hk, q⟩ := h
  obtain ⟨u, rfl, ru⟩ := vals1 r
  cases ru
  obtain ⟨z, lo, ks, rel, dd⟩ := dt_rd I.hok ha
  obtain ⟨o, es, ep, hd1, hd2, hd3, he, his, hn⟩ := id dd
  have raw : Raw s.heap a es ep := ⟨o, hd1, hd2, hd3⟩
  have esz : es.size = kvs.length := by rw [size_of_entries he, ← Paired.length rel]
  obtain ⟨m, F⟩ := I.fr
  have kn : (kvs.map (·.1)).Nodup := by rw [KTkeys rel]; exact hn
  have itup : ∀ (j : Nat) (h : j < es.size), ∃ (b : Addr) (ns : List Int) (v : V), es[j].key = .ref b ∧ H b = some (.tup (ns.map V.int)) ∧ kvs[j]? = some (ik ns, v) ∧ ns ≠ [] := fun j hj => by
    have e1 := entry_at he j
    rw [Array.getElem?_eq_getElem hj] at e1
    cases e2 : ks[j]? with
    | none => rw [e2] at e1; cases e1
    | some x =>
      rw [e2] at e1
      have e3 : es[j] = entryOfKey _ x := Option.some.inj e1
      obtain ⟨v, m1, m2⟩ := KTgetI rel e2
      obtain ⟨ns, n1, n2⟩ := hk _ (List.mem_of_getElem? m1)
      dsimp only at n1
      rw [n1] at m1 m2
      rw [ik_map] at m2
      exact ⟨x.2.1, ns, v, by rw [e3]; rfl, m2, m1, n2⟩
  refine PySem.W.kdu_sorted (raw_src lo) (I.ok.hd hc) F news_all raw (by rw [esz]; exact z) fun D h' tk vs F' N' lt hlen hP => ?_
  have vtup : ∀ (j : Nat) (hj : j < vs.length), ∃ (b : Addr) (ns : List Int) (v : V), vs[j] = .ref b ∧ H b = some (.tup (ns.map V.int)) ∧ kvs[j]? = some (ik ns, v) ∧ ns ≠ [] := fun j hj => by
    obtain ⟨h1, h2⟩ := hP j vs[j] (by simp [hj])
    rw [h2]
    exact itup j h1
  have vl : vs.length = kvs.length := by rw [hlen, esz]
  have kvI : ∀ (j : Nat) (ns : List Int) (v : V), kvs[j]? = some (ik ns, v) → kInts (kvs.getD j ([], .non)).1 = ns := fun j ns v e => by rw [List.getD_eq_getElem?_getD, e]; exact kInts_ik ns
  have O : Strict (fun i j => lexI (kInts (kvs.getD i ([], .non)).1) (kInts (kvs.getD j ([], .non)).1)) vs.length := by
    refine ⟨fun a b c => lexI_tr _ _ _, fun a b => lexI_as _ _, fun a b ha hb hab hf => ?_⟩
    obtain ⟨_, ns, v, _, _, e3, _⟩ := vtup a ha
    obtain ⟨_, ms, v', _, _, e3', _⟩ := vtup b hb
    rw [kvI _ _ _ e3, kvI _ _ _ e3'] at hf
    show lexI (kInts (kvs.getD b ([], .non)).1) (kInts (kvs.getD a ([], .non)).1) = true
    rw [kvI _ _ _ e3, kvI _ _ _ e3']
    refine lexI_tot _ _ (fun z => hab ?_) hf
    have i1 : (kvs.map (·.1))[a]? = some (ik ns) := by rw [List.getElem?_map, e3]; rfl
    have i2 : (kvs.map (·.1))[b]? = some (ik ns) := by rw [List.getElem?_map, e3', z]; rfl
    exact (List.getElem?_inj (by rw [List.length_map]; omega) kn).mp (i1.trans i2.symm)
  -- the values in another order
  have fin : ∀ (idx : List Nat) (h3 : Heap) (c tk3 : Nat), idx.Perm (List.range kvs.length) → idx.Pairwise (fun i j => lexI (kInts (kvs.getD i ([], .non)).1) (kInts (kvs.getD j ([], .non)).1) = true) → Fr X.base X.env.locals h3 m → News X.base X.env.locals h3 ((D, PySem.W.listOf (idx.map fun i => vs.getD i Value.none).toArray c) :: allNews X.base s.heap X.env.locals) →
      EP X pins σ Q (.ref D) { s with heap := h3, toks := tk3 } := fun idx h3 c tk3 pm pw F3 N3 => by
    have il : idx.length = kvs.length := by rw [pm.length_eq, List.length_range]
    have im : ∀ i ∈ idx, i < kvs.length := fun i hi => List.mem_range.mp (pm.mem_iff.mp hi)
    have tr : ∀ js : List Nat, (∀ i ∈ js, i < kvs.length) → ∃ ys : List V, Vals ys (js.map fun i => vs.getD i Value.none) ∧ Keyed H ys (js.map fun i => kvs.getD i ([], .non)) := by
      intro js
      induction js with
      | nil => exact fun _ => ⟨[], .nil, rfl, fun i y p e => by simp at e⟩
      | cons j js ih =>
        intro hj
        obtain ⟨ys, r1, r2, r3⟩ := ih fun i hi => hj i (List.mem_cons_of_mem _ hi)
        have hj1 := hj j (List.mem_cons_self ..)
        obtain ⟨b, ns, x, e1, e2, e3, _⟩ := vtup j (by rw [vl]; exact hj1)
        refine ⟨.ref b :: ys, ?_, by simp [r2], fun i y p ey ep => ?_⟩
        · rw [List.map_cons]
          refine .cons ?_ r1
          rw [List.getD_eq_getElem?_getD, List.getElem?_eq_getElem (by rw [vl]; exact hj1), e1]
          rfl
        · cases i with
          | zero =>
            simp only [List.map_cons, List.getElem?_cons_zero, Option.some.injEq] at ey ep
            rw [List.getD_eq_getElem?_getD, e3] at ep
            subst ey
            subst ep
            exact ⟨b, ns, rfl, e2, rfl⟩
          | succ i =>
            simp only [List.map_cons, List.getElem?_cons_succ] at ey ep
            exact r3 i y p ey ep
    obtain ⟨ys, rv, hy⟩ := tr idx im
    have yl : ys.length = kvs.length := by rw [hy.1, List.length_map]; exact il
    have nb := new_by_news (ho := .lst ys) (tk := tk3) I F F3 N3 lt fun e => ⟨by rw [yl]; exact z, _, c, rv, e⟩
    have pz : (idx.map fun i => kvs.getD i ([], .non)).Perm kvs := by
      have := pm.map fun i => kvs.getD i ([], V.non)
      rw [getD_range] at this
      exact this
    exact ⟨.ref D, _, nb.2, rfl, (q ys _ pz hy (List.pairwise_map.mpr pw)).at nb.1⟩
  have nD := N' (D, PySem.W.listOf vs.toArray 0) (List.mem_cons_self ..)
  by_cases h2 : vs.length < 2
  · refine sort_small (n := 0) nD.1 h2 ?_
    obtain ⟨c, hat⟩ := sortedHeap_at (vs := vs) (n := 0) (out := vs.toArray) nD.1
    have old : ∀ b u, b ≠ D → h'.get? b = some u → (sortedHeap h' D vs vs.toArray).get? b = some u := fun b u hb e => by
      rw [sortedHeap_old hb (Heap.lt_size e)]
      exact e
    have er : (List.range kvs.length).map (fun i => vs.getD i Value.none) = vs := by rw [← vl]; exact getD_range vs _
    refine fin (List.range kvs.length) _ c tk (List.Perm.refl _) (by
      rw [← vl]
      have : vs.length = 0 ∨ vs.length = 1 := by omega
      rcases this with z | z <;> rw [z] <;> simp) ⟨?_, fun b u e => old b u (fun y => by rw [y, nD.2.2] at e; cases e) (F'.keep b u e), F'.above⟩ (fun p hp => ?_)
    · obtain ⟨ob, es', ep', e1, e2⟩ := F'.ns
      exact ⟨ob, es', ep', old _ _ (Ne.symm nD.2.1) e1, e2⟩
    · rw [er] at hp
      rcases List.mem_cons.mp hp with rfl | hp
      · exact ⟨hat, nD.2⟩
      · have y := N' p (List.mem_cons_of_mem _ hp)
        exact ⟨old _ _ (Nat.ne_of_lt (lt p hp)) y.1, y.2⟩
  · have hd : ∀ q ∈ allNews X.base s.heap X.env.locals, q.1 ≠ D := fun q hq => Nat.ne_of_lt (lt q hq)
    refine PySem.W.kat_lsort (vs := vs) (its := vs.toArray) F' N' (.head hd) rfl (by omega) (by omega) fun e1 h4 F4 N4 => ?_
    have in4 : ∀ b xs, H b = some (.tup xs) → ∃ its : List Value, Vals xs its ∧ IsTup h4 b its.toArray := fun b xs e => by
      obtain ⟨_, its, rv, ob, ho, hc2⟩ := (show ObjOk X.prog X.w H s.heap b (.tup xs) from I.hok b _ e)
      refine ⟨its, rv, ob, ?_, hc2⟩
      cases y : X.base.get? b with
      | some u =>
        have y2 := I.bk b u y
        rw [ho] at y2
        cases y2
        exact F4.keep b _ y
      | none => exact (N4 (b, ob) (List.mem_cons_of_mem _ (mem_allNews (fun y2 => by rw [y2, I.free] at e; cases e) y ho))).1
    have tups : ∀ l : List Value, (∀ v ∈ l, v ∈ vs) → ∃ fs : List Value, PySem.W.KatTups h4 l fs ∧ fs.length = l.length ∧ ∀ f ∈ fs, ∃ n t, f = Value.int n t := by
      intro l
      induction l with
      | nil => exact fun _ => ⟨[], .nil, rfl, fun _ y => nomatch y⟩
      | cons v r ih =>
        intro hm
        obtain ⟨fs, t1, t2, t3⟩ := ih fun v' hv' => hm v' (List.mem_cons_of_mem _ hv')
        obtain ⟨j, hj, ev⟩ := List.getElem_of_mem (hm v (List.mem_cons_self ..))
        obtain ⟨b, ns, x, g1, g2, g3, g4⟩ := vtup j hj
        obtain ⟨its, rv, ob, ho, hc2, nn, hdt⟩ := in4 b _ g2
        match ns, g4, rv with
        | n :: nr, _, .cons (b := iv) (l₂ := ir) rr rt =>
          obtain ⟨tt, rfl⟩ := rr
          rw [← ev, g1]
          exact ⟨.int n tt :: fs, .cons ho hc2 hdt (by simp) t1, by simp [t2], fun f hf => (List.mem_cons.mp hf).elim (fun y => ⟨n, tt, y⟩) (t3 f)⟩
    obtain ⟨fs, t1, t2, t3⟩ := tups vs fun _ y => y
    refine PySem.W.kat_kind (T := .type "int") t1 (by omega) (fun f hf => ?_) (by decide) ?_
    · obtain ⟨n, t, rfl⟩ := t3 f hf
      exact PySem.W.Looks.of_pure rfl
    · refine wp_tru (n := vs.length) (P := fun q => Pm vs.length q ∧ Up (fun i j => lexI (kInts (kvs.getD i ([], .non)).1) (kInts (kvs.getD j ([], .non)).1)) q vs.length) (fun i j C hi hj hC => ?_) (fun p hp => ?_) (tru_sort O (by omega))
      · obtain ⟨b, ns, x, g1, g2, g3, _⟩ := vtup i hi
        obtain ⟨b', ns', x', g1', g2', g3', _⟩ := vtup j hj
        obtain ⟨its, rv, ob, ho, hc2, nn, hdt⟩ := in4 b _ g2
        obtain ⟨its', rv', ob', ho', hc2', nn', hdt'⟩ := in4 b' _ g2'
        unfold PySem.W.kas_ask
        rw [show vs.getD i Value.none = .ref b by rw [List.getD_eq_getElem?_getD, List.getElem?_eq_getElem hi, g1]; rfl, show vs.getD j Value.none = .ref b' by rw [List.getD_eq_getElem?_getD, List.getElem?_eq_getElem hj, g1']; rfl]
        rw [kvI _ _ _ g3, kvI _ _ _ g3'] at hC
        have i1 := intsAre_of rv
        have i2 := intsAre_of rv'
        refine PySem.W.kat_lt ho hdt ho' hdt' (lex_true i1 i2 ?_ 0)
        rw [List.size_toArray, List.size_toArray, ints_len i1, ints_len i2, lexG_is]
        exact hC
      · refine PySem.W.KasFin.intro F4 N4 (.head hd) fun h5 c F5 N5 => fin p.toList h5 c tk ?_ ?_ F5 N5
        · rw [← vl]
          exact hp.1
        · have sz := hp.1.size
          refine List.pairwise_iff_getElem.mpr fun a b ha hb hab => ?_
          have ha' : a < p.size := by simpa using ha
          have hb' : b < p.size := by simpa using hb
          have := hp.2 a b hab (by omega)
          simpa [Array.getD, ha', hb'] using this
end
end LwD

namespace LwD
open PySem PySem.Spec PyProof.Rows L2 Lw
theorem miss_keys : typeLookup (.type "tuple") "keys" = pure none := am_miss_of_fast (by decide +kernel)
theorem tup_hook : typeLookup (.type "tuple") "__getattr__" = pure none := by rw [typeLookup_type, builtinLookup_eq_fast]; kernel_rfl
section
variable {prog : Program} {w : World} {A : Around} {E : Value → Shared → Prop} {h : Heap} {g : Array GenState} {d : Drawn} {t : Nat} {os : OsState} {a : Addr} {o : Obj}
theorem keys_entry {tk : Tok} {Q : Fin → Shared → Prop} (hx : h.get? a = some o) (hc : o.cls = .type "tuple") (hd : o.dict = none) (n : Nat) (its : Array Value) (hs : o.data = .seq its n) (hh : A.handled = none)
    (hq : ∀ h' tk' e, Heap.NewAttrErr h h' e (.ref a) "keys" → E (.ref e) ⟨h', g, d, tk', os⟩) :
    wpAny (model prog w) A (Builtin.«object.__getattribute__» ⟨[.ref a, .str "keys" tk], []⟩) Q E ⟨h, g, d, t, os⟩ := by
  have hT : (⟨h, g, d, t, os⟩ : Shared).TypeIs (.ref a) "tuple" := ⟨_, hx, hc⟩
  have f4 := miss_keys
  obtain ⟨c, dd, dt, sl⟩ := o
  replace hc : c = .type "tuple" := hc
  replace hd : dd = none := hd
  replace hs : dt = .seq its n := hs
  subst hc hd hs
  unfold Builtin.«object.__getattribute__»
  repeat (any_goals (first | assumption | wp_step))
  exact wpAny_raiseAttrError hh hq (attrMsg_fits (by decide +kernel) (by size_fits))
theorem keys_call {tk : Tok} {R : Result → Shared → Prop} (hx : h.get? a = some o) (hc : o.cls = .type "tuple") (hd : o.dict = none) (n : Nat) (its : Array Value) (hs : o.data = .seq its n) (hh : A.handled = none)
    (hq : ∀ h' tk' e, Heap.NewAttrErr h h' e (.ref a) "keys" → R (.error (.ref e)) ⟨h', g, d, tk', os⟩) :
    codeAny (model prog w) A (.call (.builtin "tuple.__getattribute__") ⟨[.ref a, .str "keys" tk], []⟩) R ⟨h, g, d, t, os⟩ :=
  codeAny_call_builtin F.slot_tuple_getattribute.plain F.entry_tuple_ga (F.slot_tuple_getattribute.check _ _ _ _ _ _ _ _ (show (⟨h, g, d, t, os⟩ : Shared).TypeIs (.ref a) "tuple" from ⟨_, hx, hc⟩) (F.args_tuple_getattribute_2 _ _) (keys_entry hx hc hd n its hs (show A.in1.handled = none from hh) hq))
theorem keys_none {Q : Option Value → Shared → Prop} (hx : h.get? a = some o) (hc : o.cls = .type "tuple") (hd : o.dict = none) (n : Nat) (its : Array Value) (hs : o.data = .seq its n) (hh : A.handled = none)
    (hq : ∀ h' tk', (∀ b u, h.get? b = some u → h'.get? b = some u) → Q none ⟨h', g, d, tk', os⟩) : wpAny (model prog w) A (getAttr? (.ref a) "keys") Q E ⟨h, g, d, t, os⟩ := by
  have hT : (⟨h, g, d, t, os⟩ : Shared).TypeIs (.ref a) "tuple" := ⟨_, hx, hc⟩
  have f2 := F.slot_tuple_getattribute.lookup
  have f3 := F.slot_tuple_getattribute.bind (.ref a)
  have f1 := sub_AttributeError
  have kc := fun (A : Around) (t : Nat) (tk : Tok) (R : Result → Shared → Prop) (hh : A.handled = none) => keys_call (prog := prog) (w := w) (A := A) (g := g) (d := d) (t := t) (os := os) (tk := tk) (R := R) hx hc hd n its hs hh
  obtain ⟨c, dd, dt, sl⟩ := o
  replace hc : c = .type "tuple" := hc
  replace hd : dd = none := hd
  replace hs : dt = .seq its n := hs
  subst hc hd hs
  unfold getAttr? getAttrBy?
  repeat (any_goals (first | assumption | wp_step))
  refine kc _ _ _ _ hh fun h' tk' e ne => ?_
  obtain ⟨t', u', he⟩ := ne.there
  have f5 := tup_hook
  repeat (any_goals (first | assumption | wp_step))
  exact hq h' tk' ne.keeps
end
end LwD

namespace LwD
open PySem PySem.Spec PyProof.Rows L2 Lw
theorem loop_plain : plainId "dict.update.loop" = true := by decide +kernel
theorem loop_entry : entryFor table "dict.update.loop" = some Builtin.«dict.update.loop» := entryFor_of_tree (by kernel_rfl)
section
variable {prog : Program} {w : World} {A : Around} {E : Value → Shared → Prop}
noncomputable abbrev tkd (prog : Program) (w : World) := tupleKind (mixKind prog w)
noncomputable def PairAt (prog : Program) (w : World) (h : Heap) (v : Value) (x : List Key × Addr × Value) : Prop := ∃ r, v = .ref r ∧ IsTup h r #[.ref x.2.1, x.2.2] ∧ (tkd prog w).is h x.1 x.2.1
theorem PairAt.keep {h h' : Heap} {v : Value} {x : List Key × Addr × Value} (p : PairAt prog w h v x) (k : ∀ b u, h.get? b = some u → h'.get? b = some u) : PairAt prog w h' v x := by
  obtain ⟨r, e, ⟨o, h1, h2⟩, q, its, n, h3, h4⟩ := p
  exact ⟨r, e, ⟨o, k _ _ h1, h2⟩, q, its, n, k _ _ h3, h4⟩
noncomputable def puts (xs ps : List (List Key × Addr × Value)) : List (List Key × Addr × Value) := ps.foldl (fun acc x => storedH acc x.1 x.2.1 x.2.2) xs
theorem dh_ext {h h' : Heap} {d it t : Addr} {i : Nat} {xs : List (List Key × Addr × Value)} (D : h.DictOfH (tkd prog w) d xs) (I : h.IsTupleIter it t i) (hdi : d ≠ it) (k : ∀ b u, b ≠ it → h.get? b = some u → h'.get? b = some u) : h'.DictOfH (tkd prog w) d xs := by
  obtain ⟨o, es, ep, h1, h2, h3, h4, h5, h6⟩ := D
  refine ⟨o, es, ep, k _ _ hdi h1, h2, h3, h4, fun x hx => ?_, h6⟩
  obtain ⟨q, its, n, g1, g2, g3⟩ := h5 x hx
  refine ⟨q, its, n, k _ _ (fun e => ?_) g1, g2, g3⟩
  obtain ⟨u, u1, u2, _⟩ := I
  rw [e, u1] at g1
  cases g1
  rw [u2] at g2
  exact absurd g2 (by decide)
theorem stored_len (xs : List (List Key × Addr × Value)) (k : List Key) (a : Addr) (v : Value) : (storedH xs k a v).length ≤ xs.length + 1 := by
  unfold storedH
  split <;> simp
theorem dict_loop {Q : Shared → Prop} {h0 : Heap} {d it t : Addr} {items : Array Value} (hh : A.handled = none) (hu : A.units + 1 < cLine) (hd : h0.objs.size ≤ d) (hi : h0.objs.size ≤ it) (hdi : d ≠ it) (ht : h0.IsTuple t items) :
    ∀ (ps xs : List (List Key × Addr × Value)) (i : Nat) (tk : Tok) (s : Shared), (∀ j, Option.Rel (PairAt prog w h0) items[i + j]? ps[j]?) → xs.length + ps.length ≤ sizeLine → (∀ b u, h0.get? b = some u → s.heap.get? b = some u) → s.heap.DictOfH (tkd prog w) d xs → s.heap.IsTupleIter it t i →
      (∀ h' tk', (∀ b u, h0.get? b = some u → h'.get? b = some u) → h'.DictOfH (tkd prog w) d (puts xs ps) → Q { s with heap := h', toks := tk' }) →
      codeAny (model prog w) A (.builtin "dict.update.loop" ⟨[.ref d, .ref it, .int i tk, .none], []⟩) (wants (fun r s₂ => r = .none ∧ Q s₂) E) s := by
  intro ps
  induction ps with
  | nil =>
    intro xs i tk s hp hz hk hD hI q
    have hn : items[i]? = none := by have := hp 0; revert this; rw [Nat.add_zero]; cases items[i]? <;> intro z <;> cases z; rfl
    refine codeAny_builtin loop_entry ?_
    rw [Around.under_plainId loop_plain _]
    have ht' : s.heap.IsTuple t items := let ⟨o, ho, r⟩ := ht; ⟨o, hk _ _ ho, r⟩
    unfold Builtin.«dict.update.loop»
    refine wpAny_bind (wpAny_pyNext_tuple_end (A := A.in1) hh hI ht' hn fun h' hx => ?_)
    refine wpAny_pure ⟨rfl, q h' s.toks ?_ ?_⟩
    · exact fun b u e => hx b u (Nat.ne_of_lt (Nat.lt_of_lt_of_le (Heap.lt_size e) hi)) (hk b u e)
    · exact dh_ext hD hI hdi fun b u hb e => hx b u hb e
  | cons p ps ih =>
    intro xs i tk s hp hz hk hD hI q
    have hp0 := hp 0
    rw [Nat.add_zero] at hp0
    obtain ⟨v, hv, pa⟩ : ∃ v, items[i]? = some v ∧ PairAt prog w h0 v p := by
      revert hp0
      cases items[i]? with
      | none => intro z; cases z
      | some v => intro z; cases z with | some y => exact ⟨v, rfl, y⟩
    refine codeAny_builtin loop_entry ?_
    rw [Around.under_plainId loop_plain _]
    have ht' : s.heap.IsTuple t items := let ⟨o, ho, r⟩ := ht; ⟨o, hk _ _ ho, r⟩
    unfold Builtin.«dict.update.loop»
    refine wpAny_bind (wpAny_pyNext_tuple_item (A := A.in1) hI ht' hv fun h' hI' hs => ?_)
    have k1 : ∀ b u, h0.get? b = some u → h'.get? b = some u := fun b u e => (hs.2 b (Nat.ne_of_lt (Nat.lt_of_lt_of_le (Heap.lt_size e) hi))).trans (hk b u e)
    have D1 := dh_ext hD hI hdi fun b u hb e => (hs.2 b hb).trans e
    obtain ⟨r, rfl, tp, ky⟩ := pa.keep k1
    obtain ⟨o, ho, hc, n, hdt⟩ := id tp
    have hT : (⟨h', s.gens, s.drawn, s.toks, s.os⟩ : Shared).TypeIs (.ref r) "tuple" := ⟨o, ho, hc⟩
    unfold Builtin.Dict.pairItems
    dsimp only
    refine wpAny_bind (wpAny_holding (wpAny_bind (wpAny_tryCatch (wpAny_bind (wpAny_typeOf hT ?_)))))
    rw [if_pos (by decide)]
    unfold seqItems?
    refine wpAny_bind (wpAny_bind (wpAny_load ho ?_))
    rw [hdt]
    refine wpAny_pure ?_
    refine wpAny_pure (wpAny_holding ?_)
    refine wpAny_dictSet_heap (hsz := by simp only [List.length_cons] at hz; omega) (knd := tkd prog w) (tupleKind_room_in1 hu) ky D1 fun h2 D2 hs2 => ?_
    have nt : t ≠ d := fun e => by obtain ⟨u, hu, _⟩ := ht; exact absurd (Heap.lt_size hu) (by rw [e]; exact Nat.not_lt.mpr hd)
    refine wpAny_pure ⟨plainId_quiet loop_plain _, ?_⟩
    refine ih (storedH xs p.1 p.2.1 p.2.2) (i + 1) 0 _ (fun j => ?_) ?_ (fun b u e => ?_) D2 ?_ fun h3 tk3 k3 D3 => ?_
    · have := hp (j + 1)
      rw [List.getElem?_cons_succ] at this
      rw [show i + 1 + j = i + (j + 1) by omega]
      exact this
    · have := stored_len xs p.1 p.2.1 p.2.2
      simp only [List.length_cons] at hz
      omega
    · exact (hs2.2 b (Nat.ne_of_lt (Nat.lt_of_lt_of_le (Heap.lt_size e) hd))).trans (k1 b u e)
    · obtain ⟨u, u1, u2⟩ := hI'
      exact ⟨u, (hs2.2 it (Ne.symm hdi)).trans u1, u2⟩
    · exact q h3 tk3 k3 D3
end
section
variable {prog : Program} {w : World} {A : Around} {E : Value → Shared → Prop} {s : Shared}
theorem dict_tup {t : Addr} {o : Obj} {items : Array Value} {n : Nat} {ps : List (List Key × Addr × Value)} {Q : Value → Shared → Prop} (hh : A.handled = none) (hu : A.units + 2 < cLine) (ho : s.heap.get? t = some o) (hc : o.cls = .type "tuple") (hd : o.dict = none) (hs : o.data = .seq items n)
    (hp : ∀ j : Nat, Option.Rel (PairAt prog w s.heap) items[j]? ps[j]?) (hz : ps.length ≤ sizeLine)
    (q : ∀ h' tk', (∀ b u, s.heap.get? b = some u → h'.get? b = some u) → h'.DictOfH (tkd prog w) s.heap.objs.size (puts [] ps) → Q (.ref s.heap.objs.size) { s with heap := h', toks := tk' }) :
    wpAny (model prog w) A (call (.type "dict") [.ref t]) Q E s := by
  refine callType_codes (Q₁ := fun obj s₁ => obj = .ref s.heap.objs.size ∧ s₁ = { s with heap := s.heap.push { cls := .type "dict", data := .dict #[] } }) F.kt_called_dict (F.kt_typeCall_dict_1 _) F.entry_dict_init (kt_code_dict_new _ ⟨rfl, rfl⟩) ?_
  rintro obj s₁ ⟨rfl, rfl⟩
  have hT : (⟨s.heap.push { cls := .type "dict", data := .dict #[] }, s.gens, s.drawn, s.toks, s.os⟩ : Shared).TypeIs (.ref s.heap.objs.size) "dict" := ⟨_, Heap.get?_push_size _ rfl, rfl⟩
  have ho1 : (s.heap.push { cls := .type "dict", data := .dict #[] }).get? t = some o := Heap.get?_push_of_some _ ho
  have hT1 : (⟨s.heap.push { cls := .type "dict", data := .dict #[] }, s.gens, s.drawn, s.toks, s.os⟩ : Shared).TypeIs (.ref t) "tuple" := ⟨_, ho1, hc⟩
  refine ⟨hT, F.args_dict_init_2 _ _, ?_⟩
  unfold Builtin.«dict.__init__»
  refine wpAny_bind ?_
  unfold Builtin.Dict.selfAndRest
  refine wpAny_bind (wpAny_notOrdered_dict hT ?_)
  show wpAny _ _ (pure (s.heap.objs.size, [Value.ref t])) _ _ _
  refine wpAny_pure ?_
  show wpAny _ _ (Builtin.Dict.updateFrom "dict.__init__" s.heap.objs.size (.ref t) [] .none) _ _ _
  unfold Builtin.Dict.updateFrom
  refine wpAny_bind (wpAny_typeOf hT1 ?_)
  rw [if_pos (by decide)]
  refine wpAny_bind (keys_none ho1 hc hd n items hs hh fun h2 tk2 k2 => ?_)
  have kk : ∀ b u, s.heap.get? b = some u → h2.get? b = some u := fun b u e => k2 b u (Heap.get?_push_of_some _ e)
  have hi2 : h2.IsTuple t items := ⟨o, kk _ _ ho, hc, n, hs⟩
  have hd2 : h2.get? s.heap.objs.size = some { cls := .type "dict", data := .dict #[] } := k2 _ _ (Heap.get?_push_size _ rfl)
  have lt2 : s.heap.objs.size < h2.objs.size := Heap.lt_size hd2
  rw [if_pos (by decide)]
  refine wpAny_bind (wpAny_rule (wpAny_bind (wpAny_pyIter_tuple hi2 (wpAny_pure ⟨plainId_quiet loop_plain _, ?_⟩))))
  refine dict_loop (A := A.in1) (E := E) (Q := fun s₂ => Q (.ref s.heap.objs.size) s₂) (h0 := s.heap) (items := items) (t := t) hh hu (Nat.le_refl _) (Nat.le_of_lt lt2) (Nat.ne_of_lt lt2) ⟨o, ho, hc, n, hs⟩ ps [] 0 0 { s with heap := h2.push { cls := .type "tuple_iterator", data := .fields #[.ref t, .int 0 0] }, toks := tk2 } (fun j => ?_) (by simpa using hz) (fun b u e => ?_) ?_ ?_ fun h3 tk3 k3 D3 => q h3 tk3 k3 D3
  · rw [Nat.zero_add]; exact hp j
  · exact Heap.get?_push_of_some _ (kk b u e)
  · exact ⟨_, #[], 0, Heap.get?_push_of_some _ hd2, ⟨rfl, rfl, rfl⟩, rfl, rfl, (fun x hx => nomatch hx), List.nodup_nil⟩
  · exact ⟨_, Heap.get?_push_size _ rfl, rfl, rfl⟩
end
section
variable {X : Cx}
noncomputable def PairsIn (H : Hp) (ys : List V) (kvs : List (List Key × V)) : Prop := Paired (fun (y : V) (p : List Key × V) => ∃ r b, y = .ref r ∧ Rd H r (.tup [.ref b, p.2]) ∧ H b = some (.tup (p.1.map kV))) ys kvs
theorem puts_new : ∀ (ps xs : List (List Key × Addr × Value)), ((xs ++ ps).map (·.1)).Nodup → puts xs ps = xs ++ ps
  | [], xs, _ => (List.append_nil xs).symm
  | p :: ps, xs, h => by
    have hn : atKey xs p.1 = none := by
      refine atKey_none_of_get fun j q e => ?_
      rw [List.map_append, List.map_cons] at h
      exact (List.nodup_append.mp h).2.2 p.1 (List.mem_map.mpr ⟨_, List.mem_of_getElem? e, rfl⟩) p.1 (List.mem_cons_self ..) rfl
    show puts (storedH xs p.1 p.2.1 p.2.2) ps = _
    rw [storedH_new hn, puts_new ps _ (by rw [List.append_assoc]; exact h), List.append_assoc]
    rfl
noncomputable def rDictT : List V → Hp → VK → Prop := fun xs H Q => ∃ (t : Addr) (o : Obj) (ys : List V) (kvs : List (List Key × V)), xs = [.ref t] ∧ H t = some (.frz o (.tup ys)) ∧ o.dict = none ∧ PairsIn H ys kvs ∧ (kvs.map (·.1)).Nodup ∧ New H (.dT kvs) Q
theorem call_dictT (hc : X.calm = true) (hu : X.A.units + 2 < cLine) : CallR X (.type "dict") rDictT := by
  intro pins s σ H xs us Q I r h
  obtain ⟨t, o, ys, kvs, rfl, ht, hd, hp, hn, q⟩ := h
  obtain ⟨u, rfl, ru⟩ := vals1 r
  cases ru
  obtain ⟨ho, hz, its, rv, o', ho', hcl, n, hdt⟩ := (show ObjOk X.prog X.w H s.heap t (.frz o (.tup ys)) from I.hok t _ ht)
  rw [ho] at ho'
  cases ho'
  have key : ∀ (ys : List V) (its : List Value) (kvs : List (List Key × V)), Vals ys its → PairsIn H ys kvs → ∃ ps : List (List Key × Addr × Value), KT H kvs ps ∧ Paired (PairAt X.prog X.w s.heap) its ps := by
    intro ys its kvs rv hp
    induction hp generalizing its with
    | nil => cases rv; exact ⟨[], .nil, .nil⟩
    | @cons y p ys kvs h t ih =>
      cases rv with
      | cons r1 rt =>
        obtain ⟨ps, k1, k2⟩ := ih _ rt
        obtain ⟨r, b, rfl, e1, e2⟩ := h
        cases r1
        obtain ⟨_, il, rl, tp⟩ := (show ObjOk X.prog X.w H s.heap r (.tup [.ref b, p.2]) from e1.ok I.hok)
        cases rl with
        | cons a1 a2 => cases a2 with
          | cons b1 b2 =>
            cases b2
            cases a1
            rename_i vb
            exact ⟨(p.1, b, vb) :: ps, .cons ⟨rfl, e2, b1⟩ k1, .cons ⟨r, rfl, tp, key_of I.hok e2⟩ k2⟩
  obtain ⟨ps, k1, k2⟩ := key ys its kvs rv hp
  have lz : ps.length = its.length := (Paired.length k2).symm
  have lz2 : kvs.length = ps.length := Paired.length k1
  have lz3 := rv.length
  have hn2 : (ps.map (·.1)).Nodup := by
    have : kvs.map (·.1) = ps.map (·.1) := KTkeys k1
    rw [← this]
    exact hn
  refine dict_tup (ps := ps) (I.ok.hd hc) hu ho hcl hd hdt (fun j => ?_) (by omega) fun h' tk' kk D => ?_
  · have pr : ∀ (l : List Value) (m : List (List Key × Addr × Value)), Paired (PairAt X.prog X.w s.heap) l m → ∀ j : Nat, Option.Rel (PairAt X.prog X.w s.heap) l[j]? m[j]? := by
      intro l m h
      induction h with
      | nil => intro j; exact .none
      | cons a b ih => intro j; cases j with
        | zero => exact .some a
        | succ j => exact ih j
    simpa using pr its ps k2 j
  · rw [puts_new ps [] (by simpa using hn2), List.nil_append] at D
    obtain ⟨ob, es, ep, g1, g2, g3, g4, _, g5⟩ := D
    refine ⟨.ref s.heap.objs.size, _, I.laid (a := s.heap.objs.size) (o := .dT kvs) kk (Nat.le_refl _) ⟨by omega, beq_eq_false_iff_ne.mpr (Ne.symm (Nat.ne_of_lt I.big)), ps, (KT.keeps k1 fun c ys e => ?_), ob, es, ep, g1, g2, g3, g4, g5⟩, rfl, q.at (I.hok.fresh (Nat.le_refl _))⟩
    rw [upd_ne (fun z => by rw [z, I.hok.fresh (Nat.le_refl _)] at e; cases e)]
    exact e
end
end LwD

namespace LwD
open PySem PySem.Spec PyProof.Rows L2 Lw
section
variable {prog : Program} {w : World} {A : Around} {E : Value → Shared → Prop} {s : Shared}
theorem filter_one {α : Type} (f : α → Int) : ∀ (l : List α), (l.map f).Nodup → ∀ e ∈ l, (l.filter fun x => f x == f e).length ≤ 1
  | [], _, e, he => nomatch he
  | a :: l, hn, e, he => by
    rw [List.map_cons, List.nodup_cons] at hn
    by_cases z : f a = f e
    · have : (l.filter fun x => f x == f e) = [] := by
        rw [List.filter_eq_nil_iff]
        intro x hx
        simp only [beq_iff_eq]
        exact fun y => hn.1 (z ▸ y ▸ List.mem_map.mpr ⟨x, hx, rfl⟩)
      rw [List.filter_cons, this]
      split <;> simp
    · rw [List.filter_cons, if_neg (by simpa using z)]
      rcases List.mem_cons.mp he with rfl | he
      · exact absurd rfl z
      · exact filter_one f l hn.2 e he
theorem merge_copy {nm : String} {d o : Addr} {xs : List (List Key × Addr × Value)} {Q : Unit → Shared → Prop} (hdo : d ≠ o) (hoS : (o == sysModules) = false) (hd : s.heap.DictOfH (tkd prog w) d []) (ho : s.heap.DictOfH (tkd prog w) o xs)
    (hh : (xs.map fun x => (tkd prog w).hash x.1).Nodup) (hz : xs.length ≤ sizeLine) (hQ : ∀ h', h'.DictOfH (tkd prog w) d xs → Heap.SameBut d s.heap h' → Q () { s with heap := h' }) : wpAny (model prog w) A (Builtin.Dict.mergeDict nm d o) Q E s := by
  obtain ⟨od, esd, epd, hod, hcd, hdd, hed, hid, hnd⟩ := id hd
  obtain ⟨oo, eso, epo, hoo, hco, hdo', heo, hio, hno⟩ := id ho
  have d0 : esd = #[] := by simpa using hed
  subst d0
  have lz : eso.size = xs.length := size_of_entries heo
  unfold Builtin.Dict.mergeDict
  rw [if_neg (by simpa using hdo)]
  unfold Builtin.Dict.showsAll
  rw [if_neg (by rw [hoS]; exact Bool.false_ne_true)]
  refine wpAny_bind (wpAny_pure ?_)
  refine wpAny_bind (wpAny_dictEntries hoo hdo' ?_)
  dsimp only
  by_cases he : xs = []
  · subst he
    have e0 : eso = #[] := by simpa using heo
    subst e0
    rw [if_neg (by simp)]
    refine wpAny_bind (wpAny_dictEpoch hoo hdo' ?_)
    refine wpAny_bind (wpAny_dictEntries hoo hdo' ?_)
    refine wpAny_bind ?_
    rw [Std.Legacy.Range.forIn_eq_forIn_range']
    refine wpAny_pure ?_
    exact wpAny_pure (hQ s.heap hd (Heap.SameBut.refl _ _))
  · have few : (decide (eso.size ≤ 8) && eso.all fun e => (keyPart e.key).isSome) = false := by
      obtain ⟨x, r, rfl⟩ : ∃ x r, xs = x :: r := by cases xs with | nil => exact absurd rfl he | cons x r => exact ⟨x, r, rfl⟩
      have : eso.all (fun e => (keyPart e.key).isSome) = false := by
        rw [← Array.all_toList, heo]
        rfl
      rw [this, Bool.and_false]
    rw [few, if_pos (by decide)]
    refine wpAny_bind (wpAny_dictEntries hod hdd ?_)
    rw [if_pos (by decide)]
    refine wpAny_bind ?_
    unfold Builtin.Dict.entriesForEmpty
    refine wpAny_bind (wpAny_dictEntries hoo hdo' ?_)
    have body : ∀ e ∈ eso.toList, ∀ (s' : Shared), s' = s → ∀ {Q' : ForInStep PUnit → Shared → Prop}, Q' (.yield PUnit.unit) s' → wpAny (model prog w) A (do
      let q ← Builtin.Dict.quietEq e.key
      if (!q) = true then
        if (eso.filter (·.hash == e.hash)).size > 1 then (do let _ ← (unsupported s!"{nm}:keys-of-equal-hash" : Sem PUnit); pure (ForInStep.yield PUnit.unit)) else pure (ForInStep.yield PUnit.unit)
      else pure (ForInStep.yield PUnit.unit) : Sem (ForInStep PUnit)) Q' E s' := by
      rintro e hm s' rfl Q' hq
      have hm' := hm
      rw [heo] at hm
      obtain ⟨x, hx, rfl⟩ := List.mem_map.mp hm
      refine wpAny_bind ?_
      show wpAny _ _ (Builtin.Dict.quietEq (.ref x.2.1)) _ _ _
      unfold Builtin.Dict.quietEq
      refine wpAny_bind (wpAny_specialOf (hio x hx).typeIs F.slot_tuple_eq.lookup (wpAny_pure ?_))
      rw [if_pos (by decide), if_neg ?_]
      · exact wpAny_pure hq
      · have := filter_one (fun e : DictEntry => e.hash) eso.toList (by rw [heo, List.map_map]; exact hh) _ hm'
        rw [← Array.toList_filter, Array.length_toList] at this
        exact Nat.not_lt.mpr this
    refine wpAny_bind ?_
    rw [← Array.forIn_toList]
    refine wpAny_forIn_list _ (fun rest _ s' => s' = s ∧ ∃ pre, eso.toList = pre ++ rest) _ ?_ ?_ _ _ ⟨rfl, [], rfl⟩
    · rintro e rest b s' ⟨rfl, pre, hp⟩
      refine body e (by rw [hp]; simp) _ rfl ?_
      exact ⟨rfl, pre ++ [e], by rw [hp]; simp⟩
    · rintro b s' ⟨rfl, _⟩
      refine wpAny_pure ?_
      rw [if_pos (by
        have : eso ≠ #[] := fun z => he (List.length_eq_zero_iff.mp (by rw [← lz, z]; rfl))
        simpa using this)]
      refine wpAny_bind (wpAny_updateDictKeysTo hod hdd (wpAny_pure (hQ _ ⟨_, _, epd + 1, Heap.get?_update_self _ hod (Obj.isFreed_of_dict (Obj.data_mapDictKeys hdd _)), hcd.mapDictKeys _, Obj.data_mapDictKeys hdd _, heo, fun x hx => ?_, hno⟩ (Heap.SameBut.update ..))) (by omega))
      exact (tkd prog w).keeps (hio x hx) hod hdd (Heap.SameBut.update ..)
theorem dict_copy {o : Addr} {xs : List (List Key × Addr × Value)} {Q : Value → Shared → Prop} (hoS : (o == sysModules) = false) (ho : s.heap.DictOfH (tkd prog w) o xs) (hh : (xs.map fun x => (tkd prog w).hash x.1).Nodup) (hz : xs.length ≤ sizeLine)
    (h : ∀ h', h'.DictOfH (tkd prog w) s.heap.objs.size xs → (∀ b u, s.heap.get? b = some u → h'.get? b = some u) → Q (.ref s.heap.objs.size) { s with heap := h' }) :
    wpAny (model prog w) A (call (.type "dict") [.ref o]) Q E s := by
  refine callType_codes (Q₁ := fun obj s₁ => obj = .ref s.heap.objs.size ∧ s₁ = { s with heap := s.heap.push { cls := .type "dict", data := .dict #[] } }) F.kt_called_dict (F.kt_typeCall_dict_1 _) F.entry_dict_init (kt_code_dict_new _ ⟨rfl, rfl⟩) ?_
  rintro obj s₁ ⟨rfl, rfl⟩
  have hnew : (s.heap.push { cls := .type "dict", data := .dict #[] }).DictOfH (tkd prog w) s.heap.objs.size [] := ⟨_, #[], 0, Heap.get?_push_size _ rfl, ⟨rfl, rfl, rfl⟩, rfl, rfl, (fun x hx => nomatch hx), List.nodup_nil⟩
  have ho' : (s.heap.push { cls := .type "dict", data := .dict #[] }).DictOfH (tkd prog w) o xs := by
    obtain ⟨oo, es, ep, g1, g2, g3, g4, g5, g6⟩ := ho
    exact ⟨oo, es, ep, Heap.get?_push_of_some _ g1, g2, g3, g4, fun x hx => let ⟨q, its, n, i1, i2⟩ := g5 x hx; ⟨q, its, n, Heap.get?_push_of_some _ i1, i2⟩, g6⟩
  have hdo : s.heap.objs.size ≠ o := by
    obtain ⟨_, _, _, hg, _⟩ := ho
    exact fun e => absurd (Heap.lt_size hg) (by rw [e]; exact Nat.lt_irrefl _)
  have ty : ∀ {h1 : Heap} {a : Addr} {ys : List (List Key × Addr × Value)}, h1.DictOfH (tkd prog w) a ys → (⟨h1, s.gens, s.drawn, s.toks, s.os⟩ : Shared).TypeIs (.ref a) "dict" := fun D => let ⟨q, _, _, g1, g2, _⟩ := D; ⟨q, g1, g2.1⟩
  refine ⟨ty hnew, F.args_dict_init_2 _ _, ?_⟩
  unfold Builtin.«dict.__init__»
  refine wpAny_bind ?_
  unfold Builtin.Dict.selfAndRest
  refine wpAny_bind (wpAny_notOrdered_dict (ty hnew) ?_)
  show wpAny _ _ (pure (s.heap.objs.size, [Value.ref o])) _ _ _
  refine wpAny_pure ?_
  show wpAny _ _ (Builtin.Dict.updateFrom "dict.__init__" s.heap.objs.size (.ref o) [] .none) _ _ _
  unfold Builtin.Dict.updateFrom
  refine wpAny_bind (wpAny_typeOf (ty ho') ?_)
  rw [if_neg (by decide)]
  refine wpAny_bind ?_
  unfold Builtin.Dict.merge
  refine wpAny_bind ?_
  unfold Builtin.Dict.readDirectly
  refine wpAny_bind (wpAny_isInstance (ty ho') isSubtype_dict_dict ?_)
  simp only [Bool.not_true, Bool.false_eq_true, if_false]
  refine wpAny_bind (wpAny_specialOf (ty ho') F.slot_dict_iter.lookup (wpAny_pure ?_))
  simp only [beq_self_eq_true, if_true]
  refine wpAny_bind (wpAny_pure ?_)
  refine merge_copy hdo hoS hnew ho' hh hz fun h' hd' hs' => ?_
  show wpAny _ _ (Builtin.Dict.addKeywords s.heap.objs.size [] >>= _) _ _ _
  refine wpAny_bind (wpAny_pure (wpAny_pure ⟨rfl, h h' hd' fun b u e => ?_⟩))
  exact (hs'.2 b (Nat.ne_of_lt (Heap.lt_size e))).trans (Heap.get?_push_of_some _ e)
end
section
variable {X : Cx}
end
end LwD

namespace LwD
open PySem PySem.Spec PyProof.Rows L2 Lw
noncomputable def allT : Nat → Nat → List (List Int)
  | 0, _ => [[]]
  | m + 1, s => (List.range (s + 1)).flatMap fun i => (allT m (s - i)).map fun r => (i : Int) :: r
theorem allT_mem : ∀ (m s : Nat) (ns : List Int), ns.length = m → (∀ n ∈ ns, 0 ≤ n) → ns.sum ≤ s → ns ∈ allT m s
  | 0, _, ns, h, _, _ => by rw [List.length_eq_zero_iff.mp h]; exact List.mem_singleton.mpr rfl
  | m + 1, s, [], h, _, _ => by cases h
  | m + 1, s, n :: r, h, hp, hs => by
    have hn := hp n (List.mem_cons_self ..)
    obtain ⟨i, rfl⟩ := Int.eq_ofNat_of_zero_le hn
    have hr : 0 ≤ r.sum := by
      have : ∀ l : List Int, (∀ x ∈ l, 0 ≤ x) → 0 ≤ l.sum := fun l => by
        induction l with
        | nil => exact fun _ => Int.le_refl _
        | cons a l ih =>
          intro h
          have h1 := h a (List.mem_cons_self ..)
          have h2 := ih fun x hx => h x (List.mem_cons_of_mem _ hx)
          rw [List.sum_cons]; omega
      exact this r fun x hx => hp x (List.mem_cons_of_mem _ hx)
    rw [List.sum_cons] at hs
    have hi : i ≤ s := by omega
    refine List.mem_flatMap.mpr ⟨i, List.mem_range.mpr (by omega), List.mem_map.mpr ⟨r, ?_, rfl⟩⟩
    exact allT_mem m (s - i) r (by simpa using h) (fun x hx => hp x (List.mem_cons_of_mem _ hx)) (by omega)
noncomputable def hT (ns : List Int) : Int := reduceHash (Builtin.Tuple.tupleHashOf (ns.map hashInt))
theorem hT1 : ((allT 1 8).map hT).Nodup := by decide +kernel
theorem hT2 : ((allT 2 8).map hT).Nodup := by decide +kernel
theorem hT3 : ((allT 3 8).map hT).Nodup := by decide +kernel
theorem hT4 : ((allT 4 8).map hT).Nodup := by decide +kernel
structure PwS (many : Nat) (ns : List Int) : Prop where
  len : ns.length = many
  nn : ∀ n ∈ ns, 0 ≤ n
  deg : ns.sum ≤ 8
theorem nodup_inj {α β : Type} {f : α → β} : ∀ {l : List α}, (l.map f).Nodup → ∀ {a b : α}, a ∈ l → b ∈ l → f a = f b → a = b
  | [], _, _, _, h, _, _ => nomatch h
  | x :: r, hn, a, b, ha, hb, e => by
    rw [List.map_cons, List.nodup_cons] at hn
    rcases List.mem_cons.mp ha with ea | ka
    · rcases List.mem_cons.mp hb with eb | kb
      · rw [ea, eb]
      · exact absurd (List.mem_map.mpr ⟨b, kb, by rw [← e, ea]⟩) hn.1
    · rcases List.mem_cons.mp hb with eb | kb
      · exact absurd (List.mem_map.mpr ⟨a, ka, by rw [e, eb]⟩) hn.1
      · exact nodup_inj hn.2 ka kb e
theorem hT_inj {many : Nat} (m1 : 1 ≤ many) (m4 : many ≤ 4) {a b : List Int} (ha : PwS many a) (hb : PwS many b) (e : hT a = hT b) : a = b := by
  have h1 := allT_mem many 8 a ha.len ha.nn ha.deg
  have h2 := allT_mem many 8 b hb.len hb.nn hb.deg
  have : many = 1 ∨ many = 2 ∨ many = 3 ∨ many = 4 := by omega
  rcases this with rfl | rfl | rfl | rfl
  · exact nodup_inj hT1 h1 h2 e
  · exact nodup_inj hT2 h1 h2 e
  · exact nodup_inj hT3 h1 h2 e
  · exact nodup_inj hT4 h1 h2 e
noncomputable def KeyS (many : Nat) (k : List Key) : Prop := ∃ ns, k = ik ns ∧ PwS many ns
theorem hash_ik (P : Program) (w : World) (ns : List Int) : (tkd P w).hash (ik ns) = hT ns := by
  show reduceHash (Builtin.Tuple.tupleHashOf ((ik ns).map (keyH w))) = _
  unfold hT
  congr 2
  show List.map (keyH w) (ns.map Sum.inl) = _
  rw [List.map_map]
  rfl
theorem keyS_inj {P : Program} {w : World} {many : Nat} (m1 : 1 ≤ many) (m4 : many ≤ 4) {k k' : List Key} (h : KeyS many k) (h' : KeyS many k') (e : (tkd P w).hash k = (tkd P w).hash k') : k = k' := by
  obtain ⟨ns, rfl, hn⟩ := h
  obtain ⟨ms, rfl, hm⟩ := h'
  rw [hash_ik, hash_ik] at e
  rw [hT_inj m1 m4 hn hm e]
section
variable {X : Cx}
noncomputable def rDictS : List V → Hp → VK → Prop := fun xs H Q => ∃ (a : Addr) (many : Nat) (kvs : List (List Key × V)), xs = [.ref a] ∧ Rd H a (.dT kvs) ∧ 1 ≤ many ∧ many ≤ 4 ∧ (∀ p ∈ kvs, KeyS many p.1) ∧ New H (.dT kvs) Q
theorem call_dictS : CallR X (.type "dict") rDictS := by
  intro pins s σ H xs us Q I r h
  obtain ⟨a, many, kvs, rfl, ha, m1, m4, hn, q⟩ := h
  obtain ⟨u, rfl, ru⟩ := vals1 r
  cases ru
  obtain ⟨z, lo, ks, rel, dd⟩ := dt_rd I.hok ha
  have lz := Paired.length rel
  refine dict_copy lo dd ?_ (by omega) fun h' D kk => ?_
  · have e := KTkeys rel
    obtain ⟨_, _, _, _, _, _, _, _, nd⟩ := id dd
    have sm : ∀ x ∈ ks.map (·.1), KeyS many x := fun x hx => by
      rw [← e] at hx
      obtain ⟨p, hp, rfl⟩ := List.mem_map.mp hx
      exact hn p hp
    have : (ks.map fun x => (tkd X.prog X.w).hash x.1) = (ks.map (·.1)).map fun k => (tkd X.prog X.w).hash k := by rw [List.map_map]; rfl
    rw [this]
    generalize ks.map (·.1) = l at nd sm
    refine List.pairwise_map.mpr (List.Pairwise.imp_of_mem (fun {a b} ha hb hab hs => hab (keyS_inj m1 m4 (sm a ha) (sm b hb) hs)) nd)
  · obtain ⟨ob, es, ep, g1, g2, g3, g4, _, g5⟩ := D
    refine ⟨.ref s.heap.objs.size, _, I.laid (a := s.heap.objs.size) (o := .dT kvs) (t' := s.toks) kk (Nat.le_refl _) ⟨by omega, beq_eq_false_iff_ne.mpr (Ne.symm (Nat.ne_of_lt I.big)), ks, (KT.keeps rel fun c ys e => ?_), ob, es, ep, g1, g2, g3, g4, g5⟩, rfl, q.at (I.hok.fresh (Nat.le_refl _))⟩
    rw [upd_ne (fun z => by rw [z, I.hok.fresh (Nat.le_refl _)] at e; cases e)]
    exact e
end
end LwD

namespace LwD
open PySem PySem.Spec PyProof.Rows L2 Lw
section
variable {prog : Program} {w : World} {A : Around} {E : Value → Shared → Prop} {s : Shared}
theorem set_hashed {d a : Addr} {xs : List (List Key × Addr × Value)} {k : List Key} {v : Value} {Q : Unit → Shared → Prop} (hu : (tkd prog w).room A) (ky : (tkd prog w).is s.heap k a) (D : s.heap.DictOfH (tkd prog w) d xs) (z : xs.length ≤ sizeLine)
    (q : ∀ h', h'.DictOfH (tkd prog w) d (storedH xs k a v) → Heap.SameBut d s.heap h' → Q () { s with heap := h' }) : wpAny (model prog w) A (dictSetHashed d (.ref a) ((tkd prog w).hash k) v) Q E s := by
  obtain ⟨o, es, ep, ho, hc, hd, he, his, hn⟩ := D
  have hes := size_of_entries he
  unfold dictSetHashed
  refine wpAny_holding (wpAny_bind (wpAny_dictFind_heap hu ky ho hd he his hn (fun no => ?_) fun j p hj => ?_))
  · have out := not_mem_keys_of_get no
    have enew := storedH_new (a := a) (v := v) (atKey_none_of_get no)
    refine wpAny_bind (wpAny_rule (wpAny_updateDictKeys (hz := by omega) ho hd (q _ ?_ (Heap.SameBut.update ..))))
    refine ⟨_, _, ep + 1, Heap.get?_update_self _ ho (Obj.isFreed_of_dict (Obj.data_mapDictKeys hd _)), hc.mapDictKeys _, Obj.data_mapDictKeys hd _, ?_, ?_, ?_⟩ <;> rw [enew]
    · simp [he, entryOfKey]
    · intro x hx
      rcases List.mem_append.mp hx with hx | hx
      · exact (tkd prog w).keeps (his x hx) ho hd (Heap.SameBut.update ..)
      · rw [List.mem_singleton.mp hx]
        exact (tkd prog w).keeps ky ho hd (Heap.SameBut.update ..)
    · rw [List.map_append, List.nodup_append]
      refine ⟨hn, by simp, fun x hx y hy e => out ?_⟩
      rw [show y = k by simpa using hy] at e
      exact e ▸ hx
  · have eold := storedH_old (a := a) (v := v) (atKey_of_get hn hj)
    refine wpAny_bind (wpAny_rule (wpAny_bind (wpAny_updateDict ho hd (wpAny_point (q _ ?_ (Heap.SameBut.update ..))))))
    refine ⟨_, _, ep, Heap.get?_update_self _ ho (Obj.isFreed_of_dict (Obj.data_mapDict hd _)), hc.mapDict _, Obj.data_mapDict hd _, ?_, ?_, ?_⟩ <;> rw [eold]
    · have := modify_map_putAt (entryOfKey (tkd prog w)) (fun e : DictEntry => { e with val := v }) k v (fun _ _ => rfl) hn hj
      rw [← he] at this
      obtain ⟨l⟩ := es
      simpa using this
    · intro x hx
      obtain ⟨y, hy, rfl⟩ := List.mem_map.mp hx
      unfold putAt
      split <;> exact (tkd prog w).keeps (his y hy) ho hd (Heap.SameBut.update ..)
    · rw [keys_map_putAt]
      exact hn
theorem puts_snoc (xs : List (List Key × Addr × Value)) (ys : List (List Key × Addr × Value)) (y : List Key × Addr × Value) : puts xs (ys ++ [y]) = storedH (puts xs ys) y.1 y.2.1 y.2.2 := by
  unfold puts
  rw [List.foldl_append]
  rfl
theorem puts_len : ∀ (ys xs : List (List Key × Addr × Value)), (puts xs ys).length ≤ xs.length + ys.length
  | [], _ => Nat.le_refl _
  | y :: ys, xs => by
    have h1 := puts_len ys (storedH xs y.1 y.2.1 y.2.2)
    have h2 := stored_len xs y.1 y.2.1 y.2.2
    rw [List.length_cons]
    show (puts (storedH xs y.1 y.2.1 y.2.2) ys).length ≤ _
    omega
theorem merge_more {nm : String} {d o : Addr} {xs ys : List (List Key × Addr × Value)} {Q : Unit → Shared → Prop} (hu : (tkd prog w).room A) (hdo : d ≠ o) (hoS : (o == sysModules) = false) (hd : s.heap.DictOfH (tkd prog w) d xs) (ho : s.heap.DictOfH (tkd prog w) o ys)
    (hne : xs ≠ []) (hz : xs.length + ys.length ≤ sizeLine) (hQ : ∀ h', h'.DictOfH (tkd prog w) d (puts xs ys) → Heap.SameBut d s.heap h' → Q () { s with heap := h' }) : wpAny (model prog w) A (Builtin.Dict.mergeDict nm d o) Q E s := by
  obtain ⟨od, esd, epd, hod, hcd, hdd, hed, hid, hnd⟩ := id hd
  obtain ⟨oo, eso, epo, hoo, hco, hdo', heo, hio, hno⟩ := id ho
  have lz : eso.size = ys.length := size_of_entries heo
  have lx : esd.size = xs.length := size_of_entries hed
  unfold Builtin.Dict.mergeDict
  rw [if_neg (by simpa using hdo)]
  unfold Builtin.Dict.showsAll
  rw [if_neg (by rw [hoS]; exact Bool.false_ne_true)]
  refine wpAny_bind (wpAny_pure (wpAny_bind (wpAny_dictEntries hoo hdo' ?_)))
  dsimp only
  by_cases he : ys = []
  · subst he
    have e0 : eso = #[] := by simpa using heo
    subst e0
    rw [if_neg (by simp)]
    refine wpAny_bind (wpAny_dictEpoch hoo hdo' (wpAny_bind (wpAny_dictEntries hoo hdo' (wpAny_bind ?_))))
    rw [Std.Legacy.Range.forIn_eq_forIn_range']
    exact wpAny_pure (wpAny_pure (hQ s.heap hd (Heap.SameBut.refl _ _)))
  · have few : (decide (eso.size ≤ 8) && eso.all fun e => (keyPart e.key).isSome) = false := by
      obtain ⟨x, r, rfl⟩ : ∃ x r, ys = x :: r := by cases ys with | nil => exact absurd rfl he | cons x r => exact ⟨x, r, rfl⟩
      have : eso.all (fun e => (keyPart e.key).isSome) = false := by
        rw [← Array.all_toList, heo]
        rfl
      rw [this, Bool.and_false]
    rw [few, if_pos (by decide)]
    refine wpAny_bind (wpAny_dictEntries hod hdd ?_)
    have ne : esd.isEmpty = false := by
      cases q : esd.isEmpty with
      | false => rfl
      | true =>
        rw [Array.isEmpty_iff] at q
        exact absurd (List.length_eq_zero_iff.mp (by rw [← lx, q]; rfl)) hne
    rw [ne, if_neg Bool.false_ne_true]
    refine wpAny_bind (wpAny_dictEpoch hoo hdo' (wpAny_bind (wpAny_dictEntries hoo hdo' (wpAny_bind ?_))))
    rw [Std.Legacy.Range.forIn_eq_forIn_range']
    simp only [Std.Legacy.Range.size, Nat.sub_zero, Nat.add_sub_cancel, Nat.div_one]
    refine wpAny_forIn_list _ (fun rest _ s' => ∃ h' i, s' = { s with heap := h' } ∧ rest = List.range' i (eso.size - i) ∧ i ≤ eso.size ∧ h'.DictOfH (tkd prog w) d (puts xs (ys.take i)) ∧ h'.get? o = some oo ∧ Heap.SameBut d s.heap h')
      _ ?_ ?_ _ _ ⟨s.heap, 0, rfl, by simp, Nat.zero_le _, hd, hoo, Heap.SameBut.refl _ _⟩
    · rintro x rest b s' ⟨h', i, rfl, hr, hi, hd', hoo', hs'⟩
      have hlt : i < eso.size := by
        by_cases z : i < eso.size
        · exact z
        · rw [Nat.sub_eq_zero_of_le (by omega)] at hr; simp at hr
      obtain ⟨rfl, hrest⟩ : x = i ∧ rest = List.range' (i + 1) (eso.size - (i + 1)) := by
        rw [show eso.size - i = (eso.size - (i + 1)) + 1 by omega, List.range'_succ] at hr
        injection hr with h1 h2
        exact ⟨h1, h2⟩
      refine wpAny_bind (wpAny_dictEntries hoo' hdo' ?_)
      obtain ⟨y, hy⟩ : ∃ y, ys[x]? = some y := ⟨ys[x]'(by omega), List.getElem?_eq_getElem _⟩
      have ee : eso[x]? = some (entryOfKey (tkd prog w) y) := by
        rw [← Array.getElem?_toList, heo, List.getElem?_map, hy]
        rfl
      rw [ee]
      have lm := puts_len (ys.take x) xs
      rw [List.length_take] at lm
      have ky := hio y (List.mem_of_getElem? hy)
      have ky' : (tkd prog w).is h' y.1 y.2.1 := (tkd prog w).keeps ky hod hdd hs'
      refine wpAny_bind (wpAny_holding (set_hashed hu ky' hd' (by omega) fun h'' hd'' hs'' => ?_))
      have hoo'' : h''.get? o = some oo := (hs''.2 o (Ne.symm hdo)).trans hoo'
      refine wpAny_bind (wpAny_dictEpoch hoo'' hdo' ?_)
      rw [if_neg (by simp)]
      refine wpAny_pure ⟨h'', x + 1, rfl, hrest, hlt, ?_, hoo'', hs'.trans hs''⟩
      rw [List.take_add_one, hy]
      exact puts_snoc xs (ys.take x) y ▸ hd''
    · rintro b s' ⟨h', i, rfl, hr, hi, hd', hoo', hs'⟩
      have hin : i = eso.size := by
        by_cases z : i < eso.size
        · rw [show eso.size - i = (eso.size - (i + 1)) + 1 by omega, List.range'_succ] at hr
          exact nomatch hr
        · omega
      refine wpAny_pure (hQ h' ?_ hs')
      rw [hin, lz, List.take_length] at hd'
      exact hd'
theorem dict_update {d o : Addr} {xs ys : List (List Key × Addr × Value)} {Q : Value → Shared → Prop} (hu : (tkd prog w).room A.in1) (hdo : d ≠ o) (hoS : (o == sysModules) = false) (hd : s.heap.DictOfH (tkd prog w) d xs) (ho : s.heap.DictOfH (tkd prog w) o ys)
    (hh : xs = [] → (ys.map fun x => (tkd prog w).hash x.1).Nodup) (hz : xs.length + ys.length ≤ sizeLine) (hQ : ∀ h', h'.DictOfH (tkd prog w) d (puts xs ys) → Heap.SameBut d s.heap h' → Q .none { s with heap := h' }) :
    wpAny (model prog w) A (call (.builtin "dict.update") [.ref d, .ref o]) Q E s := by
  have ty : ∀ {a : Addr} {zs : List (List Key × Addr × Value)}, s.heap.DictOfH (tkd prog w) a zs → s.TypeIs (.ref a) "dict" := fun D => let ⟨q, _, _, g1, g2, _⟩ := D; ⟨q, g1, g2.1⟩
  refine wpAny_call_entry F.slot_dict_update (ty hd) F.entry_dict_update ?_ (F.args_dict_update_2 _ _)
  unfold Builtin.«dict.update»
  refine wpAny_bind ?_
  unfold Builtin.Dict.selfAndRest
  refine wpAny_bind (wpAny_notOrdered_dict (ty hd) ?_)
  show wpAny _ _ (pure (d, [Value.ref o])) _ _ _
  refine wpAny_pure ?_
  show wpAny _ _ (Builtin.Dict.updateFrom "dict.update" d (.ref o) [] .none) _ _ _
  unfold Builtin.Dict.updateFrom
  refine wpAny_bind (wpAny_typeOf (ty ho) ?_)
  rw [if_neg (by decide)]
  refine wpAny_bind ?_
  unfold Builtin.Dict.merge
  refine wpAny_bind ?_
  unfold Builtin.Dict.readDirectly
  refine wpAny_bind (wpAny_isInstance (ty ho) isSubtype_dict_dict ?_)
  simp only [Bool.not_true, Bool.false_eq_true, if_false]
  refine wpAny_bind (wpAny_specialOf (ty ho) F.slot_dict_iter.lookup (wpAny_pure ?_))
  simp only [beq_self_eq_true, if_true]
  refine wpAny_bind (wpAny_pure ?_)
  have fin : ∀ h', h'.DictOfH (tkd prog w) d (puts xs ys) → Heap.SameBut d s.heap h' → wpAny (model prog w) A.in1 (Builtin.Dict.addKeywords d [] >>= fun _ => ret .none) (fun fin s' => ∃ v, fin = Fin.done (Flow.ret v) ∧ Q v s') E { s with heap := h' } := fun h' D k =>
    wpAny_bind (wpAny_pure (wpAny_pure ⟨.none, rfl, hQ h' D k⟩))
  by_cases he : xs = []
  · subst he
    refine merge_copy hdo hoS hd ho (hh rfl) (by simpa using hz) fun h' D k => fin h' ?_ k
    obtain ⟨_, _, _, _, _, _, _, _, hn⟩ := id ho
    rw [puts_new ys [] (by simpa using hn)]
    exact D
  · exact merge_more hu hdo hoS hd ho he hz fun h' D k => fin h' D k
end
noncomputable def putAll (kvs more : List (List Key × V)) : List (List Key × V) := more.foldl (fun acc p => putK acc p.1 p.2) kvs
theorem KT_puts {H : Hp} : ∀ {more : List (List Key × V)} {ys : List (List Key × Addr × Value)} {kvs : List (List Key × V)} {xs : List (List Key × Addr × Value)}, KT H more ys → KT H kvs xs → KT H (putAll kvs more) (puts xs ys)
  | _, _, _, _, .nil, r => r
  | _, _, kvs, xs, .cons (a := p) (b := y) h t, r => by
    obtain ⟨e1, e2, e3⟩ := h
    have h1 := KT.put r p.1 (b := y.2.1) e2 e3
    have h2 := KT_puts t h1
    rw [e1] at h2
    show KT H (putAll (putK kvs p.1 p.2) _) (puts (storedH xs y.1 y.2.1 y.2.2) _)
    rw [e1]
    exact h2
section
variable {X : Cx}
noncomputable def rUpd : V → List V → Hp → VK → Prop := fun x xs H Q => ∃ (a b : Addr) (many : Nat) (kvs more : List (List Key × V)), x = .ref a ∧ xs = [.ref b] ∧ H a = some (.dT kvs) ∧ Rd H b (.dT more) ∧ a ≠ b ∧ 1 ≤ many ∧ many ≤ 4 ∧ (∀ p ∈ more, KeyS many p.1) ∧ kvs.length + more.length ≤ sizeLine ∧ Q .non (upd H a (.dT (putAll kvs more)))
theorem mt_update (hu : X.A.units + 1 < cLine) : MtR X "dict.update" rUpd := by
  intro pins s σ H x xs v us Q I rx rs q
  obtain ⟨a, b, many, kvs, more, rfl, rfl, ha, hb, hab, m1, m4, hk, hz, q⟩ := q
  cases rx
  obtain ⟨u, rfl, ru⟩ := vals1 rs
  cases ru
  obtain ⟨za, la, xs, rel, dd⟩ := dt_of I.hok ha
  obtain ⟨zb, lb, ys, relb, db⟩ := dt_rd I.hok hb
  have l1 := Paired.length rel
  have l2 := Paired.length relb
  refine dict_update (tupleKind_room_in1 hu) hab lb dd db (fun _ => ?_) (by omega) fun h' D hs => ?_
  · have e := KTkeys relb
    obtain ⟨_, _, _, _, _, _, _, _, nd⟩ := id db
    have sm : ∀ x ∈ ys.map (·.1), KeyS many x := fun x hx => by
      rw [← e] at hx
      obtain ⟨p, hp, rfl⟩ := List.mem_map.mp hx
      exact hk p hp
    have : (ys.map fun x => (tkd X.prog X.w).hash x.1) = (ys.map (·.1)).map fun k => (tkd X.prog X.w).hash k := by rw [List.map_map]; rfl
    rw [this]
    generalize ys.map (·.1) = l at nd sm
    exact List.pairwise_map.mpr (List.Pairwise.imp_of_mem (fun {a b} ha hb hab hs => hab (keyS_inj m1 m4 (sm a ha) (sm b hb) hs)) nd)
  · obtain ⟨ob, es, ep, g1, g2, g3, g4, g6, g5⟩ := D
    have rl := KT_puts relb rel
    have ll := puts_len ys xs
    have lr := Paired.length rl
    refine ⟨.non, _, d_write (ob := .dT (putAll kvs more)) (t' := s.toks) I (by rw [ha]; exact True.intro) hs ⟨ob, g1⟩ ⟨by omega, la, _, rl.keeps fun c zs ec => ?_, ob, es, ep, g1, g2, g3, g4, g5⟩, rfl, q⟩
    rw [upd_ne (ne_of ec ha (fun z => nomatch z))]
    exact ec
end
end LwD

namespace LwD
open PySem PySem.Spec PyProof.Rows L2 Lw
section
variable {prog : Program} {w : World} {A : Around} {E : Value → Shared → Prop} {s : Shared} {d it : Addr} {es : Array DictEntry} {ep i : Nat}
theorem raw_view {Q : Value → Shared → Prop} (lo : (d == sysModules) = false) (r : Raw s.heap d es ep) (q : Q (.ref s.heap.objs.size) { s with heap := s.heap.push { cls := .type "dict_items", data := .fields #[.ref d] } }) : wpAny (model prog w) A (call (.builtin "dict.items") [.ref d]) Q E s := by
  refine wpAny_call_entry PySem.F.slot_dict_items r.ty PySem.F.entry_dict_items ?_ (PySem.F.args_dict_items_1 _)
  unfold Builtin.«dict.items» Builtin.Dict.noArgs Builtin.Dict.showsAll
  refine wpAny_bind (wpAny_bind (wpAny_notOrdered_dict r.ty (show wpAny _ _ (pure d) _ _ s from wpAny_pure ?_)))
  show wpAny _ _ ((if (d == sysModules) = true then _ else _) >>= _) _ _ s
  rw [if_neg (by rw [lo]; exact Bool.false_ne_true)]
  exact wpAny_bind (wpAny_pure (wpAny_bind (wpAny_newObj_type (wpAny_pure ⟨_, rfl, q⟩))))
theorem raw_iterI {v : Addr} {Q : Value → Shared → Prop} (hv : s.heap.IsItemsView v d) (r : Raw s.heap d es ep)
    (q : Q (.ref s.heap.objs.size) { s with heap := s.heap.push { cls := .type "dict_itemiterator", data := .fields #[.none, .bool false, .ref d, .int 0 0, .int es.size 0, .int ep 0, .none, .none] } }) : wpAny (model prog w) A (pyIter (.ref v)) Q E s := by
  obtain ⟨ov, hov, hcv, hdv⟩ := id hv
  obtain ⟨o, ho, hc, hdat⟩ := id r
  refine wpAny_pyIter_slot hv.typeIs PySem.F.slot_dict_items_iter (wpAny_call_entry PySem.F.slot_dict_items_iter hv.typeIs PySem.F.entry_dict_items_iter ?_ (PySem.F.args_dict_items_iter_1 _))
  unfold Builtin.«dict_items.__iter__» Builtin.Dict_items.dictOf Builtin.Dict_items.newIterator
  refine wpAny_bind (wpAny_pure (wpAny_bind (wpAny_bind (wpAny_field hov hdv (x := .ref d) rfl (wpAny_pure (wpAny_bind ?_))))))
  refine wpAny_bind (wpAny_dictEntries ho hdat (wpAny_bind (wpAny_dictEpoch ho hdat ?_)))
  simp only [show Builtin.Dict_items.ownsTuple "dict_itemiterator" = true by decide, if_true]
  refine wpAny_newObj_type (wpAny_pure ⟨_, rfl, "dict_itemiterator", _, ⟨_, Heap.get?_push_size _ rfl, rfl⟩, PySem.F.slot_dict_itemiterator_next.lookup, ?_⟩)
    (by simp only [sizeOk, Builtin.Dict_items.ownedTupleFields, List.size_toArray, List.length_append, List.length_cons, List.length_nil, sizeLine_eq]; omega)
  simpa [rawInt, Builtin.Dict_items.ownedTupleFields] using q
theorem raw_nextI {ok ov : Value} {Q : Option Value → Shared → Prop} (k : IsItemIter s.heap it d i es.size ep ok ov) (r : Raw s.heap d es ep) (hi : i < es.size)
    (q : ∀ h', IsItemIterOut h' it d (i + 1) es.size ep es[i].key es[i].val s.heap.objs.size → h'.get? s.heap.objs.size = some { cls := .type "tuple", data := .seq #[es[i].key, es[i].val] } →
      (∀ b o, b ≠ it → s.heap.get? b = some o → h'.get? b = some o) → Q (some (.ref s.heap.objs.size)) { s with heap := h' }) : wpAny (model prog w) A (pyNext (.ref it)) Q E s := by
  obtain ⟨hp, g, dr, tk, os⟩ := s
  obtain ⟨od, hod, hcd, hdd⟩ := id r
  have ty : Shared.TypeIs ⟨hp, g, dr, tk, os⟩ (.ref it) "dict_itemiterator" := ⟨_, k, rfl⟩
  unfold pyNext
  refine wpAny_bind (wpAny_attempt (wpAny_callSpecial?_slot (name := Str.ofString "__next__") ty PySem.F.slot_dict_itemiterator_next (wpAny_call_entry PySem.F.slot_dict_itemiterator_next ty PySem.F.entry_dict_itemiterator_next ?_ (PySem.F.args_dict_itemiterator_next_1 _))))
  refine wpAny_bind (wpAny_pure (wpAny_bind (wpAny_bind ?_)))
  first | refine wpAny_bind (wpAny_typeNameOfWhole_itemiter ty (wpAny_pure ?_)) | refine wpAny_bind (wpAny_typeNameOf_itemiter ty (wpAny_pure ?_))
  refine wpAny_bind (wpAny_fieldsOf k rfl ?_)
  simp only [show Builtin.Dict_items.ownsTuple "dict_itemiterator" = true by decide, if_true]
  show wpAny _ _ (if (Value.ref d == Value.none) = true then _ else _) _ _ _
  rw [if_neg (show ¬ ((Value.ref d == Value.none) = true) from Bool.false_ne_true)]
  refine wpAny_bind (wpAny_pure (wpAny_bind (wpAny_dictEntries hod hdd ?_)))
  rw [if_neg (by simp)]
  refine wpAny_bind (wpAny_pure (wpAny_bind (wpAny_dictEpoch hod hdd ?_)))
  rw [if_neg (by simp)]
  refine wpAny_pure ?_
  simp only [show ¬ ((i : Int) < 0) from by omega, if_false, Int.toNat_natCast, Array.getElem?_eq_getElem hi]
  refine wpAny_bind ?_
  first | refine wpAny_bind (wpAny_typeNameOfWhole_itemiter ty (wpAny_pure ?_)) | refine wpAny_bind (wpAny_typeNameOf_itemiter ty (wpAny_pure ?_))
  refine wpAny_bind (wpAny_isOneOf_itemiter ty ?_)
  show wpAny _ _ (setField (.ref it) 3 (rawInt ((i : Int) + 1)) >>= _) _ _ ⟨hp, g, dr, tk, os⟩
  refine wpAny_bind (wpAny_setField_rec k (by simp) fun h1 k1 b1 => ?_)
  replace b1 : Heap.SameBut it hp h1 := b1
  replace k1 : IsItemIter h1 it d (i + 1) es.size ep ok ov := by
    unfold IsItemIter
    rw [show ((i + 1 : Nat) : Int) = (i : Int) + 1 by omega]
    simpa [rawInt] using k1
  have ty1 : Shared.TypeIs ⟨h1, g, dr, tk, os⟩ (.ref it) "dict_itemiterator" := ⟨_, k1, rfl⟩
  refine wpAny_bind (wpAny_holding (wpAny_bind (wpAny_isOneOf_itemiter ty1 (wpAny_bind (wpAny_isOneOf_itemiter ty1 ?_)))))
  show wpAny _ _ (Builtin.Dict_items.pairFromOwner (.ref it) 6 es[i].key es[i].val) _ _ ⟨h1, g, dr, tk, os⟩
  unfold Builtin.Dict_items.pairFromOwner
  refine wpAny_bind (wpAny_newTuple ?_)
  have lt : it < hp.objs.size := Heap.lt_size k
  have sz : h1.objs.size = hp.objs.size := b1.1
  have k2 : IsItemIter (h1.push { cls := .type "tuple", data := .seq #[es[i].key, es[i].val] }) it d (i + 1) es.size ep ok ov := Heap.get?_push_of_some _ k1
  have t2 : (h1.push { cls := .type "tuple", data := .seq #[es[i].key, es[i].val] }).get? hp.objs.size = some { cls := .type "tuple", data := .seq #[es[i].key, es[i].val] } := by rw [← sz]; exact Heap.get?_push_size _ rfl
  have o2 : ∀ b o, b ≠ it → hp.get? b = some o → (h1.push { cls := .type "tuple", data := .seq #[es[i].key, es[i].val] }).get? b = some o := fun b o hb e => Heap.get?_push_of_some _ (b1.extBut b o hb e)
  show wpAny _ _ (Builtin.Dict_items.ownedTupleIsFree (.ref it) >>= _) _ _ ⟨h1.push { cls := .type "tuple", data := .seq #[es[i].key, es[i].val] }, g, dr, tk, os⟩
  rw [sz]
  generalize h1.push { cls := .type "tuple", data := .seq #[es[i].key, es[i].val] } = h2 at k2 t2 o2
  refine wpAny_bind ?_
  unfold Builtin.Dict_items.ownedTupleIsFree
  refine wpAny_bind (wpAny_field k2 rfl (x := .none) rfl (wpAny_pure ?_))
  simp only [if_true]
  refine wpAny_bind (wpAny_field k2 rfl (x := ok) rfl (wpAny_bind (wpAny_field k2 rfl (x := ov) rfl ?_)))
  refine wpAny_bind (wpAny_setField_rec k2 (by simp) fun h3 k3 b3 => ?_)
  replace k3 : IsItemIter h3 it d (i + 1) es.size ep es[i].key ov := k3
  refine wpAny_bind (wpAny_setField_rec k3 (by simp) fun h4 k4 b4 => ?_)
  replace k4 : IsItemIter h4 it d (i + 1) es.size ep es[i].key es[i].val := k4
  refine wpAny_bind (wpAny_setField_rec k4 (by simp) fun h5 k5 b5 => ?_)
  replace k5 : IsItemIterOut h5 it d (i + 1) es.size ep es[i].key es[i].val hp.objs.size := k5
  refine wpAny_bind (wpAny_setField_rec k5 (by simp) fun h6 k6 b6 => ?_)
  replace k6 : IsItemIterOut h6 it d (i + 1) es.size ep es[i].key es[i].val hp.objs.size := k6
  have up : ∀ b o, b ≠ it → h2.get? b = some o → h6.get? b = some o := fun b o hb e => b6.extBut b o hb (b5.extBut b o hb (b4.extBut b o hb (b3.extBut b o hb e)))
  exact wpAny_bind (wpAny_letGo (wpAny_pure (wpAny_pure ⟨_, rfl, wpAny_pure (q h6 k6 (up _ _ (Nat.ne_of_gt lt) t2) fun b o hb e => up b o hb (o2 b o hb e))⟩)))
theorem raw_endI {ok ov : Value} {Q : Option Value → Shared → Prop} (hh : A.handled = none) (k : IsItemIter s.heap it d es.size es.size ep ok ov) (r : Raw s.heap d es ep) (q : ∀ h', Heap.ExtBut it s.heap h' → Q none { s with heap := h' }) : wpAny (model prog w) A (pyNext (.ref it)) Q E s := by
  obtain ⟨od, hod, hcd, hdd⟩ := id r
  have ty : s.TypeIs (.ref it) "dict_itemiterator" := ⟨_, k, rfl⟩
  unfold pyNext
  refine wpAny_bind (wpAny_attempt (wpAny_callSpecial?_slot (name := Str.ofString "__next__") ty PySem.F.slot_dict_itemiterator_next (wpAny_call_entry PySem.F.slot_dict_itemiterator_next ty PySem.F.entry_dict_itemiterator_next ?_ (PySem.F.args_dict_itemiterator_next_1 _))))
  refine wpAny_bind (wpAny_pure (wpAny_bind (wpAny_bind ?_)))
  first | refine wpAny_bind (wpAny_typeNameOfWhole_itemiter ty (wpAny_pure ?_)) | refine wpAny_bind (wpAny_typeNameOf_itemiter ty (wpAny_pure ?_))
  refine wpAny_bind (wpAny_fieldsOf k rfl ?_)
  simp only [show Builtin.Dict_items.ownsTuple "dict_itemiterator" = true by decide, if_true]
  show wpAny _ _ (if (Value.ref d == Value.none) = true then _ else _) _ _ s
  rw [if_neg (show ¬ ((Value.ref d == Value.none) = true) from Bool.false_ne_true)]
  refine wpAny_bind (wpAny_pure (wpAny_bind (wpAny_dictEntries hod hdd ?_)))
  rw [if_neg (by simp)]
  refine wpAny_bind (wpAny_pure (wpAny_bind (wpAny_dictEpoch hod hdd ?_)))
  rw [if_neg (by simp)]
  refine wpAny_pure ?_
  simp only [show ¬ ((es.size : Int) < 0) from by omega, if_false, Int.toNat_natCast, Array.getElem?_eq_none (Nat.le_refl es.size)]
  refine wpAny_bind ?_
  first | refine wpAny_bind (wpAny_typeNameOfWhole_itemiter ty (wpAny_pure ?_)) | refine wpAny_bind (wpAny_typeNameOf_itemiter ty (wpAny_pure ?_))
  show wpAny _ _ (setField (.ref it) 2 .none >>= _) _ _ s
  refine wpAny_bind (wpAny_setField k rfl (by simp) ?_)
  show wpAny _ _ (newExc (.type "StopIteration") [] >>= _) _ _ _
  refine wpAny_bind ?_
  simp only [newExc, newTuple]
  refine wpAny_bind (wpAny_newObj_type ?_ (by size_fits))
  refine wpAny_bind (m := firstArgMember _ _) (wpAny_of_eq (a := Value.none) (by first | rfl | (simp only [firstArgMember]; rfl)) ?_)
  refine wpAny_newObj_type ?_ (by size_fits)
  simp only [raiseNew]
  refine wpAny_bind (wpAny_handled ?_)
  rw [show A.in1.handled = none from hh]
  refine wpAny_bind (wpAny_pure (wpAny_throw ?_))
  refine wpAny_bind (wpAny_isInstance (T := "StopIteration") (b := true) ⟨_, Heap.get?_push_size _ rfl, rfl⟩ isSubtype_stop ?_)
  exact wpAny_pure (q _ (((Heap.SameBut.update ..).extBut.push _).push _))
end
theorem entry_itI : entryFor table "dict_itemiterator.__iter__" = some Builtin.«dict_keyiterator.__iter__» :=  entryFor_alias (id' := "dict_keyiterator.__iter__") (by kernel_rfl) rfl (by decide +kernel) (by kernel_rfl)
theorem iter_items {prog : Program} {w : World} {A : Around} {E : Value → Shared → Prop} {s : Shared} {it d : Addr} {i n ep : Nat} {ok ov : Value} {Q : Value → Shared → Prop} (k : IsItemIter s.heap it d i n ep ok ov) (h : Q (.ref it) s) : wpAny (model prog w) A (pyIter (.ref it)) Q E s := by
  have ty : s.TypeIs (.ref it) "dict_itemiterator" := ⟨_, k, rfl⟩
  refine wpAny_pyIter_slot ty PySem.F.slot_dict_itemiterator_iter (wpAny_call_entry PySem.F.slot_dict_itemiterator_iter ty entry_itI ?_ (PySem.F.args_dict_itemiterator_iter_1 _))
  show wpAny _ _ (ret (.ref it)) _ _ s
  exact wpAny_pure ⟨_, rfl, "dict_itemiterator", _, ty, PySem.F.slot_dict_itemiterator_next.lookup, h⟩
theorem KTgetV {H : Hp} : ∀ {kvs : List (List Key × V)} {xs : List (List Key × Addr × Value)}, KT H kvs xs → ∀ {j : Nat} {q : List Key × Addr × Value}, xs[j]? = some q → ∃ v, kvs[j]? = some (q.1, v) ∧ H q.2.1 = some (.tup (q.1.map kV)) ∧ RelV v q.2.2
  | _, _, .nil, j, q, e => by simp at e
  | _, _, .cons (a := p) (b := y) h t, 0, q, e => by
    cases Option.some.inj e
    obtain ⟨e1, e2, e3⟩ := h
    exact ⟨p.2, by rw [← e1]; rfl, by rw [← e1]; exact e2, e3⟩
  | _, _, .cons h t, j + 1, q, e => KTgetV t (j := j) e
noncomputable def Iti (d : Addr) (o : Obj) (kvs : List (List Key × V)) (ys : List V) : It :=
  ⟨fun i H => H d = some (.frz o (.dT kvs)) ∧ i < kvs.length, fun i H x H' => ∃ p k v, H p = none ∧ x = .ref p ∧ H' = upd H p (.tup [k, v.2]) ∧ ys[i]? = some k ∧ kvs[i]? = some v, fun i H => H d = some (.frz o (.dT kvs)) ∧ i = kvs.length⟩
theorem turn_items {P : Program} {w : World} {K : PySem.W.Frag} {ts : List Expr} {x1} {tpos : Pos} (d it : Addr) {o : Obj} {es : Array DictEntry} {ep : Nat} {kvs : List (List Key × V)} {ys : List V} (xo : o.ExactDict) (ho : o.data = .dict es ep)
    (hy : ∀ (i : Nat) (h : i < es.size), ∃ b v, es[i].key = .ref b ∧ ys[i]? = some (.ref b) ∧ kvs[i]? = some v ∧ RelV v.2 es[i].val) (hl : kvs.length = es.size) : Turn P w K (.Tuple ts x1 tpos) (Iti d o kvs ys) [it] it (fun i h => ∃ ok ov, IsItemIter h it d i es.size ep ok ov) where
  mem := by simp
  obj := fun i h st b hb => by
    have e : b = it := by simpa using hb
    subst e
    obtain ⟨ok, ov, st⟩ := st
    exact ⟨_, st, fun v z => by cases (show Data.fields _ = Data.cell v from z)⟩
  keep := fun i h h' st k => let ⟨ok, ov, st⟩ := st; ⟨ok, ov, k it (by simp) _ st⟩
  item := by
    intro X hP hw hK hc i pins s σ H E I hf st hg
    subst hP hw hK
    obtain ⟨hd, hi⟩ := hg
    obtain ⟨ok, ov, st⟩ := st
    have raw : Raw s.heap d es ep := ⟨o, (I.hok d _ hd).1, xo, ho⟩
    obtain ⟨b, v, eb, yb, kb, rv⟩ := hy i (by omega)
    have lt : it ≠ s.heap.objs.size := Nat.ne_of_lt (Heap.lt_size st)
    refine raw_nextI st raw (by omega) fun h' out tup old => ⟨_, rfl, wpAny_letOwnedTupleGo_items out fun h2 k2 sb => ?_⟩
    have fr : H s.heap.objs.size = none := I.hok.fresh (Nat.le_refl _)
    have fp : ∀ c ∈ [it], FpOk X pins (upd H s.heap.objs.size (.tup [.ref b, v.2])) c := fun c hc' => by
      have e : c = it := by simpa using hc'
      subst e
      exact ⟨by rw [upd_ne lt]; exact (hf c hc').1, (hf c hc').2⟩
    have I1 : Inv X pins σ (upd H s.heap.objs.size (.tup [.ref b, v.2])) { s with heap := s.heap.push { cls := .type "tuple", data := .seq #[es[i].key, es[i].val] } } := I.laid (t' := s.toks) (fun b u e => Heap.get?_push_of_some _ e) (Nat.le_refl _) ⟨by simp [sizeLine], [es[i].key, es[i].val], .cons (by rw [eb]; rfl) (.cons rv .nil), ⟨_, Heap.get?_push_size _ rfl, rfl, _, rfl⟩⟩
    have I2 : Inv X pins σ (upd H s.heap.objs.size (.tup [.ref b, v.2])) { s with heap := h2 } := by
      refine Inv.turnedL (s := { s with heap := s.heap.push { cls := .type "tuple", data := .seq #[es[i].key, es[i].val] } }) (h' := h2) (t' := s.toks) I1 fp fun c u hb e => ?_
      have cz : c ≠ it := fun z => hb (by simp [z])
      rcases Heap.get?_push_cases e with ⟨e1, e2⟩ | e1
      · rw [e1, e2]
        exact sb.extBut _ _ (Ne.symm lt) tup
      · exact sb.extBut _ _ cz (old c u cz e1)
    exact ⟨.ref s.heap.objs.size, _, I2, rfl, ⟨_, _, v, fr, rfl, rfl, yb, kb⟩, ⟨_, _, k2⟩, fun c hc' => (fp c hc').1⟩
  done := by
    intro X hP hw hK hc i pins s σ H E I hf st hg
    subst hP hw hK
    obtain ⟨hd, hi⟩ := hg
    obtain ⟨ok, ov, st⟩ := st
    have raw : Raw s.heap d es ep := ⟨o, (I.hok d _ hd).1, xo, ho⟩
    obtain ⟨f0, f1, f2, f3, f4, f5⟩ := hf it (by simp)
    rw [hi, hl] at st
    exact raw_endI (I.ok.hd hc) st raw fun h' eb => ⟨rfl, I.turned (t' := s.toks) (fun b o hb e => eb b o hb e) f0 f1 f3 f4 f5⟩
  self := fun _ _ _ _ _ st h => by
    obtain ⟨ok, ov, st⟩ := st
    exact iter_items st h
section
variable {X : Cx}
noncomputable def iItems (te : TE) : TI := fun σ H R => te σ H fun v H1 => ∃ d o kvs, v = .ref d ∧ H1 d = some (.frz o (.dT kvs)) ∧ (∀ p ∈ kvs, ∃ ns : List Int, p.1 = ik ns) ∧ ∀ ys, Keyed H1 ys kvs → R (Iti d o kvs ys) H1
theorem pi_items {ts : List Expr} {x1} {tpos apos cpos : Pos} {l : Expr} {tl : TE} (hl : PE X l tl) (hbase : attributeBase l "items" X.env (eval l X.env) = eval l X.env := by rfl) (hline : (apos.endLine == cpos.line) = true := by rfl) :
    PI X (.Tuple ts x1 tpos) (.Call (.Attribute l "items" apos) [] [] cpos) (iItems tl) := by
  intro pins s σ H R I h
  refine wpAny_Call_method0_late hbase hline (thn (hl pins s σ H _ I h) fun v s1 ⟨x, H1, I1, r1, q1⟩ => ?_)
  obtain ⟨d, o, kvs, rfl, hd, hk, q⟩ := q1
  cases r1
  obtain ⟨go, ob⟩ := I1.hok d _ hd
  obtain ⟨z, lo, ks, rel, o', es, ep, ho, xo, hdat, he, hn⟩ := (show ObjOk X.prog X.w H1 s1.heap d (.dT kvs) from ob)
  rw [go] at ho
  cases ho
  have raw : Raw s1.heap d es ep := ⟨o, go, xo, hdat⟩
  have esz : es.size = kvs.length := by rw [size_of_entries he, ← Paired.length rel]
  have itup : ∀ (j : Nat) (h : j < es.size), ∃ (b : Addr) (ns : List Int) (v : V), es[j].key = .ref b ∧ H1 b = some (.tup (ns.map V.int)) ∧ kvs[j]? = some (ik ns, v) ∧ RelV v es[j].val := fun j hj => by
    have e1 := entry_at he j
    rw [Array.getElem?_eq_getElem hj] at e1
    cases e2 : ks[j]? with
    | none => rw [e2] at e1; cases e1
    | some x =>
      rw [e2] at e1
      have e3 : es[j] = entryOfKey _ x := Option.some.inj e1
      obtain ⟨v, m1, m2, m3⟩ := KTgetV rel e2
      obtain ⟨ns, n1⟩ := hk _ (List.mem_of_getElem? m1)
      dsimp only at n1
      rw [n1] at m1 m2
      rw [ik_map] at m2
      exact ⟨x.2.1, ns, v, by rw [e3]; rfl, m2, m1, by rw [e3]; exact m3⟩
  refine ⟨"dict", "dict.items", PySem.F.plainAttrs_dict, PySem.F.slot_dict_items, PySem.F.type_dict_items, raw.ty, fun a e => ?_, Calls.callWith_builtin rfl (PySem.evalArgs_none (raw_view lo raw ?_))⟩
  · cases e
    exact ⟨o, go, xo.2.1⟩
  have raw2 : Raw (s1.heap.push { cls := .type "dict_items", data := .fields #[.ref d] }) d es ep := raw.keep fun _ e => Heap.get?_push_of_some _ e
  have I2 : Inv X pins σ H1 { s1 with heap := s1.heap.push { cls := .type "dict_items", data := .fields #[.ref d] } } := I1.kept (t' := s1.toks) fun b o e => Heap.get?_push_of_some _ e
  refine raw_iterI (s := { s1 with heap := s1.heap.push { cls := .type "dict_items", data := .fields #[.ref d] } }) ⟨_, Heap.get?_push_size _ rfl, rfl, rfl⟩ raw2 ?_
  have ne : ∀ h : Heap, s1.heap.objs.size ≤ h.objs.size → H1 h.objs.size = none := fun h hh => I1.hok.fresh hh
  have sz : (s1.heap.push { cls := .type "dict_items", data := .fields #[.ref d] }).objs.size = s1.heap.objs.size + 1 := Heap.size_push ..
  refine ⟨_, [(s1.heap.push { cls := .type "dict_items", data := .fields #[.ref d] }).objs.size], _, _, H1, rfl, I2.kept (t' := s1.toks) fun b o e => Heap.get?_push_of_some _ e, turn_items (kvs := kvs) d _ xo hdat (ys := es.toList.map fun e => match e.key with | .ref b => V.ref b | _ => V.non) ?_ esz.symm, ⟨_, _, Heap.get?_push_size _ rfl⟩, fun b hb => ?_, q _ ⟨by simp [esz], fun i y p ey ep => ?_⟩⟩
  · intro i hi
    obtain ⟨b, ns, v, e1, e2, e3, e4⟩ := itup i hi
    refine ⟨b, _, e1, ?_, e3, e4⟩
    simp only [List.getElem?_map, Array.getElem?_toList, Array.getElem?_eq_getElem hi, Option.map_some, e1]
  · have e : b = (s1.heap.push { cls := .type "dict_items", data := .fields #[.ref d] }).objs.size := by simpa using hb
    rw [e]
    exact I2.fpOk (Nat.le_refl _) (I2.hok.fresh (Nat.le_refl _))
  · have hi : i < es.size := by
      have := (List.getElem?_eq_some_iff.mp ey).1
      simpa using this
    obtain ⟨b, ns, v, e1, e2, e3, _⟩ := itup i hi
    simp only [List.getElem?_map, Array.getElem?_toList, Array.getElem?_eq_getElem hi, Option.map_some, e1, Option.some.injEq] at ey
    rw [e3] at ep
    cases ep
    exact ⟨b, ns, ey.symm, e2, rfl⟩
end
end LwD

namespace Lw
open PySem PySem.Spec PyProof.Rows L2
section
variable {X : Cx}
end
end Lw

namespace Lw
open PySem PySem.Spec PyProof.Rows L2
section
variable {X : Cx}
theorem ps_setComp {i : Nat} {y : Str} {py spos : Pos} (hN : X.N.Nodup) (hi : X.N[i]? = some y) (hx : Loc X.env.scope y) {own : Nat} {idx : List Nat} {N : List Str} {elt target iter : Expr} {scope : Scope} {cl : List (Str × Addr)} {pos : Pos} {wi : TI} {g : TG} {te : TE} (hc : X.calm = true)
    (hk : scope.kind = .function) (hclos : closureFor scope X.env = pure cl) (hcell : ∀ x ∈ scope.names, x.2 ≠ .cell) (hnames : ∀ x ∈ scope.names, x.2 = .local → scope.names.lookup x.1 = some .local)
    (hsub : ∀ x c, cl.lookup x = some c → X.env.cells.lookup x = some c) (hhas : ∀ x, ((relabel scope X.env).names.lookup x = some .cell ∨ (relabel scope X.env).names.lookup x = some .free) → ∃ c, cl.lookup x = some c)
    (hlen : N.length = own + idx.length)
    (hidx : ∀ (k j : Nat) (x : Str), idx[k]? = some j → N[own + k]? = some x → X.N[j]? = some x ∧ X.env.kindOf x = some .cell ∧ (relabel scope X.env).names.lookup x = some .cell ∧ X.env.scope.names.lookup x = some .cell)
    (hit : PI X target iter wi) (hg : ∀ C fp s2 H2, PG (cxCompF X N scope cl C fp s2 H2) target g) (he : ∀ C fp s2 H2, PE (cxCompF X N scope cl C fp s2 H2) elt te)
    (hsw : swapsWith (.ListComp elt [⟨target, iter, [], 0⟩] scope pos) (some (.Name y py)) spos.line X.env = pure true := by rfl)
    (hs : ∀ x, foldedSetIterable iter X.env x = pure x := by intro _; rfl) (hfn : X.fn y = true ∨ X.env.scope.names.lookup y = some .local := by first | exact .inl rfl | exact .inr rfl | assumption) : PS X (.Assign [.Name y py] (.ListComp elt [⟨target, iter, [], 0⟩] scope pos) spos) (tAsg (tCompF own idx wi g te) (gName i)) := by
  intro pins s σ H D I h
  rw [exec_Assign_Name_used _ _ _ _ hsw]
  refine wpAny_bind (wpAny_standAt (wpAny_bind ?_))
  show wpAny _ X.A (do let _ ← comprehension (.ListComp elt [⟨target, iter, [], 0⟩] scope pos) scope X.env _ (newList []) false (eval iter X.env) (some (assign (.Name y py) X.env))) _ _ s
  refine wpAny_bind (wpAny_mono (wpAny_comprehension_free (use := some (assign (.Name y py) X.env)) (Q := fun _ s' => ∃ σ' H', Inv X pins σ' H' s' ∧ D.nx σ' H') rfl hs hclos hk hnames (thn (hit pins s σ H _ I h) fun v s1 h1 => thn h1 fun itv s2 h2 => ?_)) (fun _ s' hq => wpAny_pure (wpAny_pure hq)) fun _ _ e => e)
  obtain ⟨it, fp, tn, J, H1, e, I2, T, st2, f2, hR⟩ := h2
  subst e
  have hlt : ∀ b ∈ fp, b < s2.heap.objs.size := fun b hb => by
    obtain ⟨o, ho, _⟩ := T.obj 0 _ st2 b hb
    exact Heap.lt_size ho
  refine wpAny_newObj_type (wpAny_newFunctionEnv hcell (by intro y hy; simp at hy) (fun h₁ hns₁ hsb₁ => ?_) hk)
  dsimp only at hns₁ hsb₁ ⊢
  generalize hHH : s2.heap.push { cls := .type "list", dict := none, data := .seq ([] : List Value).toArray } = HH at hns₁ hsb₁ ⊢
  have hCe : HH.objs.size = s2.heap.objs.size + 1 := by rw [← hHH, Heap.size_push]
  have hDC : s2.heap.objs.size ≠ HH.objs.size := by rw [hCe]; exact Nat.ne_of_lt (Nat.lt_succ_self _)
  have hCle : s2.heap.objs.size ≤ HH.objs.size := by rw [hCe]; exact Nat.le_succ _
  have old : ∀ b o, s2.heap.get? b = some o → h₁.get? b = some o := fun b o e => hsb₁.extBut b o (by rw [hCe]; exact Nat.ne_of_lt (Nat.lt_succ_of_lt (Heap.lt_size e))) (Heap.get?_push_of_some _ (hHH ▸ Heap.get?_push_of_some _ e))
  have hD : h₁.get? s2.heap.objs.size = some { cls := .type "list", dict := none, data := .seq ([] : List Value).toArray } := hsb₁.extBut _ _ hDC (Heap.get?_push_of_some _ (hHH ▸ Heap.get?_push_size _ rfl))
  have nD : H1 s2.heap.objs.size = none := I2.hok.fresh (Nat.le_refl _)
  obtain ⟨W, ⟨m0, w0⟩, turn⟩ := hR s2.heap.objs.size _ nD (same_upd (.lst []) nD) upd_same
  generalize hσ : (List.replicate own none ++ idx.map fun j => (σ[j]?).getD none : L2.St) = σ0 at turn
  have lσ : σ0.length = N.length := by rw [← hσ, List.length_append, List.length_replicate, List.length_map, hlen]
  have ok := cxCompF_ok (N := N) (cl := cl) (C := HH.objs.size) I2 hk hsub hhas hCle f2 hlt
  have oldC : ∀ c v, s2.heap.IsCell c v → h₁.IsCell c v := fun c v ⟨o, ho, hd⟩ => ⟨o, old c o ho, hd⟩
  have I4 : Inv (cxCompF X N scope cl HH.objs.size fp s2 H1) [] σ0 (upd H1 s2.heap.objs.size (.lst [])) { s2 with heap := h₁, toks := s2.toks + ([] : List (Str × Value)).length } := by
    refine ⟨ok, rfl, I2.bare, Un.laid old (Nat.le_refl _) nD, ⟨_, hns₁, fun i x v e1 e2 _ => ?_⟩, (fun x c z => ?_), ?_, (fun x c z => ?_), (fun p hp => nomatch hp), I2.hok.laid old (Nat.le_refl _) ?_, lσ⟩
    · -- a name of the def's
      rw [← hσ] at e2
      by_cases hi' : i < own
      · rw [List.getElem?_append_left (by rw [List.length_replicate]; exact hi'), List.getElem?_replicate] at e2
        split at e2 <;> cases e2
      · obtain ⟨k, rfl⟩ : ∃ k, i = own + k := ⟨i - own, by omega⟩
        rw [List.getElem?_append_right (by rw [List.length_replicate]; omega), List.length_replicate, Nat.add_sub_cancel_left, List.getElem?_map] at e2
        cases ej : idx[k]? with
        | none => rw [ej] at e2; cases e2
        | some j =>
          rw [ej, Option.map_some] at e2
          have e2 := Option.some.inj e2
          obtain ⟨n1, n2, n3, n4⟩ := hidx k j x ej e1
          have e3 : σ[j]? = some (some v) := by
            cases q : σ[j]? with
            | none => rw [q] at e2; cases e2
            | some y => rw [q, Option.getD_some] at e2; rw [e2]
          obtain ⟨m, hm, hl⟩ := I2.loc
          obtain ⟨u, ru, lk⟩ := hl j x v n1 e3 (.inr (.inl n4))
          refine ⟨u, ru, ?_⟩
          rcases lk with ⟨kl, _⟩ | ⟨_, c, hcl, hic⟩
          · rw [n2] at kl; cases kl
          · obtain ⟨c', hc'⟩ := hhas x (.inl n3)
            have : c' = c := Option.some.inj ((hsub x c' hc').symm.trans hcl)
            subst this
            exact .inr ⟨.inl n3, c', hc', oldC _ _ hic⟩
    · obtain ⟨v, hv⟩ := I2.cell x c (hsub x c z)
      exact ⟨v, oldC _ _ hv⟩
    · show (upd H1 s2.heap.objs.size (.lst [])) HH.objs.size = none
      rw [upd_ne (Ne.symm hDC)]
      exact I2.hok.fresh hCle
    · obtain ⟨v, hv⟩ := I2.cell x c (hsub x c z)
      show (upd H1 s2.heap.objs.size (.lst [])) c = none
      rw [upd_ne (Nat.ne_of_lt hv.lt)]
      exact I2.freeC x c (hsub x c z)
    · exact ⟨by show 0 ≤ sizeLine; decide, [], 0, .nil, hD⟩
  have stat : ∀ {H' : Hp}, (∀ b ∈ fp, H' b = none) → ∀ b ∈ fp, FpOk (cxCompF X N scope cl HH.objs.size fp s2 H1) [] H' b := fun hn b hb =>
    ⟨hn b hb, (ok.exf b hb).1, ok.exfs b hb, .inl hb, (ok.exf b hb).2, fun p hp => nomatch hp⟩
  have st4 : tn 0 h₁ := T.keep _ _ _ st2 fun b _ o e => old b o e
  have fr4 : ∀ b ∈ fp, (upd H1 s2.heap.objs.size (.lst [])) b = none := fun b hb => by
    rw [upd_ne (Nat.ne_of_lt (hlt b hb))]
    exact (f2 b hb).1
  have loop : codeAny (model X.prog X.w) X.A (.compLoop (.ListComp elt [⟨target, iter, [], 0⟩] scope pos) 0 (.ref it) (.ref s2.heap.objs.size) (compEnvC scope cl HH.objs.size X.env))
      (compPost (model X.prog X.w) X.A X.xe (some (assign (.Name y py) X.env)) (fun _ s' => ∃ σ' H', Inv X pins σ' H' s' ∧ D.nx σ' H') (.ref s2.heap.objs.size) HH.objs.size) { s2 with heap := h₁, toks := s2.toks + ([] : List (Str × Value)).length } := by
    refine compLoop_any (fun n s' => ∃ i ys H', Inv (cxCompF X N scope cl HH.objs.size fp s2 H1) [] σ0 H' s' ∧ tn i s'.heap ∧ (∀ b ∈ fp, H' b = none) ∧ W i n ys H') ?_ m0 ⟨0, [], _, I4, st4, fr4, w0⟩
    rintro n s3 ⟨i, ys, H3, I3, st3, fr3, w3⟩
    obtain ⟨hp3, hz3, hw⟩ := turn i n ys H3 w3
    rcases hw with ⟨stop, qn⟩ | ⟨go, step⟩
    · refine thn (T.done (cxCompF X N scope cl HH.objs.size fp s2 H1) rfl rfl rfl hc i [] s3 _ H3 _ I3 (stat fr3) st3 stop) fun r s4 ⟨hr, I5⟩ => ?_
      subst hr
      obtain ⟨m, hm, _⟩ := id I5.loc
      have U := I5.base
      have fC : H3 HH.objs.size = none := I5.free
      have IX : Inv X pins σ H3 s4 := I2.call' (ch := fp) (s' := s4) I5.os U I5.hok I5.bare (fun b hb => ⟨(f2 b hb).2.2.2.1, (f2 b hb).2.1, (f2 b hb).2.2.2.2.1, (f2 b hb).2.2.2.2.2⟩)
      have ltC : ∀ b, b < s2.heap.objs.size → b ≠ HH.objs.size := fun b hb => Nat.ne_of_lt (Nat.lt_of_lt_of_le hb hCle)
      show wpAny _ X.A (assign (.Name y py) X.env (.ref s2.heap.objs.size)) _ _ s4
      refine wpAny_assign_Name (store_ok2 IX hN hi hx (v := .ref s2.heap.objs.size) rfl (fun s5 I6 ⟨a, sb, ha⟩ => ?_) hfn)
      have aC : a ≠ HH.objs.size := by
        rcases ha with ha | ha
        · rw [ha]; exact ltC _ I2.lt
        · obtain ⟨v, hv⟩ := I2.cell y a ha
          exact ltC _ hv.lt
      refine ⟨m, hm.sameBut sb (Ne.symm aC), fun h' sb' => ⟨_, H3, ?_, qn⟩⟩
      refine I6.turned (it := HH.objs.size) (t' := s5.toks) (fun b o hb e => sb'.extBut b o hb e) fC (Ne.symm (ltC _ I2.lt)) (.inr (Nat.le_trans I2.sz hCle)) (fun x c hc => ?_) (fun p hp => ?_)
      · obtain ⟨v, hv⟩ := I2.cell x c hc
        exact ltC _ hv.lt
      · exact ltC _ (Heap.lt_size (I2.pin p hp).1)
    · refine wpAny_mono (T.item (cxCompF X N scope cl HH.objs.size fp s2 H1) rfl rfl rfl hc i [] s3 _ H3 (fun _ _ => False) I3 (stat fr3) st3 go) (fun r s4 ⟨u, hr, h4⟩ => ?_) fun _ _ z => z.elim
      subst hr
      refine wpAny_mono h4 (fun _ s5 ⟨x, H5, I5, r5, y5, st5, fr5⟩ => ?_) fun _ _ z => z.elim
      have I5' := I5.pinned (stat fr5) (T.obj _ _ st5)
      refine wpAny_mono (hg _ _ _ _ _ s5 _ H5 x u _ I5' r5 (step x H5 y5)) (fun _ s6 ⟨σ6, H6, I6, kp6, q6⟩ => ?_) fun _ _ z => z.elim
      refine wpAny_mono (he _ _ _ _ _ s6 σ6 H6 _ I6 q6) (fun y s7 ⟨yv, H7, I7, r7, q7⟩ => ?_) fun _ _ z => z.elim
      obtain ⟨e7, m', hm', w7⟩ := q7
      refine wpAny_mono (mt_append (X := cxCompF X N scope cl HH.objs.size fp s2 H1) _ s7 σ6 H7 (.ref s2.heap.objs.size) [yv] (.ref s2.heap.objs.size) [y] (fun _ H8 => H8 = upd H7 s2.heap.objs.size (.lst (ys ++ [yv]))) I7 rfl (.cons r7 .nil) ⟨_, ys, yv, rfl, rfl, e7, hz3, rfl⟩) (fun _ s8 ⟨_, H8, I8, _, q8⟩ => ?_) fun _ _ z => z.elim
      subst q8
      refine ⟨m', hm', i + 1, _, _, (I8.unpinned).weak (by rw [lσ, I8.len]; rfl) kp6, T.keep _ _ _ st5 fun b hb o e => (I8.pin (b, o) (List.mem_append_right _ (List.mem_append_right _ (mem_pinsAt hb e)))).1, fun b hb => ?_, w7⟩
      obtain ⟨o, e, d⟩ := T.obj _ _ st5 b hb
      exact (I8.pin (b, o) (List.mem_append_right _ (List.mem_append_right _ (mem_pinsAt hb e)))).2.1
  exact codeAny_compStart_list loop (T.self _ 0 _ _ _ st4 loop)
end
end Lw

namespace Lw
open PySem PySem.Spec PyProof.Rows L2
section
variable {prog : Program} {w : World} {A : Around} {R : Result → Shared → Prop} {s : Shared}
theorem compLoop_if {elt target iter c : Expr} {scope : Scope} {pos : Pos} {it acc : Value} {env : Env} (I : Nat → Shared → Prop)
    (turn : ∀ n s, I n s → wpAny (model prog w) A (pyNext it) (fun r s₁ => match r with
      | none => R (.ok .next) s₁
      | some v => wpAny (model prog w) A (letOwnedTupleGo target it v) (fun _ s₁' => wpAny (model prog w) A (assign target env v) (fun _ s₂ => wpAny (model prog w) A (isTrue c env (eval c env)) (fun b s₂' => if b = true then wpAny (model prog w) A (eval elt env) (fun x s₃ =>
          wpAny (model prog w) A (call (.builtin "list.append") [acc, x]) (fun _ s₄ => ∃ m, m < n ∧ I m s₄) (notedBy (model prog w) A env fun e s' => R (.error e) s') s₃)
          (notedBy (model prog w) A env fun e s' => R (.error e) s') s₂' else ∃ m, m < n ∧ I m s₂') (notedBy (model prog w) A env fun e s' => R (.error e) s') s₂) (notedBy (model prog w) A env fun e s' => R (.error e) s') s₁') (notedBy (model prog w) A env fun e s' => R (.error e) s') s₁) (notedBy (model prog w) A env fun e s' => R (.error e) s') s)
    (n : Nat) (h : I n s) :
    codeAny (model prog w) A (.compLoop (.ListComp elt [⟨target, iter, [c], 0⟩] scope pos) 0 it acc env) R s := by
  refine codeAny_loop rfl I (fun n s hI => ?_) n h
  show wpAny _ _ ((compTurn (.ListComp elt [⟨target, iter, [c], 0⟩] scope pos) 0 it acc env).onRaise (fun x => do noteFrame x env; theTreesLotGoes x)) _ _ s
  refine wpAny_noted ?_
  rw [compTurn_list]
  refine wpAny_bind (wpAny_standAt (wpAny_bind (wpAny_mono (turn n s hI) (fun r s₁ h₁ => ?_) fun _ _ h' => h')))
  cases r with
  | none => exact wpAny_pure h₁
  | some v =>
    refine wpAny_bind (wpAny_mono h₁ (fun _ s₁' h₁' => ?_) fun _ _ h' => h')
    refine wpAny_bind (wpAny_mono h₁' (fun _ s₂ h₂ => ?_) fun _ _ h' => h')
    refine wpAny_bind ?_
    rw [List.forIn_cons]
    dsimp only
    rw [if_pos rfl]
    refine wpAny_bind (wpAny_bind (wpAny_mono h₂ (fun b s₂' hb => wpAny_pure ?_) fun _ _ h' => h'))
    dsimp only
    rw [List.forIn_nil]
    refine wpAny_pure ?_
    cases b with
    | true =>
      rw [if_pos rfl] at hb ⊢
      refine wpAny_bind ?_
      exact (wpAny_bind (wpAny_mono hb (fun x s₃ h₃ => wpAny_bind (wpAny_mono h₃
        (fun _ s₄ h₄ => wpAny_pure (wpAny_pure ⟨rfl, h₄⟩)) fun _ _ h' => h')) fun _ _ h' => h'))
    | false =>
      rw [if_neg Bool.false_ne_true] at hb ⊢
      exact wpAny_pure ⟨rfl, hb⟩
end
noncomputable def CompGoI (n : Nat) (J : It) (g : TG) (tt : TT) (te : TE) (Q : VK) (p : Addr) (H' : Hp) : Prop :=
  ∃ W : Nat → Nat → List V → Hp → Prop, (∃ m, W 0 m [] H') ∧ ∀ i m ys H2, W i m ys H2 → H2 p = some (.lst ys) ∧ ys.length < sizeLine ∧
    ((J.stop i H2 ∧ Q (.ref p) H2) ∨ (J.go i H2 ∧ ∀ x H3, J.yld i H2 x H3 → g x (List.replicate n none) H3 fun σ4 H4 => tt σ4 H4 fun b H5 => if b = true then te σ4 H5 fun y H6 => H6 p = some (.lst ys) ∧ ∃ m', m' < m ∧ W (i + 1) m' (ys ++ [y]) (upd H6 p (.lst (ys ++ [y]))) else ∃ m', m' < m ∧ W (i + 1) m' ys H5))
noncomputable def tCompI (n : Nat) (wi : TI) (g : TG) (tt : TT) (te : TE) : TE := fun σ H Q => wi σ H fun J H1 => ∀ p H', H1 p = none → Same H1 H' → H' p = some (.lst []) → CompGoI n J g tt te Q p H'
section
variable {X : Cx}
theorem pe_compI {N : List Str} {elt target iter c : Expr} {scope : Scope} {pos : Pos} {wi : TI} {g : TG} {tt : TT} {te : TE} (hc : X.calm = true)
    (hk : scope.kind = .function) (hn : ∀ x, scope.names.lookup x ≠ some .cell ∧ scope.names.lookup x ≠ some .free) (hfree : ∀ x ∈ scope.names, x.2 ≠ .free) (hcell : ∀ x ∈ scope.names, x.2 ≠ .cell) (hnames : ∀ x ∈ scope.names, x.2 = .local → scope.names.lookup x.1 = some .local)
    (hi : PI X target iter wi) (hg : ∀ C fp s2 H2, PG (cxComp X N scope C fp s2 H2) target g) (ht : ∀ C fp s2 H2, PT (cxComp X N scope C fp s2 H2) c tt) (he : ∀ C fp s2 H2, PE (cxComp X N scope C fp s2 H2) elt te)
    (hs : ∀ x, foldedSetIterable iter X.env x = pure x := by intro _; rfl) : PE X (.ListComp elt [⟨target, iter, [c], 0⟩] scope pos) (tCompI N.length wi g tt te) := by
  intro pins s σ H Q I h
  refine wpAny_ListComp hfree hk hnames (thn (hi pins s σ H _ I h) fun v s1 h1 => thn h1 fun itv s2 h2 => ?_) hs
  obtain ⟨it, fp, tn, J, H1, e, I2, T, st2, f2, hR⟩ := h2
  subst e
  have hlt : ∀ b ∈ fp, b < s2.heap.objs.size := fun b hb => by
    obtain ⟨o, ho, _⟩ := T.obj 0 _ st2 b hb
    exact Heap.lt_size ho
  refine wpAny_newObj_type (wpAny_newFunctionEnv hcell (by intro y hy; simp at hy) (fun h₁ hns₁ hsb₁ => ?_) hk)
  dsimp only at hns₁ hsb₁ ⊢
  generalize hHH : s2.heap.push { cls := .type "list", dict := none, data := .seq ([] : List Value).toArray } = HH at hns₁ hsb₁ ⊢
  have hCe : HH.objs.size = s2.heap.objs.size + 1 := by rw [← hHH, Heap.size_push]
  have hDC : s2.heap.objs.size ≠ HH.objs.size := by rw [hCe]; exact Nat.ne_of_lt (Nat.lt_succ_self _)
  have hCle : s2.heap.objs.size ≤ HH.objs.size := by rw [hCe]; exact Nat.le_succ _
  have old : ∀ b o, s2.heap.get? b = some o → h₁.get? b = some o := fun b o e => hsb₁.extBut b o (by rw [hCe]; exact Nat.ne_of_lt (Nat.lt_succ_of_lt (Heap.lt_size e))) (Heap.get?_push_of_some _ (hHH ▸ Heap.get?_push_of_some _ e))
  have hD : h₁.get? s2.heap.objs.size = some { cls := .type "list", dict := none, data := .seq ([] : List Value).toArray } := hsb₁.extBut _ _ hDC (Heap.get?_push_of_some _ (hHH ▸ Heap.get?_push_size _ rfl))
  have nD : H1 s2.heap.objs.size = none := I2.hok.fresh (Nat.le_refl _)
  obtain ⟨W, ⟨m0, w0⟩, turn⟩ := hR s2.heap.objs.size _ nD (same_upd (.lst []) nD) upd_same
  have ok := cxComp_ok (N := N) (C := HH.objs.size) I2 hk hn hCle f2 hlt
  have I4 : Inv (cxComp X N scope HH.objs.size fp s2 H1) [] (List.replicate N.length none) (upd H1 s2.heap.objs.size (.lst [])) { s2 with heap := h₁, toks := s2.toks + ([] : List (Str × Value)).length } := by
    refine ⟨ok, rfl, I2.bare, Un.laid old (Nat.le_refl _) nD, ⟨_, hns₁, fun i x v _ e2 _ => ?_⟩, (fun x c z => nomatch z), ?_, (fun x c z => nomatch z), (fun p hp => nomatch hp), I2.hok.laid old (Nat.le_refl _) ?_, by rw [List.length_replicate]; rfl⟩
    · rw [List.getElem?_replicate] at e2
      split at e2 <;> cases e2
    · show (upd H1 s2.heap.objs.size (.lst [])) HH.objs.size = none
      rw [upd_ne (Ne.symm hDC)]
      exact I2.hok.fresh hCle
    · exact ⟨by show 0 ≤ sizeLine; decide, [], 0, .nil, hD⟩
  have stat : ∀ {H' : Hp}, (∀ b ∈ fp, H' b = none) → ∀ b ∈ fp, FpOk (cxComp X N scope HH.objs.size fp s2 H1) [] H' b := fun hn b hb =>
    ⟨hn b hb, (ok.exf b hb).1, ok.exfs b hb, .inl hb, (ok.exf b hb).2, fun p hp => nomatch hp⟩
  have st4 : tn 0 h₁ := T.keep _ _ _ st2 fun b _ o e => old b o e
  have fr4 : ∀ b ∈ fp, (upd H1 s2.heap.objs.size (.lst [])) b = none := fun b hb => by
    rw [upd_ne (Nat.ne_of_lt (hlt b hb))]
    exact (f2 b hb).1
  -- the loop
  have loop : codeAny (model X.prog X.w) X.A (.compLoop (.ListComp elt [⟨target, iter, [c], 0⟩] scope pos) 0 (.ref it) (.ref s2.heap.objs.size) (compEnv scope HH.objs.size X.env))
      (fun r s' => ∃ m, s'.heap.Ns HH.objs.size m ∧ ∀ h', Heap.SameBut HH.objs.size s'.heap h' →
            match r with | .ok _ => EP X pins σ Q (.ref s2.heap.objs.size) { s' with heap := h' } | .error x => wpAny (model X.prog X.w) X.A (passOn "comprehension.variables-let-go" x (compEnv scope HH.objs.size X.env)) (EP X pins σ Q) X.xe { s' with heap := h' })
      { s2 with heap := h₁, toks := s2.toks + ([] : List (Str × Value)).length } := by
    refine compLoop_if (fun n s' => ∃ i ys H', Inv (cxComp X N scope HH.objs.size fp s2 H1) [] (List.replicate N.length none) H' s' ∧ tn i s'.heap ∧ (∀ b ∈ fp, H' b = none) ∧ W i n ys H') ?_ m0 ⟨0, [], _, I4, st4, fr4, w0⟩
    rintro n s3 ⟨i, ys, H3, I3, st3, fr3, w3⟩
    obtain ⟨hp3, hz3, hw⟩ := turn i n ys H3 w3
    rcases hw with ⟨stop, qn⟩ | ⟨go, step⟩
    · refine thn (T.done (cxComp X N scope HH.objs.size fp s2 H1) rfl rfl rfl hc i [] s3 _ H3 _ I3 (stat fr3) st3 stop) fun r s4 ⟨hr, I5⟩ => ?_
      subst hr
      obtain ⟨m, hm, _⟩ := id I5.loc
      refine ⟨m, hm, fun h' sb => ⟨.ref s2.heap.objs.size, H3, ?_, rfl, qn⟩⟩
      have k : ∀ b o, b ≠ HH.objs.size → s4.heap.get? b = some o → h'.get? b = some o := fun b o hb e => sb.extBut b o hb e
      have nb : ∀ b o, s2.heap.get? b = some o → b ≠ HH.objs.size := fun b o e => by rw [hCe]; exact Nat.ne_of_lt (Nat.lt_succ_of_lt (Heap.lt_size e))
      have U := I5.base
      have fC : H3 HH.objs.size = none := I5.free
      refine I2.call' (ch := fp) (s' := { s4 with heap := h' }) I5.os ⟨fun b o e n hb hx => k b o (nb b o e) (U.keep b o e n hb hx), fun b o e n hb hx => ?_, U.free, fun b o e hx => ?_, U.tups, U.frzs, U.tbls⟩ (fun b u e => ?_) I5.bare (fun b hb => ⟨(f2 b hb).2.2.2.1, (f2 b hb).2.1, (f2 b hb).2.2.2.2.1, (f2 b hb).2.2.2.2.2⟩)
      · obtain ⟨sl, q⟩ := U.slot b o e n hb hx
        exact ⟨sl, k b _ (nb b o e) q⟩
      · obtain ⟨o', q⟩ := U.there b o e hx
        exact ⟨o', k b _ (nb b o e) q⟩
      · refine (I5.hok b u e).stay (fun c v hcc q => k c v ?_ q) (fun _ q => q) fun _ _ q => q
        rcases hcc with z | z
        · rw [z]
          intro y
          rw [y, fC] at e
          cases e
        · intro y
          rw [y, fC] at z
          cases z
    · refine wpAny_mono (T.item (cxComp X N scope HH.objs.size fp s2 H1) rfl rfl rfl hc i [] s3 _ H3 (fun _ _ => False) I3 (stat fr3) st3 go) (fun r s4 ⟨u, hr, h4⟩ => ?_) fun _ _ z => z.elim
      subst hr
      refine wpAny_mono h4 (fun _ s5 ⟨x, H5, I5, r5, y5, st5, fr5⟩ => ?_) fun _ _ z => z.elim
      have I5' := I5.pinned (stat fr5) (T.obj _ _ st5)
      refine wpAny_mono (hg _ _ _ _ _ s5 _ H5 x u _ I5' r5 (step x H5 y5)) (fun _ s6 ⟨σ6, H6, I6, q6⟩ => ?_) fun _ _ z => z.elim
      refine wpAny_mono (ht _ _ _ _ _ s6 σ6 H6 _ I6 q6) (fun b s6' ⟨H6', I6', q6'⟩ => ?_) fun _ _ z => z.elim
      cases b with
      | false =>
        rw [if_neg Bool.false_ne_true] at q6' ⊢
        obtain ⟨m', hm', w7⟩ := q6'
        refine ⟨m', hm', i + 1, _, _, (I6'.unpinned).weak (by rw [List.length_replicate, I6'.len]; rfl) (fun j v ev => ?_), T.keep _ _ _ st5 fun b hb o e => (I6'.pin (b, o) (List.mem_append_right _ (List.mem_append_right _ (mem_pinsAt hb e)))).1, fun b hb => ?_, w7⟩
        · rw [List.getElem?_replicate] at ev
          split at ev <;> cases ev
        · obtain ⟨o, e, d⟩ := T.obj _ _ st5 b hb
          exact (I6'.pin (b, o) (List.mem_append_right _ (List.mem_append_right _ (mem_pinsAt hb e)))).2.1
      | true =>
        rw [if_pos rfl] at q6' ⊢
        refine wpAny_mono (he _ _ _ _ _ s6' σ6 H6' _ I6' q6') (fun y s7 ⟨yv, H7, I7, r7, q7⟩ => ?_) fun _ _ z => z.elim
        obtain ⟨e7, m', hm', w7⟩ := q7
        refine wpAny_mono (mt_append (X := cxComp X N scope HH.objs.size fp s2 H1) _ s7 σ6 H7 (.ref s2.heap.objs.size) [yv] (.ref s2.heap.objs.size) [y] (fun _ H8 => H8 = upd H7 s2.heap.objs.size (.lst (ys ++ [yv]))) I7 rfl (.cons r7 .nil) ⟨_, ys, yv, rfl, rfl, e7, hz3, rfl⟩) (fun _ s8 ⟨_, H8, I8, _, q8⟩ => ?_) fun _ _ z => z.elim
        subst q8
        refine ⟨m', hm', i + 1, _, _, (I8.unpinned).weak (by rw [List.length_replicate, I8.len]; rfl) (fun j v ev => ?_), T.keep _ _ _ st5 fun b hb o e => (I8.pin (b, o) (List.mem_append_right _ (List.mem_append_right _ (mem_pinsAt hb e)))).1, fun b hb => ?_, w7⟩
        · rw [List.getElem?_replicate] at ev
          split at ev <;> cases ev
        · obtain ⟨o, e, d⟩ := T.obj _ _ st5 b hb
          exact (I8.pin (b, o) (List.mem_append_right _ (List.mem_append_right _ (mem_pinsAt hb e)))).2.1
  exact codeAny_compStart_list loop (T.self _ 0 _ _ _ st4 loop)
end
end Lw

namespace Lw
open PySem PySem.Spec PyProof.Rows L2
section
variable {prog : Program} {w : World} {A : Around} {R : Result → Shared → Prop} {s : Shared}
theorem dcompLoop_any {kx vx target iter : Expr} {scope : Scope} {pos : Pos} {it : Value} {D : Addr} {env : Env} (I : Nat → Shared → Prop)
    (turn : ∀ n s, I n s → wpAny (model prog w) A (pyNext it) (fun r s₁ => match r with
      | none => R (.ok .next) s₁
      | some v => wpAny (model prog w) A (letOwnedTupleGo target it v) (fun _ s₁' => wpAny (model prog w) A (assign target env v) (fun _ s₂ => wpAny (model prog w) A (eval kx env) (fun x s₃ => wpAny (model prog w) A (eval vx env) (fun y s₃' =>
          wpAny (model prog w) A (dictSet D x y) (fun _ s₄ => ∃ m, m < n ∧ I m s₄) (notedBy (model prog w) A env fun e s' => R (.error e) s') s₃') (notedBy (model prog w) A env fun e s' => R (.error e) s') s₃)
          (notedBy (model prog w) A env fun e s' => R (.error e) s') s₂) (notedBy (model prog w) A env fun e s' => R (.error e) s') s₁') (notedBy (model prog w) A env fun e s' => R (.error e) s') s₁) (notedBy (model prog w) A env fun e s' => R (.error e) s') s)
    (n : Nat) (h : I n s) :
    codeAny (model prog w) A (.compLoop (.DictComp kx vx [⟨target, iter, [], 0⟩] scope pos) 0 it (.ref D) env) R s := by
  refine codeAny_loop rfl I (fun n s hI => ?_) n h
  show wpAny _ _ ((compTurn (.DictComp kx vx [⟨target, iter, [], 0⟩] scope pos) 0 it (.ref D) env).onRaise (fun x => do noteFrame x env; theTreesLotGoes x)) _ _ s
  refine wpAny_noted ?_
  rw [compTurn_dict]
  refine wpAny_bind (wpAny_standAt (wpAny_bind (wpAny_mono (turn n s hI) (fun r s₁ h₁ => ?_) fun _ _ h' => h')))
  cases r with
  | none => exact wpAny_pure h₁
  | some v =>
    refine wpAny_bind (wpAny_mono h₁ (fun _ s₁' h₁' => ?_) fun _ _ h' => h')
    refine wpAny_bind (wpAny_mono h₁' (fun _ s₂ h₂ => ?_) fun _ _ h' => h')
    refine wpAny_bind ?_
    rw [List.forIn_nil]
    refine wpAny_pure ?_
    dsimp only
    rw [if_pos rfl]
    refine wpAny_bind (wpAny_bind (wpAny_mono h₂ (fun x s₃ h₃ => wpAny_bind (wpAny_holding (wpAny_mono h₃ (fun y s₃' h₃' => wpAny_bind (wpAny_standAt (wpAny_holding (wpAny_mono h₃' (fun _ s₄ h₄ => wpAny_pure ⟨rfl, h₄⟩) fun _ _ h' => h')))) fun _ _ h' => h'))) fun _ _ h' => h'))
end
noncomputable def DCompGoF (σ0 : L2.St) (J : It) (g : TG) (tk tv : TE) (Q : VK) (p : Addr) (H' : Hp) : Prop :=
  ∃ W : Nat → Nat → List (List Key × V) → Hp → Prop, (∃ m, W 0 m [] H') ∧ ∀ i m ys H2, W i m ys H2 → H2 p = some (.dT ys) ∧ ys.length < sizeLine ∧
    ((J.stop i H2 ∧ Q (.ref p) H2) ∨ (J.go i H2 ∧ ∀ x H3, J.yld i H2 x H3 → g x σ0 H3 fun σ4 H4 => Keep σ0 σ4 ∧ tk σ4 H4 fun y H5 => tv σ4 H5 fun v H6 => ∃ (b : Addr) (k : List Key), y = .ref b ∧ H6 b = some (.tup (k.map kV)) ∧ H6 p = some (.dT ys) ∧ ∃ m', m' < m ∧ W (i + 1) m' (putK ys k v) (upd H6 p (.dT (putK ys k v)))))
noncomputable def tDCompF (own : Nat) (idx : List Nat) (wi : TI) (g : TG) (tk tv : TE) : TE := fun σ H Q => wi σ H fun J H1 => ∀ p H', H1 p = none → Same H1 H' → H' p = some (.dT []) →
  DCompGoF (List.replicate own none ++ idx.map fun j => (σ[j]?).getD none) J g tk tv Q p H'
section
variable {X : Cx}
theorem d_set {pins : List (Addr × Obj)} {σ : L2.St} {H : Hp} {s : Shared} {a b : Addr} {v : V} {u r : Value} {A : Around} {E : Value → Shared → Prop} {kvs : List (List Key × V)} {k : List Key} {Q : Unit → Shared → Prop} (hu : A.units < cLine) (I : Inv X pins σ H s) (e : H a = some (.dT kvs)) (eb : H b = some (.tup (k.map kV))) (l : kvs.length < sizeLine) (ry : RelV (.ref b) u) (rv : RelV v r)
    (h : ∀ s', Inv X pins σ (upd H a (.dT (putK kvs k v))) s' → Q () s') : wpAny (model X.prog X.w) A (dictSet a u r) Q E s := by
  cases (show u = Value.ref b from ry)
  obtain ⟨z, hd, xs, rel, dd⟩ := dt_of I.hok e
  have hz : xs.length ≤ sizeLine := by rw [← Paired.length rel]; exact z
  have hl : (putK kvs k v).length ≤ sizeLine := by have := length_putK kvs k v; omega
  refine wpAny_dictSet_heap (knd := LwD.tkd X.prog X.w) hu (key_of I.hok eb) dd (fun h' dd' hs => h _ ?_) hz
  obtain ⟨q, es, ep, hq, h2, h3, h4, _, h5⟩ := dd'
  refine d_write I (by rw [e]; exact True.intro) hs ⟨q, hq⟩ ⟨hl, hd, _, (rel.put k eb rv).keeps fun c ys ec => ?_, q, es, ep, hq, h2, h3, h4, h5⟩
  rw [upd_ne (ne_of ec e (fun z => nomatch z))]
  exact ec
end
end Lw

namespace Lw
open PySem PySem.Spec PyProof.Rows L2
section
variable {X : Cx}
theorem ps_setDComp {i : Nat} {y : Str} {py spos : Pos} (hN : X.N.Nodup) (hi : X.N[i]? = some y) (hx : Loc X.env.scope y) {own : Nat} {idx : List Nat} {N : List Str} {kx vx target iter : Expr} {scope : Scope} {cl : List (Str × Addr)} {pos : Pos} {wi : TI} {g : TG} {tk tv : TE} (hu : X.A.units < cLine) (hc : X.calm = true)
    (hk : scope.kind = .function) (hclos : closureFor scope X.env = pure cl) (hcell : ∀ x ∈ scope.names, x.2 ≠ .cell) (hnames : ∀ x ∈ scope.names, x.2 = .local → scope.names.lookup x.1 = some .local)
    (hsub : ∀ x c, cl.lookup x = some c → X.env.cells.lookup x = some c) (hhas : ∀ x, ((relabel scope X.env).names.lookup x = some .cell ∨ (relabel scope X.env).names.lookup x = some .free) → ∃ c, cl.lookup x = some c)
    (hlen : N.length = own + idx.length)
    (hidx : ∀ (k j : Nat) (x : Str), idx[k]? = some j → N[own + k]? = some x → X.N[j]? = some x ∧ X.env.kindOf x = some .cell ∧ (relabel scope X.env).names.lookup x = some .cell ∧ X.env.scope.names.lookup x = some .cell)
    (hit : PI X target iter wi) (hg : ∀ C fp s2 H2, PG (cxCompF X N scope cl C fp s2 H2) target g) (hkx : ∀ C fp s2 H2, PE (cxCompF X N scope cl C fp s2 H2) kx tk) (hvx : ∀ C fp s2 H2, PE (cxCompF X N scope cl C fp s2 H2) vx tv)
    (hsw : swapsWith (.DictComp kx vx [⟨target, iter, [], 0⟩] scope pos) (some (.Name y py)) spos.line X.env = pure true := by rfl)
    (hs : ∀ x, foldedSetIterable iter X.env x = pure x := by intro _; rfl) (hfn : X.fn y = true ∨ X.env.scope.names.lookup y = some .local := by first | exact .inl rfl | exact .inr rfl | assumption) : PS X (.Assign [.Name y py] (.DictComp kx vx [⟨target, iter, [], 0⟩] scope pos) spos) (tAsg (tDCompF own idx wi g tk tv) (gName i)) := by
  intro pins s σ H D I h
  rw [exec_Assign_Name_used _ _ _ _ hsw]
  refine wpAny_bind (wpAny_standAt (wpAny_bind ?_))
  show wpAny _ X.A (do let _ ← comprehension (.DictComp kx vx [⟨target, iter, [], 0⟩] scope pos) scope X.env _ newDict false (eval iter X.env) (some (assign (.Name y py) X.env))) _ _ s
  refine wpAny_bind (wpAny_mono (wpAny_comprehension_free (use := some (assign (.Name y py) X.env)) (Q := fun _ s' => ∃ σ' H', Inv X pins σ' H' s' ∧ D.nx σ' H') rfl hs hclos hk hnames (thn (hit pins s σ H _ I h) fun v s1 h1 => thn h1 fun itv s2 h2 => ?_)) (fun _ s' hq => wpAny_pure (wpAny_pure hq)) fun _ _ e => e)
  obtain ⟨it, fp, tn, J, H1, e, I2, T, st2, f2, hR⟩ := h2
  subst e
  have hlt : ∀ b ∈ fp, b < s2.heap.objs.size := fun b hb => by
    obtain ⟨o, ho, _⟩ := T.obj 0 _ st2 b hb
    exact Heap.lt_size ho
  refine wpAny_newObj_type (wpAny_newFunctionEnv hcell (by intro y hy; simp at hy) (fun h₁ hns₁ hsb₁ => ?_) hk)
  dsimp only at hns₁ hsb₁ ⊢
  generalize hHH : s2.heap.push { cls := .type "dict", dict := none, data := .dict #[] 0 } = HH at hns₁ hsb₁ ⊢
  have hCe : HH.objs.size = s2.heap.objs.size + 1 := by rw [← hHH, Heap.size_push]
  have hDC : s2.heap.objs.size ≠ HH.objs.size := by rw [hCe]; exact Nat.ne_of_lt (Nat.lt_succ_self _)
  have hCle : s2.heap.objs.size ≤ HH.objs.size := by rw [hCe]; exact Nat.le_succ _
  have old : ∀ b o, s2.heap.get? b = some o → h₁.get? b = some o := fun b o e => hsb₁.extBut b o (by rw [hCe]; exact Nat.ne_of_lt (Nat.lt_succ_of_lt (Heap.lt_size e))) (Heap.get?_push_of_some _ (hHH ▸ Heap.get?_push_of_some _ e))
  have hD : h₁.get? s2.heap.objs.size = some { cls := .type "dict", dict := none, data := .dict #[] 0 } := hsb₁.extBut _ _ hDC (Heap.get?_push_of_some _ (hHH ▸ Heap.get?_push_size _ rfl))
  have nD : H1 s2.heap.objs.size = none := I2.hok.fresh (Nat.le_refl _)
  obtain ⟨W, ⟨m0, w0⟩, turn⟩ := hR s2.heap.objs.size _ nD (same_upd (.dT []) nD) upd_same
  generalize hσ : (List.replicate own none ++ idx.map fun j => (σ[j]?).getD none : L2.St) = σ0 at turn
  have lσ : σ0.length = N.length := by rw [← hσ, List.length_append, List.length_replicate, List.length_map, hlen]
  have ok := cxCompF_ok (N := N) (cl := cl) (C := HH.objs.size) I2 hk hsub hhas hCle f2 hlt
  have oldC : ∀ c v, s2.heap.IsCell c v → h₁.IsCell c v := fun c v ⟨o, ho, hd⟩ => ⟨o, old c o ho, hd⟩
  have I4 : Inv (cxCompF X N scope cl HH.objs.size fp s2 H1) [] σ0 (upd H1 s2.heap.objs.size (.dT [])) { s2 with heap := h₁, toks := s2.toks + ([] : List (Str × Value)).length } := by
    refine ⟨ok, rfl, I2.bare, Un.laid old (Nat.le_refl _) nD, ⟨_, hns₁, fun i x v e1 e2 _ => ?_⟩, (fun x c z => ?_), ?_, (fun x c z => ?_), (fun p hp => nomatch hp), I2.hok.laid old (Nat.le_refl _) ?_, lσ⟩
    · -- a name of the def's
      rw [← hσ] at e2
      by_cases hi' : i < own
      · rw [List.getElem?_append_left (by rw [List.length_replicate]; exact hi'), List.getElem?_replicate] at e2
        split at e2 <;> cases e2
      · obtain ⟨k, rfl⟩ : ∃ k, i = own + k := ⟨i - own, by omega⟩
        rw [List.getElem?_append_right (by rw [List.length_replicate]; omega), List.length_replicate, Nat.add_sub_cancel_left, List.getElem?_map] at e2
        cases ej : idx[k]? with
        | none => rw [ej] at e2; cases e2
        | some j =>
          rw [ej, Option.map_some] at e2
          have e2 := Option.some.inj e2
          obtain ⟨n1, n2, n3, n4⟩ := hidx k j x ej e1
          have e3 : σ[j]? = some (some v) := by
            cases q : σ[j]? with
            | none => rw [q] at e2; cases e2
            | some y => rw [q, Option.getD_some] at e2; rw [e2]
          obtain ⟨m, hm, hl⟩ := I2.loc
          obtain ⟨u, ru, lk⟩ := hl j x v n1 e3 (.inr (.inl n4))
          refine ⟨u, ru, ?_⟩
          rcases lk with ⟨kl, _⟩ | ⟨_, c, hcl, hic⟩
          · rw [n2] at kl; cases kl
          · obtain ⟨c', hc'⟩ := hhas x (.inl n3)
            have : c' = c := Option.some.inj ((hsub x c' hc').symm.trans hcl)
            subst this
            exact .inr ⟨.inl n3, c', hc', oldC _ _ hic⟩
    · obtain ⟨v, hv⟩ := I2.cell x c (hsub x c z)
      exact ⟨v, oldC _ _ hv⟩
    · show (upd H1 s2.heap.objs.size (.dT [])) HH.objs.size = none
      rw [upd_ne (Ne.symm hDC)]
      exact I2.hok.fresh hCle
    · obtain ⟨v, hv⟩ := I2.cell x c (hsub x c z)
      show (upd H1 s2.heap.objs.size (.dT [])) c = none
      rw [upd_ne (Nat.ne_of_lt hv.lt)]
      exact I2.freeC x c (hsub x c z)
    · exact ⟨Nat.zero_le _, beq_eq_false_iff_ne.mpr (Ne.symm (Nat.ne_of_lt I2.big)), [], .nil, _, #[], 0, hD, ⟨rfl, rfl, rfl⟩, rfl, rfl, List.nodup_nil⟩
  have stat : ∀ {H' : Hp}, (∀ b ∈ fp, H' b = none) → ∀ b ∈ fp, FpOk (cxCompF X N scope cl HH.objs.size fp s2 H1) [] H' b := fun hn b hb =>
    ⟨hn b hb, (ok.exf b hb).1, ok.exfs b hb, .inl hb, (ok.exf b hb).2, fun p hp => nomatch hp⟩
  have st4 : tn 0 h₁ := T.keep _ _ _ st2 fun b _ o e => old b o e
  have fr4 : ∀ b ∈ fp, (upd H1 s2.heap.objs.size (.dT [])) b = none := fun b hb => by
    rw [upd_ne (Nat.ne_of_lt (hlt b hb))]
    exact (f2 b hb).1
  have loop : codeAny (model X.prog X.w) X.A (.compLoop (.DictComp kx vx [⟨target, iter, [], 0⟩] scope pos) 0 (.ref it) (.ref s2.heap.objs.size) (compEnvC scope cl HH.objs.size X.env))
      (compPost (model X.prog X.w) X.A X.xe (some (assign (.Name y py) X.env)) (fun _ s' => ∃ σ' H', Inv X pins σ' H' s' ∧ D.nx σ' H') (.ref s2.heap.objs.size) HH.objs.size) { s2 with heap := h₁, toks := s2.toks + ([] : List (Str × Value)).length } := by
    refine dcompLoop_any (fun n s' => ∃ i ys H', Inv (cxCompF X N scope cl HH.objs.size fp s2 H1) [] σ0 H' s' ∧ tn i s'.heap ∧ (∀ b ∈ fp, H' b = none) ∧ W i n ys H') ?_ m0 ⟨0, [], _, I4, st4, fr4, w0⟩
    rintro n s3 ⟨i, ys, H3, I3, st3, fr3, w3⟩
    obtain ⟨hp3, hz3, hw⟩ := turn i n ys H3 w3
    rcases hw with ⟨stop, qn⟩ | ⟨go, step⟩
    · refine thn (T.done (cxCompF X N scope cl HH.objs.size fp s2 H1) rfl rfl rfl hc i [] s3 _ H3 _ I3 (stat fr3) st3 stop) fun r s4 ⟨hr, I5⟩ => ?_
      subst hr
      obtain ⟨m, hm, _⟩ := id I5.loc
      have U := I5.base
      have fC : H3 HH.objs.size = none := I5.free
      have IX : Inv X pins σ H3 s4 := I2.call' (ch := fp) (s' := s4) I5.os U I5.hok I5.bare (fun b hb => ⟨(f2 b hb).2.2.2.1, (f2 b hb).2.1, (f2 b hb).2.2.2.2.1, (f2 b hb).2.2.2.2.2⟩)
      have ltC : ∀ b, b < s2.heap.objs.size → b ≠ HH.objs.size := fun b hb => Nat.ne_of_lt (Nat.lt_of_lt_of_le hb hCle)
      show wpAny _ X.A (assign (.Name y py) X.env (.ref s2.heap.objs.size)) _ _ s4
      refine wpAny_assign_Name (store_ok2 IX hN hi hx (v := .ref s2.heap.objs.size) rfl (fun s5 I6 ⟨a, sb, ha⟩ => ?_) hfn)
      have aC : a ≠ HH.objs.size := by
        rcases ha with ha | ha
        · rw [ha]; exact ltC _ I2.lt
        · obtain ⟨v, hv⟩ := I2.cell y a ha
          exact ltC _ hv.lt
      refine ⟨m, hm.sameBut sb (Ne.symm aC), fun h' sb' => ⟨_, H3, ?_, qn⟩⟩
      refine I6.turned (it := HH.objs.size) (t' := s5.toks) (fun b o hb e => sb'.extBut b o hb e) fC (Ne.symm (ltC _ I2.lt)) (.inr (Nat.le_trans I2.sz hCle)) (fun x c hc => ?_) (fun p hp => ?_)
      · obtain ⟨v, hv⟩ := I2.cell x c hc
        exact ltC _ hv.lt
      · exact ltC _ (Heap.lt_size (I2.pin p hp).1)
    · refine wpAny_mono (T.item (cxCompF X N scope cl HH.objs.size fp s2 H1) rfl rfl rfl hc i [] s3 _ H3 (fun _ _ => False) I3 (stat fr3) st3 go) (fun r s4 ⟨u, hr, h4⟩ => ?_) fun _ _ z => z.elim
      subst hr
      refine wpAny_mono h4 (fun _ s5 ⟨x, H5, I5, r5, y5, st5, fr5⟩ => ?_) fun _ _ z => z.elim
      have I5' := I5.pinned (stat fr5) (T.obj _ _ st5)
      refine wpAny_mono (hg _ _ _ _ _ s5 _ H5 x u _ I5' r5 (step x H5 y5)) (fun _ s6 ⟨σ6, H6, I6, kp6, q6⟩ => ?_) fun _ _ z => z.elim
      refine wpAny_mono (hkx _ _ _ _ _ s6 σ6 H6 _ I6 q6) (fun y s7 ⟨yv, H7, I7, r7, q7⟩ => ?_) fun _ _ z => z.elim
      refine wpAny_mono (hvx _ _ _ _ _ s7 σ6 H7 _ I7 q7) (fun v' s7' ⟨vv, H7', I7', r7', q7'⟩ => ?_) fun _ _ z => z.elim
      obtain ⟨b', k', ey, eb, e7, m', hm', w7⟩ := q7'
      subst ey
      refine d_set (X := cxCompF X N scope cl HH.objs.size fp s2 H1) (A := X.A) hu I7' e7 eb hz3 r7 r7' fun s8 I8 => ?_
      refine ⟨m', hm', i + 1, _, _, (I8.unpinned).weak (by rw [lσ, I8.len]; rfl) kp6, T.keep _ _ _ st5 fun b hb o e => (I8.pin (b, o) (List.mem_append_right _ (List.mem_append_right _ (mem_pinsAt hb e)))).1, fun b hb => ?_, w7⟩
      obtain ⟨o, e, d⟩ := T.obj _ _ st5 b hb
      exact (I8.pin (b, o) (List.mem_append_right _ (List.mem_append_right _ (mem_pinsAt hb e)))).2.1
  exact codeAny_compStart_dict loop (T.self _ 0 _ _ _ st4 loop)
end
end Lw

namespace Lw
open PySem PySem.Spec PyProof.Rows L2
section
variable {X : Cx}
noncomputable def rAny (K : PySem.W.Frag) : List V → Hp → VK → Prop := fun xs H Q => ∃ (a : Addr) (bs : List Bool), xs = [.ref a] ∧ SqL K H a (bs.map V.bl) ∧ Q (.bl (bs.any id)) H
theorem any_range (bs : List Bool) : (List.range bs.length).any (fun i => bs.getD i true) = bs.any id := by
  induction bs with
  | nil => rfl
  | cons b r ih =>
    rw [List.length_cons, List.range_succ_eq_map, List.any_cons, List.any_map, List.any_cons, ← ih]
    rfl
theorem boot_any : bootBuiltins "any" = some (.builtin "any") := by decide +kernel
theorem call_any (hc : X.calm = true) : CallR X (.builtin "any") (rAny X.K) := by
  intro pins s σ H xs us Q I r h
  obtain ⟨a, bs, rfl, hq, q⟩ := h
  obtain ⟨u, rfl, ru⟩ := vals1 r
  cases ru
  obtain ⟨its, rv, p, hz⟩ := I.list hq
  have hl := rv.length
  rw [List.length_map] at hl
  refine PySem.call_any_walk (wpAny_pyIter_list p.isList ?_)
  have ha : a < s.heap.objs.size := by
    obtain ⟨o, n, e, _⟩ := p
    exact Heap.lt_size e
  refine ⟨s.heap.objs.size, _, _, _, _, _, fun i => bs.getD i true, rfl, Walks.list (show X.A.in1.handled = none from I.ok.hd hc) s.heap.objs.size a (Nat.ne_of_lt ha) its.toArray, ⟨⟨_, Heap.get?_push_size _ rfl, rfl, rfl⟩, p.isList.at fun o e => Heap.get?_push_of_some _ e⟩, ?_, ?_⟩
  · intro i v s' Q' E' hv hq'
    obtain rfl := bls_get rv (by simpa using hv)
    exact wpAny_truthy_bool hq'
  · intro h' tk k
    rw [List.size_toArray, ← hl, any_range]
    refine ⟨.bl _, H, I.kept (t' := tk) (fun b o e => ?_), rfl, q⟩
    exact k b o (by simp; exact Nat.ne_of_lt (Heap.lt_size e)) (Heap.get?_push_of_some _ e)
noncomputable def rSumL (K : PySem.W.Frag) : List V → Hp → VK → Prop := fun xs H Q => ∃ (a : Addr) (ns : List Int), xs = [.ref a] ∧ SqL K H a (ns.map V.int) ∧ Q (.int ns.sum) H
theorem call_sumL (hc : X.calm = true) : CallR X (.builtin "sum") (rSumL X.K) := by
  intro pins s σ H xs us Q I r h
  obtain ⟨a, ns, rfl, hq, q⟩ := h
  obtain ⟨u, rfl, ru⟩ := vals1 r
  cases ru
  obtain ⟨its, rv, p, hz⟩ := I.list hq
  have i1 : IntsAre its ns := intsAre_of rv
  have hl := ints_len i1
  have ha : a < s.heap.objs.size := by
    obtain ⟨o, n, e, _⟩ := p
    exact Heap.lt_size e
  refine PySem.call_sum_walkG (wpAny_pyIter_list p.isList ?_)
  refine ⟨s.heap.objs.size, _, _, _, _, _, fun i => ns.getD i 0, rfl, Walks.list (show X.A.in1.handled = none from I.ok.hd hc) s.heap.objs.size a (Nat.ne_of_lt ha) its.toArray, ⟨⟨_, Heap.get?_push_size _ rfl, rfl, rfl⟩, p.isList.at fun o e => Heap.get?_push_of_some _ e⟩, ?_, ?_, ?_⟩
  · intro b hb
    show b < (s.heap.push _).objs.size
    rw [Heap.size_push]
    simp only [List.mem_cons, List.not_mem_nil, or_false] at hb
    rcases hb with rfl | rfl
    · exact Nat.lt_succ_self _
    · exact Nat.lt_succ_of_lt ha
  · intro i v hv
    have hv' : its[i]? = some v := by simpa using hv
    obtain ⟨hi, e⟩ := List.getElem?_eq_some_iff.mp hv'
    obtain ⟨n, t, e1, e2⟩ := ints_get i1 hi
    exact ⟨t, by dsimp only; rw [← e, e2, List.getD_eq_getElem?_getD, e1]; rfl⟩
  · intro h' tk t' k
    have e : preSum (fun i => ns.getD i 0) its.toArray.size = ns.sum := by
      rw [List.size_toArray, hl, preSum_take ns _ (Nat.le_refl _), List.take_length]
    rw [e]
    refine ⟨.int ns.sum, H, I.kept (t' := tk) (fun b o q => ?_), ⟨t', rfl⟩, q⟩
    exact k b o (by simp; exact Nat.ne_of_lt (Heap.lt_size q)) (Heap.get?_push_of_some _ q)
theorem dlen {A : Around} {E : Value → Shared → Prop} {s : Shared} {d : Addr} {es : Array DictEntry} {ep : Nat} {prog : Program} {w : World} {Q : Value → Shared → Prop} (lo : (d == sysModules) = false) (r : LwD.Raw s.heap d es ep)
    (q : Q (.int es.size s.toks) { s with toks := s.toks + 1 }) : wpAny (model prog w) A (call (.builtin "dict.__len__") [.ref d]) Q E s := by
  obtain ⟨o, ho, hc, hdat⟩ := id r
  refine wpAny_call_entry PySem.F.slot_dict_len r.ty PySem.F.entry_dict_len ?_ (PySem.F.args_dict_len_1 _)
  unfold Builtin.«dict.__len__» Builtin.Dict.dictSlotNone Builtin.Dict.pendingCount dictSize
  refine wpAny_bind (wpAny_bind (wpAny_notOrdered_dict r.ty (show wpAny _ _ (pure (Value.ref d)) _ _ s from wpAny_pure ?_)))
  refine wpAny_bind (show wpAny _ _ (pure d) _ _ s from wpAny_pure ?_)
  refine wpAny_bind (wpAny_bind (wpAny_dictEntries ho hdat (wpAny_pure ?_)))
  rw [if_neg (by rw [lo]; exact Bool.false_ne_true)]
  refine wpAny_bind (wpAny_pure ?_)
  refine wpAny_bind (wpAny_mkInt (wpAny_pure ⟨_, rfl, ?_⟩))
  simpa using q
noncomputable def rLenT : List V → Hp → VK → Prop := fun xs H Q => ∃ a kvs, xs = [V.ref a] ∧ Rd H a (.dT kvs) ∧ Q (.int kvs.length) H
theorem call_lenT : CallR X (.builtin "len") rLenT := by
  intro pins s σ H xs us Q I r h
  obtain ⟨a, kvs, rfl, ha, q⟩ := h
  obtain ⟨u, rfl, ru⟩ := vals1 r
  cases ru
  obtain ⟨z, lo, ks, rel, dd⟩ := dt_rd I.hok ha
  obtain ⟨o, es, ep, hd1, hd2, hd3, he, his, hn⟩ := id dd
  have raw : LwD.Raw s.heap a es ep := ⟨o, hd1, hd2, hd3⟩
  have l1 : es.size = kvs.length := (size_of_entries he).trans (Paired.length rel).symm
  rw [sizeLine_eq] at z
  refine PyProof.Rows.call_len_slot (n := es.size) raw.ty PySem.F.slot_dict_len (fun Q' h => dlen lo raw h) (by omega) (by omega) ⟨.int es.size, H, I.tok _, ⟨_, rfl⟩, ?_⟩
  rw [l1]
  exact q
end
end Lw

namespace L2
open PySem PySem.Spec PyProof.Rows
noncomputable def Itel (K : PySem.W.Frag) (a : Addr) : It :=
  ⟨fun i H => ∃ xs x, SqL K H a xs ∧ xs[i]? = some x,
   fun i H v H' => ∃ p x, H p = none ∧ v = .ref p ∧ H' = upd H p (.tup [.int i, x]) ∧ (∀ xs, SqL K H a xs → xs[i]? = some x),
   fun i H => ∃ xs, SqL K H a xs ∧ xs.length ≤ i⟩
theorem turn_enumL {P : Program} {w : World} {K : PySem.W.Frag} {es : List Expr} {x1} {pos : Pos} (l : Addr) {e it : Addr} (hne : e ≠ it) : Turn P w K (.Tuple es x1 pos) (Itel K l) [e, it] e (fun i h => (∃ old, IsEnum h e it i old) ∧ h.IsListIter it l i) where
  mem := by simp
  obj := fun i h Z b hb => by
    simp only [List.mem_cons, List.not_mem_nil, or_false] at hb
    obtain ⟨⟨old, he⟩, ⟨o1, g1, c1, d1⟩⟩ := Z
    rcases hb with rfl | rfl
    · exact ⟨_, he, fun v q => by cases (show Data.fields _ = Data.cell v from q)⟩
    · exact ⟨_, g1, fun v q => by rw [d1] at q; cases q⟩
  keep := fun i h h' Z k => by
    obtain ⟨⟨old, he⟩, s1⟩ := Z
    exact ⟨⟨old, k e (by simp) _ he⟩, Heap.IsListIter.at s1 fun o y => k it (by simp) o y⟩
  item := by
    intro X hP hw hK hc i pins s σ H E I hf Z hg
    subst hP hw hK
    obtain ⟨xs, x, q1, hx⟩ := hg
    obtain ⟨its1, r1, p1, _⟩ := I.list q1
    obtain ⟨u1, hu1, ru1⟩ := r1.get hx
    obtain ⟨⟨old, he⟩, hit⟩ := id Z
    have ae : l ≠ e := FpOk.apartL I (hf e (by simp)) q1
    have ai : l ≠ it := FpOk.apartL I (hf it (by simp)) q1
    refine wpAny_pyNext_enum_item he hit p1.isList (x := u1) (by simpa using hu1) hne fun g out n1 nu _ kk => ⟨_, rfl, ?_⟩
    refine wpAny_letOwnedTupleGo_enum out fun g2 z2 sb => ?_
    have fr : H s.heap.objs.size = none := I.hok.fresh (Nat.le_refl _)
    have el : e < s.heap.objs.size := Heap.lt_size he
    have il : it < s.heap.objs.size := by obtain ⟨_, y, _⟩ := hit; exact Heap.lt_size y
    have fp : ∀ b ∈ [e, it], FpOk X pins (upd H s.heap.objs.size (.tup [.int i, x])) b := fun b hb => by
      have lt : b ≠ s.heap.objs.size := by
        simp only [List.mem_cons, List.not_mem_nil, or_false] at hb
        rcases hb with rfl | rfl
        · exact Nat.ne_of_lt el
        · exact Nat.ne_of_lt il
      exact ⟨by rw [upd_ne lt]; exact (hf b hb).1, (hf b hb).2⟩
    have I1 : Inv X pins σ (upd H s.heap.objs.size (.tup [.int i, x])) { s with heap := s.heap.push { cls := .type "tuple", data := .seq #[.int i s.toks, u1] } } := I.laid (t' := s.toks) (fun b u e => Heap.get?_push_of_some _ e) (Nat.le_refl _) ⟨by simp [sizeLine], [.int i s.toks, u1], .cons ⟨_, rfl⟩ (.cons ru1 .nil), ⟨_, Heap.get?_push_size _ rfl, rfl, _, rfl⟩⟩
    have up : ∀ c o, c ≠ e → g.get? c = some o → g2.get? c = some o := fun c o cz y => sb.extBut _ _ cz y
    have I2 : Inv X pins σ (upd H s.heap.objs.size (.tup [.int i, x])) { s with heap := g2, toks := s.toks + 1 } := by
      refine Inv.turnedL (s := { s with heap := s.heap.push { cls := .type "tuple", data := .seq #[.int i s.toks, u1] } }) (h' := g2) (t' := s.toks + 1) I1 fp fun b o hb y => ?_
      simp only [List.mem_cons, List.not_mem_nil, or_false, not_or] at hb
      rcases Heap.get?_push_cases y with ⟨e1, e2⟩ | e1
      · rw [e1, e2]
        exact up _ _ (Nat.ne_of_gt el) nu
      · exact up _ _ hb.1 (kk b o hb.1 hb.2 e1)
    exact ⟨.ref s.heap.objs.size, _, I2, rfl, ⟨_, x, fr, rfl, rfl, fun xs' h => by rw [I.list_inj h q1]; exact hx⟩, ⟨⟨_, by simpa using z2⟩, Heap.IsListIter.at n1 fun o y => up _ o (Ne.symm hne) y⟩, fun b hb => (fp b hb).1⟩
  done := by
    intro X hP hw hK hc i pins s σ H E I hf Z hg
    subst hP hw hK
    obtain ⟨xs, q1, hl⟩ := hg
    obtain ⟨its1, r1, p1, _⟩ := I.list q1
    obtain ⟨⟨old, he⟩, hit⟩ := id Z
    have e1 := r1.length
    refine wpAny_pyNext_enum_end (I.ok.hd hc) he hit p1.isList (by simp; omega) fun g eb => ⟨rfl, Inv.turnedL (t' := s.toks) I hf fun b o hb y => eb b o (fun z => hb (by simp [z])) y⟩
  self := fun _ _ _ _ _ Z h => by
    obtain ⟨⟨old, he⟩, _⟩ := Z
    exact wpAny_pyIter_enum he h
section
variable {X : Cx}
noncomputable def iEnumL (K : PySem.W.Frag) (ta : TA) : TI := fun σ H R => ta σ H fun vs H1 => ∃ a, vs = [.ref a] ∧ (∃ xs, SqL K H1 a xs) ∧ R (Itel K a) H1
theorem pi_enumL {es : List Expr} {x1} {tp : Pos} {a : Expr} {ta : TA} {p pos : Pos} (hg : Gl X "enumerate") (hm : X.mg "enumerate" = none) (ha : PA X [a] ta) (hs : starEach [a] X.env = [(false, eval a X.env)] := by rfl) :
    PI X (.Tuple es x1 tp) (.Call (.Name "enumerate" p) [a] [] pos) (iEnumL X.K ta) := by
  intro pins s σ H R I h
  refine Call_ (ld_blt I hg hm (show bootBuiltins "enumerate" = some (.type "enumerate") by decide +kernel) (PyProof.Rows.callWith_type1 (thn (ha pos pins s σ H _ I h) fun us s1 ⟨vs, H1, I1, r1, q1⟩ => ?_) hs rfl))
  obtain ⟨l1, e, ⟨xs, q1⟩, q⟩ := q1
  subst e
  obtain ⟨u, rfl, ru⟩ := vals1 r1
  cases ru
  obtain ⟨its1, _, p1, _⟩ := I1.list q1
  refine call_enumerate_list p1.isList fun g he hit _ k => wpAny_pyIter_enum he ?_
  refine ⟨_, [s1.heap.objs.size + 1, s1.heap.objs.size], _, _, H1, rfl, I1.kept (t' := s1.toks) k, turn_enumL l1 (Nat.ne_of_gt (Nat.lt_succ_self _)), ⟨⟨_, he⟩, hit⟩, fun b hb => ?_, q⟩
  have hb' : s1.heap.objs.size ≤ b := by
    simp only [List.mem_cons, List.not_mem_nil, or_false] at hb
    rcases hb with rfl | rfl <;> first | exact Nat.le_add_right _ _ | exact Nat.le_refl _
  exact I1.fpOk hb' (I1.hok.fresh hb')
end
theorem for_enumL {K : PySem.W.Frag} {a : Addr} {xs : List V} {g : TG} {tb : TS} {D : Ends} {σ : St} {H : Hp} (Pv : Nat → St → Hp → Prop) (h0 : Pv 0 σ H) (hl : ∀ i σ H, i ≤ xs.length → Pv i σ H → SqL K H a xs)
    (hs : ∀ i x p σ H, xs[i]? = some x → H p = none → Pv i σ H → g (.ref p) σ (upd H p (.tup [.int i, x])) fun σ2 H2 => tb { D with nx := Pv (i + 1), ct := Pv (i + 1), bk := D.nx } σ2 H2) (hd : ∀ σ H, Pv xs.length σ H → D.nx σ H) :
    ∃ W : Nat → Nat → St → Hp → Prop, (∃ m, W 0 m σ H) ∧ ∀ i m σ H, W i m σ H →
      ((Itel K a).stop i H ∧ D.nx σ H) ∨ ((Itel K a).go i H ∧ ∃ N : St → Hp → Prop, (∀ σ' H', N σ' H' → ∃ m', m' < m ∧ W (i + 1) m' σ' H') ∧ ∀ x H', (Itel K a).yld i H x H' → g x σ H' fun σ2 H2 => tb { D with nx := N, ct := N, bk := D.nx } σ2 H2) := by
  refine ⟨fun i m σ H => m = xs.length - i ∧ i ≤ xs.length ∧ Pv i σ H, ⟨xs.length, by simp, Nat.zero_le _, h0⟩, ?_⟩
  rintro i m σ H ⟨rfl, hi, p⟩
  have q := hl i σ H hi p
  by_cases hlt : i < xs.length
  · refine .inr ⟨⟨xs, xs[i], q, by simp [hlt]⟩, Pv (i + 1), fun σ' H' p' => ⟨xs.length - (i + 1), by omega, rfl, hlt, p'⟩, fun v H' y => ?_⟩
    obtain ⟨r, x, hr, rfl, rfl, hx⟩ := y
    exact hs i x r σ H (hx xs q) hr p
  · have ei : i = xs.length := by omega
    subst ei
    exact .inl ⟨⟨xs, q, Nat.le_refl _⟩, hd σ H p⟩
end L2

namespace Lw
open PySem PySem.Spec PyProof.Rows L2
noncomputable def top (i : Nat) : Stmt := PySem.Challenge.pw_lowwater_k14_squares_looked_at.main.body.getD i (.Pass ⟨0, 0, 0, 0⟩)
noncomputable abbrev sGcd : Stmt := top 8
noncomputable abbrev sMul : Stmt := top 9
noncomputable abbrev sDiv : Stmt := top 10
noncomputable abbrev sCommon : Stmt := top 13
noncomputable abbrev sAllM : Stmt := top 14
noncomputable abbrev sSqd : Stmt := top 15
noncomputable abbrev sWSq : Stmt := top 16
noncomputable abbrev sCome : Stmt := top 17
noncomputable abbrev sAre : Stmt := top 18
noncomputable abbrev sDraw : Stmt := top 20
noncomputable abbrev sLow : Stmt := top 21
noncomputable abbrev sPlus : Stmt := top 22
noncomputable abbrev sLMul : Stmt := top 23
noncomputable abbrev sLike : Stmt := top 24
noncomputable abbrev sPut : Stmt := top 25
noncomputable abbrev sAdded : Stmt := top 26
noncomputable abbrev sProd : Stmt := top 27
noncomputable abbrev sScaled : Stmt := top 28
noncomputable abbrev sSame : Stmt := top 29
noncomputable abbrev sLSum : Stmt := top 31
noncomputable abbrev sNum : Stmt := top 32
noncomputable abbrev sNumber : Stmt := top 33
noncomputable abbrev sBorne : Stmt := top 34
noncomputable abbrev sDrawn : Stmt := top 35
noncomputable abbrev sOther : Stmt := top 36
noncomputable abbrev sBent : Stmt := top 37
noncomputable abbrev sTold : Stmt := top 38
noncomputable abbrev sLaw : Stmt := top 39
theorem rvT {K : PySem.W.Frag} {H : Hp} {p : Addr} {xs : List V} {i : Int} {v : V} {Q : VK} {σ : L2.St} {a : Nat} (e1 : σ[a]? = some (some (.ref p))) (h : SqT K H p xs) (e : atI xs i = some v) (q : Q v H) : tOp (rIxT K) (tVar a) (tC (.int i)) σ H Q := ⟨_, e1, p, xs, i, v, rfl, rfl, h, e, q⟩
theorem rvL {K : PySem.W.Frag} {H : Hp} {p : Addr} {xs : List V} {i : Int} {v : V} {Q : VK} {σ : L2.St} {a : Nat} (e1 : σ[a]? = some (some (.ref p))) (h : SqL K H p xs) (e : atI xs i = some v) (q : Q v H) : tOp (rIxL K) (tVar a) (tC (.int i)) σ H Q := ⟨_, e1, p, xs, i, v, rfl, rfl, h, e, q⟩
theorem gT2 {K : PySem.W.Frag} {H : Hp} {a : Addr} {x y : V} {i j n : Nat} {σ : L2.St} {Q : L2.St → Hp → Prop} (h : SqT K H a [x, y]) (hn : 2 = n) (q : Q ((σ.set i (some x)).set j (some y)) H) : gTup K n (gCons (gName i) (gCons (gName j) gNil)) (.ref a) σ H Q := ⟨a, _, rfl, h, hn, _, _, rfl, _, _, rfl, rfl, q⟩
theorem oVV {C : Int → Int → Prop} {g : Int → Int → V} {σ : L2.St} {a b : Nat} {x y : Int} {H : Hp} {Q : VK} (e1 : σ[a]? = some (some (.int x))) (e2 : σ[b]? = some (some (.int y))) (c : C x y) (q : Q (g x y) H) : tOp (rI C g) (tVar a) (tVar b) σ H Q := ⟨_, e1, _, e2, _, _, rfl, rfl, c, q⟩
theorem gSet {p : Addr} {xs : List V} {i : Int} {j a : Nat} {v : V} {σ : L2.St} {H : Hp} {Q : L2.St → Hp → Prop} (e : σ[a]? = some (some (.ref p))) (h : H p = some (.lst xs)) (hj : ixN xs.length i = some j) (q : Q σ (upd H p (.lst (xs.set j v)))) : gSub (tVar a) (tC (.int i)) rSetL v σ H Q := ⟨_, e, p, xs, i, j, rfl, rfl, h, hj, q⟩
noncomputable def Tape (cl : Addr) (H : Hp) (tp : Addr) (B : Int) : Prop := ∃ (ns : List Int) (spot rest left : Int), H tp = some (.lst [.ref cl, .int spot, .int rest, .int left]) ∧ H cl = some (.lst (ns.map V.int)) ∧ ns.length ≤ 63 ∧ 0 ≤ spot ∧ spot ≤ B
theorem Tape.mono {cl : Addr} {H H' : Hp} {tp : Addr} {B B' : Int} (e : Same H H') (hB : B ≤ B') (h : Tape cl H tp B) : Tape cl H' tp B' := by
  obtain ⟨ns, spot, rest, left, h1, h2, h3, h4, h5⟩ := h
  exact ⟨ns, spot, rest, left, e _ _ h1, e _ _ h2, h3, h4, by omega⟩

noncomputable def spGcd : Sp := fun vs H Q _ => ∃ a b : Int, vs = [.int a, .int b] ∧ 0 < b ∧ b.natAbs < 2 ^ 8000 ∧ Q (.int (Int.gcd a b)) H
noncomputable def spDraw : Sp := fun vs H Q _ => ∃ (tp : Addr) (many B : Int), vs = [.ref tp, .int many] ∧ ∃ cl, Tape cl H tp B ∧ B < 2 ^ 40 ∧ 0 < many ∧ many < 2 ^ 100 ∧
  ∀ (r : Int) (H' : Hp), 0 ≤ r → r < many → Tape cl H' tp (B + 1) → But tp H H' → Q (.int r) H'
theorem dDraw {tp : Addr} {many B : Int} {cl : Addr} {H : Hp} {Q : VK} {σ : L2.St} {a : Nat} (e : σ[a]? = some (some (.ref tp))) (hT : Tape cl H tp B) (h1 : B < 2 ^ 40) (h2 : 0 < many) (h3 : many < 2 ^ 100) (k : ∀ (r : Int) (H' : Hp), 0 ≤ r → r < many → Tape cl H' tp (B + 1) → But tp H H' → Q (.int r) H') : tCall spDraw [] E0 (tCons (tVar a) (tCons (tC (.int many)) tNil)) σ H Q := ⟨_, e, tp, many, B, rfl, cl, hT, h1, h2, h3, k⟩
noncomputable def lowT (t b : Int) : Int := (if b < 0 then 0 - t else t) / (Int.gcd t b : Int)
noncomputable def lowB (t b : Int) : Int := (if b < 0 then 0 - b else b) / (Int.gcd t b : Int)
noncomputable def LowFit (t b : Int) : Prop := b.natAbs < 2 ^ 8000 ∨ (t.natAbs < 2 ^ 13400 ∧ b.natAbs < 2 ^ 13400)
noncomputable def spLow : Sp := fun vs H Q _ => ∃ t b : Int, vs = [.int t, .int b] ∧ b ≠ 0 ∧ LowFit t b ∧
  ∀ (p : Addr) (H' : Hp), H p = none → Same H H' → H' p = some (.tup [.int (lowT t b), .int (lowB t b)]) → Q (.ref p) H'
noncomputable def spLaw (K : PySem.W.Frag) : Sp := fun vs H Q _ => ∃ (a : Addr) (ns : List Int), vs = [.ref a] ∧ SqL K H a (ns.map V.int) ∧ ns.length ≤ 63 ∧ ∀ H', Q (.bl true) H'
structure Txt (mg : Str → Option Value) : Prop where
  isi : mg "isinstance" = none
  len : mg "len" = none
  int : mg "int" = none
  bool : mg "bool" = none
  tup : mg "tuple" = none
  lst : mg "list" = none
  abs : mg "abs" = none
  rng : mg "range" = none
  lbits : ∃ t, mg "LONG_BITS" = some (.int 8000 t)
  sum : mg "sum" = none
  zip : mg "zip" = none
  sorted : mg "sorted" = none
  enum : mg "enumerate" = none
  any : mg "any" = none
  all : mg "all" = none
  dct : mg "dict" = none
structure Df (K : PySem.W.Frag) (mg : Str → Option Value) (x : Str) (st : Stmt) (ps : List Str) (f : Addr) (fd : FuncData) : Prop where
  F : Fun K x x st f fd
  b : Binds K fd ps []
  m : mg x = some (.ref f)
section
variable {P : Program} {w : World} {K : PySem.W.Frag} {mg : Str → Option Value} {base : Heap} {f fd : _}
theorem scGcd : FnScope ["one", "other"] ["one", "other"] (defScope sGcd) := ⟨rfl, rfl, rfl, by decide +kernel, rfl, by decide +kernel, by decide +kernel⟩
theorem mt_bits {X : Cx} : MtR X "int.bit_length" (fun x xs H Q => ∃ i : Int, x = .int i ∧ xs = [] ∧ Q (.int (Builtin.Int.intBits i : Nat)) H) := by
  intro pins s σ H x xs v us Q I rx rs q
  obtain ⟨i, rfl, rfl, q⟩ := q
  obtain ⟨t, rfl⟩ := rx
  cases rs
  exact call_int_bit_length ⟨.int (Builtin.Int.intBits i : Nat), H, I.tok _, ⟨_, rfl⟩, q⟩
theorem ok_gcd (F : Fun K "greatest_divisor" "greatest_divisor" sGcd f fd) (T : Txt mg) : FnOk P w K mg base CX0 1 f fd ["one", "other"] spGcd := by
  obtain ⟨tl, hl⟩ := T.lbits
  refine F.ok scGcd (fun vs H Q E h => ?_) (fun cdv A outer s H vs Q E hr h => ?_)
  · obtain ⟨a, b, rfl, _⟩ := h
    rfl
  · obtain ⟨a, b, rfl, hb, hs, k⟩ := h
    refine ⟨_, pss_cons (ps_while PassesOwn.never (pt_cmpR op_ne (pv 1) pe_int (nomark _))
        (pss_one (ps_if (pt_cmpR op_gt (pe_bm0 PySem.F.plainAttrs_int slot_int_bit_length type_int_bit_length mt_bits (pv 1)) (pe_glob (v := .int 8000) (by rfl) hl ⟨_, rfl⟩) (nomark _)) pss_never
          (pss_one (ps_par (i := 0) (j := 1) rfl scGcd.nd rfl rfl (by decide) rfl rfl (pa_cons (pv 1) (pa_cons (pe_op op_mod (pv 0) (pv 1)) pa_nil)) rfl)))))
      (pss_one (ps_ret (pv 0))), ?_⟩
    try dsimp only [cxK]
    refine while_by (fun σ H1 => H1 = H ∧ ∃ p q : Int, σ = [some (.int p), some (.int q)] ∧ 0 ≤ q ∧ (0 < q ∨ 0 ≤ p) ∧ q.natAbs < 2 ^ 8000 ∧ Int.gcd p q = Int.gcd a b)
      (fun σ _ => match σ with | [_, some (.int q)] => q.toNat | _ => 0) ⟨rfl, a, b, rfl, by omega, .inl hb, hs, rfl⟩ ?_ ?_
    · rintro σ H1 ⟨rfl, p, q, rfl, h0, h1, hq8, h2⟩
      refine ⟨_, rfl, rfl, _, rfl, ?_⟩
      refine ite2 (fun e => ?_) (fun e => ?_)
      · have hq : 0 < q := by
          have : q ≠ 0 := fun z => by simp [z] at e
          omega
        have hbits : (Builtin.Int.intBits q) ≤ 8000 := PySem.intBits_le_iff.mpr hq8
        refine ⟨_, rfl, rfl, _, rfl, rfl, _, _, rfl, rfl, _, rfl, iteN (decide_eq_false (by omega)) ?_⟩
        refine ⟨_, rfl, _, rfl, _, rfl, _, _, rfl, rfl, hq, _, _, rfl, ?_⟩
        have m1 := Int.emod_nonneg p (b := q) (by omega)
        have m2 := Int.emod_lt_of_pos p hq
        have m3 : (p % q).natAbs ≤ q.natAbs := by omega
        refine ⟨⟨rfl, q, p % q, rfl, m1, .inr h0, Nat.lt_of_le_of_lt m3 hq8, (LwM.gcd_step p q).trans h2⟩, ?_⟩
        show (p % q).toNat < q.toNat
        omega
      · have hq : q = 0 := by
          by_cases z : q = 0
          · exact z
          · exact absurd (by simp [z]) e
        subst hq
        refine ⟨_, rfl, ?_⟩
        have : p = ((Int.gcd a b : Nat) : Int) := by
          rw [← h2, Int.gcd_zero_right]
          omega
        rw [this]
        exact k
    · rintro σ H1 Q1 Q2 hQ ⟨v, e, hs, k', ek, q⟩
      exact ⟨v, e, hs, k', ek, hQ _ _ q⟩
theorem scLow : FnScope ["top", "bottom", "one", "other"] ["top", "bottom"] (defScope sLow) := ⟨rfl, rfl, rfl, by decide +kernel, rfl, by decide +kernel, by decide +kernel⟩
theorem ok_low (F : Fun K "_law_low" "_law_low" sLow f fd) (T : Txt mg) : FnOk P w K mg base CX0 1 f fd ["top", "bottom"] spLow := by
  refine F.ok scLow (fun vs H Q E h => ?_) (fun cdv A outer s H vs Q E hr h => ?_)
  · obtain ⟨t, b, rfl, _⟩ := h
    rfl
  · obtain ⟨t, b, rfl, hb, hs, k⟩ := h
    refine ⟨_, pss_cons (ps_if (pt_cmpR op_lt (pv 1) pe_int (nomark _)) (pss_one (ps_par (i := 0) (j := 1) rfl scLow.nd rfl rfl (by decide) rfl rfl (pa_cons (pe_op op_sub pe_int (pv 0)) (pa_cons (pe_op op_sub pe_int (pv 1)) pa_nil)) rfl)) pss_nil)
      (pss_cons (ps_set (i := 2) scLow.nd rfl (Or.inl rfl) (pe_callB call_abs (by rfl) T.abs boot_abs (pa_cons (pv 0) pa_nil)))
      (pss_cons (ps_set (i := 3) scLow.nd rfl (Or.inl rfl) (pv 1))
      (pss_cons (ps_while PassesOwn.never (pt_cmpR op_gt (pv 2) pe_int (nomark _)) (pss_one (ps_par (i := 2) (j := 3) rfl scLow.nd rfl rfl (by decide) rfl rfl (pa_cons (pe_op op_mod (pv 3) (pv 2)) (pa_cons (pv 2) pa_nil)) rfl)))
      (pss_one (ps_ret (pe_tup (pa_cons (pe_op LwD.op_fdivP (pv 0) (pv 3)) (pa_cons (pe_op LwD.op_fdivP (pv 1) (pv 3)) pa_nil)))))))), ?_⟩
    try dsimp only [cxK]
    refine ⟨_, rfl, _, _, rfl, rfl, _, rfl, ?_⟩
    -- behind the signs
    have fin : ∀ t' b' : Int, 0 < b' → (∀ q : Int, 0 < q → q ≤ b' → LwD.CDivP t' q ∧ LwD.CDivP b' q) → t' = (if b < 0 then 0 - t else t) → b' = (if b < 0 then 0 - b else b) → Int.gcd t' b' = Int.gcd t b →
        (tSeq (tAsg (tCB (fun xs H Q => ∃ i, xs = [V.int i] ∧ Q (.int (if i < 0 then -i else i)) H) (tCons (tVar 0) tNil)) (gName 2)) (tSeq (tAsg (tVar 1) (gName 3)) (tSeq (tWhile (tTest (tOp (rI0 fun i j => V.bl (decide (j < i))) (tVar 2) (tC (.int 0)))) (tPar 2 3 (tCons (tOp (rI (fun _ j => 0 < j) fun i j => .int (i % j)) (tVar 3) (tVar 2)) (tCons (tVar 2) tNil)))) (tRet (tTup (tCons (tOp (rI LwD.CDivP fun i j => .int (i / j)) (tVar 0) (tVar 3)) (tCons (tOp (rI LwD.CDivP fun i j => .int (i / j)) (tVar 1) (tVar 3)) tNil))))))) { nx := fun _ H' => Q .non H', rt := Q } [some (.int t'), some (.int b'), none, none] H := by
      intro t' b' hb' hs' et eb hg
      refine ⟨_, rfl, _, rfl, _, rfl, ?_⟩
      refine while_by (fun σ H1 => H1 = H ∧ ∃ p q : Int, σ = [some (.int t'), some (.int b'), some (.int p), some (.int q)] ∧ 0 ≤ p ∧ 0 < q ∧ Int.gcd q p = Int.gcd t b)
        (fun σ _ => match σ with | [_, _, some (.int p), _] => p.toNat | _ => 0) ⟨rfl, _, b', rfl, by split <;> omega, hb', ?_⟩ ?_ ?_
      · rw [← hg, Int.gcd_comm t']
        split
        · exact Int.gcd_neg
        · rfl
      · rintro σ H1 ⟨rfl, p, q, rfl, h0, h1, h2⟩
        refine ⟨_, rfl, _, _, rfl, rfl, _, rfl, ?_⟩
        refine ite2 (fun e => ?_) (fun e => ?_)
        · have hp : 0 < p := of_decide_eq_true e
          refine ⟨_, rfl, _, rfl, _, _, rfl, rfl, hp, _, rfl, _, _, rfl, ?_⟩
          have m1 := Int.emod_nonneg q (b := p) (by omega)
          have m2 := Int.emod_lt_of_pos q hp
          refine ⟨⟨rfl, q % p, p, rfl, m1, hp, (LwM.gcd_step q p).trans h2⟩, ?_⟩
          show (q % p).toNat < p.toNat
          omega
        · have hp : p = 0 := by
            have : ¬ 0 < p := fun z => e (decide_eq_true z)
            omega
          subst hp
          have hq : q = ((Int.gcd t b : Nat) : Int) := by
            rw [← h2, Int.gcd_zero_right]
            omega
          have gb : q ≤ b' := by
            rw [hq, ← hg]
            exact LwM.gcd_le t' b' hb'
          obtain ⟨c1, c2⟩ := hs' q h1 gb
          refine ⟨_, rfl, _, rfl, _, _, rfl, rfl, c1, _, rfl, _, rfl, _, _, rfl, rfl, c2, (by show 2 ≤ sizeLine; decide), ?_⟩
          refine fresh fun p H' n s1 e1 => k p H' n s1 ?_
          rw [e1, hq, et, eb]
          rfl
      · rintro σ H1 Q1 Q2 hQ ⟨v, e, i, j, e1, e2, k', ek, q⟩
        exact ⟨v, e, i, j, e1, e2, k', ek, hQ _ _ q⟩
    have hs2 : ∀ t' b' : Int, t'.natAbs = t.natAbs → b'.natAbs = b.natAbs → 0 < b' → ∀ q : Int, 0 < q → q ≤ b' → LwD.CDivP t' q ∧ LwD.CDivP b' q := fun t' b' e1 e2 h0 q h1 h2 => by
      rcases hs with hs | ⟨ha, hb2⟩
      · have hq : q.natAbs < 2 ^ 8000 := Nat.lt_of_le_of_lt (by omega) hs
        exact ⟨LwD.cdivp_of ⟨h1, hq⟩, LwD.cdivp_of ⟨h1, hq⟩⟩
      · exact ⟨LwD.cdivp_near h1 (Nat.le_refl _) (by rw [e1]; exact ha), LwD.cdivp_near h1 (Nat.le_refl _) (by rw [e2]; exact hb2)⟩
    by_cases n : b < 0
    · refine iteP (decide_eq_true n) ?_
      refine ⟨_, rfl, _, _, rfl, rfl, _, rfl, _, _, rfl, rfl, _, _, rfl, ?_⟩
      refine fin (0 - t) (0 - b) (by omega) (hs2 _ _ (by omega) (by omega) (by omega)) (by rw [if_pos n]) (by rw [if_pos n]) ?_
      rw [Int.zero_sub, Int.zero_sub, Int.neg_gcd, Int.gcd_neg]
    · refine iteN (decide_eq_false n) ?_
      exact fin t b (by omega) (hs2 _ _ rfl rfl (by omega)) (by rw [if_neg n]) (by rw [if_neg n]) rfl
theorem low_pos {t b : Int} (h : 0 < b) : lowT t b = t / (Int.gcd t b : Int) ∧ lowB t b = b / (Int.gcd t b : Int) := by
  unfold lowT lowB
  rw [if_neg (by omega), if_neg (by omega)]
  exact ⟨rfl, rfl⟩
theorem at_ints {ns : List Int} {i : Int} (h0 : 0 ≤ i) (h1 : i < ns.length) : ∃ c : Int, atI (ns.map V.int) i = some (.int c) := by
  obtain ⟨j, rfl⟩ := Int.eq_ofNat_of_zero_le h0
  have hj : j < ns.length := by omega
  exact ⟨ns[j], atI_nat (by simp [hj])⟩
theorem scDraw : FnScope ["tape", "many", "spot", "cell", "some", "rest"] ["tape", "many"] (defScope sDraw) := ⟨rfl, rfl, rfl, by decide +kernel, rfl, by decide +kernel, by decide +kernel⟩
theorem ok_draw (F : Fun K "_law_draw" "_law_draw" sDraw f fd) (T : Txt mg) : FnOk P w K mg base CX0 1 f fd ["tape", "many"] spDraw := by
  refine F.ok scDraw (fun vs H Q E h => ?_) (fun cdv A outer s H vs Q E hr h => ?_)
  · obtain ⟨tp, many, B, rfl, _⟩ := h
    rfl
  · obtain ⟨tp, many, B, rfl, cl, ⟨ns, spot, rest, left, h1, h2, h3, h4, h5⟩, hB, hm, hm2, k⟩ := h
    have hne : cl ≠ tp := by
      rintro rfl
      rw [h1] at h2
      injection h2 with h2
      injection h2 with h2
      cases ns with
      | nil => cases h2
      | cons n r => injection h2 with z; cases z
    -- tape[i]
    refine ⟨_, pss_cons (ps_if (pt_cmpR op_eq (pe_ix ix_list (pv 0) pe_int (fun _ _ => rfl)) pe_int (nomark _))
        (pss_cons (ps_set (i := 2) scDraw.nd rfl (Or.inl rfl) (pe_ix ix_list (pv 0) pe_int (fun _ _ => rfl)))
        (pss_cons (ps_asg (pe_op op_add (pv 2) pe_int) (pg_sub (pv 0) pe_int set_list))
        (pss_cons (ps_set (i := 3) scDraw.nd rfl (Or.inl rfl) pe_int)
        (pss_cons (ps_if (pt_cmpR op_gt (pe_callB call_len_seq (by rfl) T.len PySem.boot_len (pa_cons (pe_ix ix_list (pv 0) pe_int (fun _ _ => rfl)) pa_nil)) pe_int (nomark _))
          (pss_one (ps_set (i := 3) scDraw.nd rfl (Or.inl rfl) (pe_ix ix_list (pe_ix ix_list (pv 0) pe_int (fun _ _ => rfl)) (pe_op op_mod (pv 2) (pe_callB call_len_seq (by rfl) T.len PySem.boot_len (pa_cons (pe_ix ix_list (pv 0) pe_int (fun _ _ => rfl)) pa_nil))) (fun _ _ => rfl)))) pss_nil)
        (pss_cons (ps_if (PW.pt (pw_or (pt_cmpR op_ge (pv 2) (pe_callB call_len_seq (by rfl) T.len PySem.boot_len (pa_cons (pe_ix ix_list (pv 0) pe_int (fun _ _ => rfl)) pa_nil)) (nomark _)) (pw_or1 (pt_cmpR op_lt (pv 3) (pe_op op_pow pe_int pe_int) (nomark _)))))
          (pss_cons (ps_set (i := 4) scDraw.nd rfl (Or.inl rfl) (pe_op op_add (pe_op op_add (pe_op op_mod (pe_op op_mul (pv 2) (pv 2)) pe_int) (pe_op op_mul pe_int (pv 2))) pe_int))
          (pss_cons (ps_set (i := 4) scDraw.nd rfl (Or.inl rfl) (pe_op op_mod (pe_op op_mul (pe_op op_add (pe_op op_mod (pv 3) pe_int) pe_int) (pv 4)) pe_int))
          (pss_one (ps_ret (pe_op op_mod (pe_op op_mod (pe_op op_add (pe_op op_fdiv (pe_op op_mod (pe_op op_mul (pv 4) (pv 4)) pe_int) pe_int) (pe_op op_mul pe_int (pv 2))) pe_int) (pv 1)))))) pss_nil)
        (pss_cons (ps_asg (pe_op op_sub (pv 3) (pe_op op_pow pe_int pe_int)) (pg_sub (pv 0) pe_int set_list))
        (pss_one (ps_asg pe_int (pg_sub (pv 0) pe_int set_list))))))))) pss_nil)
      (pss_cons (ps_asg (pe_op op_sub (pe_ix ix_list (pv 0) pe_int (fun _ _ => rfl)) pe_int) (pg_sub (pv 0) pe_int set_list))
      (pss_cons (ps_set (i := 5) scDraw.nd rfl (Or.inl rfl) (pe_ix ix_list (pv 0) pe_int (fun _ _ => rfl)))
      (pss_cons (ps_asg (pe_op op_fdivL (pv 5) (pv 1)) (pg_sub (pv 0) pe_int set_list))
      (pss_one (ps_ret (pe_op op_mod (pv 5) (pv 1))))))), ?_⟩
    try dsimp only [cxK]
    have hmd : many.natAbs < 2 ^ 8000 := by
      have : many.natAbs < 2 ^ 100 := by
        have h : ((2 ^ 100 : Nat) : Int) = 2 ^ 100 := by decide
        omega
      exact Nat.lt_of_lt_of_le this (Nat.pow_le_pow_right (by decide) (by decide))
    -- what is done behind the first test: one digit of rest is taken
    have tail : ∀ (spot' rest' left' : Int) (a b c d : Option V) (H1 : Hp), H1 tp = some (.lst [.ref cl, .int spot', .int rest', .int left']) → But tp H H1 → 0 ≤ spot' → spot' ≤ B + 1 →
        (tSeq (tAsg (tOp (rI0 fun i j => V.int (i - j)) (tOp (rIxL K) (tVar 0) (tC (.int 3))) (tC (.int 1))) (gSub (tVar 0) (tC (.int 3)) rSetL))
          (tSeq (tAsg (tOp (rIxL K) (tVar 0) (tC (.int 2))) (gName 5))
          (tSeq (tAsg (tOp (rI CDivL fun i j => .int (i / j)) (tVar 5) (tVar 1)) (gSub (tVar 0) (tC (.int 2)) rSetL))
          (tRet (tOp (rI (fun _ j => 0 < j) fun i j => .int (i % j)) (tVar 5) (tVar 1)))))) { nx := fun _ H' => Q .non H', rt := Q } [some (.ref tp), some (.int many), a, b, c, d] H1 := by
      intro spot' rest' left' a b c d H1 g1 g2 g3 g4
      refine (rvL rfl (SqL.of g1) rfl ⟨_, _, rfl, rfl, ?_⟩)
      refine gSet rfl g1 rfl ?_
      refine (rvL rfl (SqL.of upd_same) rfl ?_)
      refine oVV rfl rfl ⟨hm, hmd⟩ (gSet rfl upd_same rfl ?_)
      refine ⟨_, rfl, _, rfl, _, _, rfl, rfl, hm, ?_⟩
      refine k _ _ (Int.emod_nonneg _ (by omega)) (Int.emod_lt_of_pos _ hm) ⟨ns, spot', _, _, upd_same, ?_, h3, g3, g4⟩ ?_
      · rw [upd_ne hne, upd_ne hne]
        exact g2 _ _ h2 hne
      · exact (g2.trans (But.upd _ _ _)).trans (But.upd _ _ _)
    refine (rvL rfl (SqL.of h1) rfl ⟨rfl, _, rfl, ?_⟩)
    by_cases hl : left = 0
    · subst hl
      refine iteP (by decide) ?_
      -- spot = tape[1]; tape[1] = spot + 1; cell = 0
      refine (rvL rfl (SqL.of h1) rfl ?_)
      refine ⟨_, rfl, _, _, rfl, rfl, gSet rfl h1 rfl ?_⟩
      -- the tape, one spot on
      have T1 : ∀ o, (upd H tp o) cl = some (.lst (ns.map V.int)) := fun o => by
        rw [upd_ne hne]
        exact h2
      -- behind the second test, the cell known
      have mid : ∀ (cell : Int) (b c : Option V), (tSeq (tIfS (tOr (tTest (tOp (rI0 fun i j => V.bl (decide (j ≤ i))) (tVar 2) (tCB (fun xs H Q => ∃ p ys, xs = [V.ref p] ∧ (SqL K H p ys ∨ SqT K H p ys) ∧ Q (.int ys.length) H) (tCons (tOp (rIxL K) (tVar 0) (tC (.int 0))) tNil))))
            (tTest (tOp (rI0 fun i j => V.bl (decide (i < j))) (tVar 3) (tOp (rI CPow fun i j => .int (i ^ j.toNat)) (tC (.int 10)) (tC (.int 18))))))
          (tSeq (tAsg (tOp (rI0 fun i j => V.int (i + j)) (tOp (rI0 fun i j => V.int (i + j)) (tOp (rI (fun _ j => 0 < j) fun i j => .int (i % j)) (tOp (rI CMul fun i j => .int (i * j)) (tVar 2) (tVar 2)) (tC (.int 10007))) (tOp (rI CMul fun i j => .int (i * j)) (tC (.int 61)) (tVar 2))) (tC (.int 7))) (gName 4))
          (tSeq (tAsg (tOp (rI (fun _ j => 0 < j) fun i j => .int (i % j)) (tOp (rI CMul fun i j => .int (i * j)) (tOp (rI0 fun i j => V.int (i + j)) (tOp (rI (fun _ j => 0 < j) fun i j => .int (i % j)) (tVar 3) (tC (.int 999983))) (tC (.int 3))) (tVar 4)) (tC (.int 1000003))) (gName 4))
          (tRet (tOp (rI (fun _ j => 0 < j) fun i j => .int (i % j)) (tOp (rI (fun _ j => 0 < j) fun i j => .int (i % j)) (tOp (rI0 fun i j => V.int (i + j)) (tOp (rI CDiv fun i j => .int (i / j)) (tOp (rI (fun _ j => 0 < j) fun i j => .int (i % j)) (tOp (rI CMul fun i j => .int (i * j)) (tVar 4) (tVar 4)) (tC (.int 999979))) (tC (.int 3))) (tOp (rI CMul fun i j => .int (i * j)) (tC (.int 131)) (tVar 2))) (tC (.int 99991))) (tVar 1)))))
          tNext)
          (tSeq (tAsg (tOp (rI0 fun i j => V.int (i - j)) (tVar 3) (tOp (rI CPow fun i j => .int (i ^ j.toNat)) (tC (.int 10)) (tC (.int 18)))) (gSub (tVar 0) (tC (.int 2)) rSetL))
          (tAsg (tC (.int 40)) (gSub (tVar 0) (tC (.int 3)) rSetL))))
          { nx := (tSeq (tAsg (tOp (rI0 fun i j => V.int (i - j)) (tOp (rIxL K) (tVar 0) (tC (.int 3))) (tC (.int 1))) (gSub (tVar 0) (tC (.int 3)) rSetL))
          (tSeq (tAsg (tOp (rIxL K) (tVar 0) (tC (.int 2))) (gName 5))
          (tSeq (tAsg (tOp (rI CDivL fun i j => .int (i / j)) (tVar 5) (tVar 1)) (gSub (tVar 0) (tC (.int 2)) rSetL))
          (tRet (tOp (rI (fun _ j => 0 < j) fun i j => .int (i % j)) (tVar 5) (tVar 1)))))) { nx := fun _ H' => Q .non H', rt := Q }, rt := Q } [some (.ref tp), some (.int many), some (.int spot), some (.int cell), b, c] (upd H tp (.lst [.ref cl, .int (spot + 1), .int rest, .int 0])) := by
        intro cell b c
        have pw : CPow 10 18 := ⟨by decide, by decide, by decide⟩
        have drawn : (tSeq (tAsg (tOp (rI0 fun i j => V.int (i + j)) (tOp (rI0 fun i j => V.int (i + j)) (tOp (rI (fun _ j => 0 < j) fun i j => .int (i % j)) (tOp (rI CMul fun i j => .int (i * j)) (tVar 2) (tVar 2)) (tC (.int 10007))) (tOp (rI CMul fun i j => .int (i * j)) (tC (.int 61)) (tVar 2))) (tC (.int 7))) (gName 4))
          (tSeq (tAsg (tOp (rI (fun _ j => 0 < j) fun i j => .int (i % j)) (tOp (rI CMul fun i j => .int (i * j)) (tOp (rI0 fun i j => V.int (i + j)) (tOp (rI (fun _ j => 0 < j) fun i j => .int (i % j)) (tVar 3) (tC (.int 999983))) (tC (.int 3))) (tVar 4)) (tC (.int 1000003))) (gName 4))
          (tRet (tOp (rI (fun _ j => 0 < j) fun i j => .int (i % j)) (tOp (rI (fun _ j => 0 < j) fun i j => .int (i % j)) (tOp (rI0 fun i j => V.int (i + j)) (tOp (rI CDiv fun i j => .int (i / j)) (tOp (rI (fun _ j => 0 < j) fun i j => .int (i % j)) (tOp (rI CMul fun i j => .int (i * j)) (tVar 4) (tVar 4)) (tC (.int 999979))) (tC (.int 3))) (tOp (rI CMul fun i j => .int (i * j)) (tC (.int 131)) (tVar 2))) (tC (.int 99991))) (tVar 1))))) { nx := fun _ _ => False, rt := Q } [some (.ref tp), some (.int many), some (.int spot), some (.int cell), b, c] (upd H tp (.lst [.ref cl, .int (spot + 1), .int rest, .int 0])) := by
          refine ⟨_, rfl, _, rfl, _, _, rfl, rfl, .inl ⟨by omega, by omega⟩, _, _, rfl, rfl, (by show (0 : Int) < _; decide), ?_⟩
          refine ⟨_, rfl, _, _, rfl, rfl, .inl ⟨by omega, by omega⟩, _, _, rfl, rfl, _, _, rfl, rfl, ?_⟩
          have c1 := Int.emod_nonneg cell (b := 999983) (by decide)
          have c2 := Int.emod_lt_of_pos cell (b := 999983) (by decide)
          refine ⟨_, rfl, _, _, rfl, rfl, (by show (0 : Int) < _; decide), _, _, rfl, rfl, _, rfl, _, _, rfl, rfl, .inl ⟨by omega, by omega⟩, _, _, rfl, rfl, (by show (0 : Int) < _; decide), ?_⟩
          generalize hx : ((cell % 999983 + 3) * (spot * spot % 10007 + 61 * spot + 7)) = x
          have d1 := Int.emod_nonneg x (b := 1000003) (by decide)
          have d2 := Int.emod_lt_of_pos x (b := 1000003) (by decide)
          refine ⟨_, rfl, _, rfl, _, _, rfl, rfl, .inl ⟨by omega, by omega⟩, _, _, rfl, rfl, (by show (0 : Int) < _; decide), _, _, rfl, rfl, ⟨by decide, by decide⟩, ?_⟩
          refine ⟨_, rfl, _, _, rfl, rfl, .inl ⟨by decide, by decide⟩, _, _, rfl, rfl, _, _, rfl, rfl, (by show (0 : Int) < _; decide), _, rfl, _, _, rfl, rfl, hm, ?_⟩
          exact k _ _ (Int.emod_nonneg _ (by omega)) (Int.emod_lt_of_pos _ hm) ⟨ns, spot + 1, _, _, upd_same, T1 _, h3, by omega, by omega⟩ (But.upd _ _ _)
        refine ⟨_, rfl, rvL rfl (SqL.of upd_same) rfl ⟨cl, _, rfl, .inl (SqL.of (T1 _)), _, _, rfl, rfl, _, rfl, ?_⟩⟩
        by_cases z1 : ((ns.map V.int).length : Int) ≤ spot
        · refine iteP (decide_eq_true z1) (iteT ?_)
          exact drawn
        · refine iteN (decide_eq_false z1) ?_
          refine ⟨_, rfl, _, _, rfl, rfl, pw, _, _, rfl, rfl, _, rfl, ?_⟩
          by_cases z2 : cell < (10 : Int) ^ (18 : Int).toNat
          · refine iteP (decide_eq_true z2) ?_
            exact drawn
          · refine iteN (decide_eq_false z2) ?_
            refine ⟨_, rfl, _, _, rfl, rfl, pw, _, _, rfl, rfl, gSet rfl upd_same rfl ?_⟩
            refine gSet rfl upd_same rfl ?_
            exact tail (spot + 1) _ 40 _ _ _ _ _ upd_same (((But.upd _ _ _).trans (But.upd _ _ _)).trans (But.upd _ _ _)) (by omega) (by omega)
      refine (rvL rfl (SqL.of upd_same) rfl ⟨cl, _, rfl, .inl (SqL.of (T1 _)), _, _, rfl, rfl, _, rfl, ?_⟩)
      by_cases hn : (0 : Int) < ((ns.map V.int).length : Int)
      · refine iteP (decide_eq_true hn) ?_
        obtain ⟨c, hc⟩ := at_ints (ns := ns) (i := spot % ((ns.map V.int).length : Int)) (Int.emod_nonneg _ (by omega)) (by have := Int.emod_lt_of_pos spot hn; rw [List.length_map] at this ⊢; exact this)
        refine (rvL rfl (SqL.of upd_same) rfl ⟨_, rfl, rvL rfl (SqL.of upd_same) rfl ⟨cl, _, rfl, .inl (SqL.of (T1 _)), _, _, rfl, rfl, hn, cl, _, _, _, rfl, rfl, SqL.of (T1 _), hc, ?_⟩⟩)
        exact mid c _ _
      · refine iteN (decide_eq_false hn) ?_
        exact mid 0 _ _
    · refine iteN (decide_eq_false (by intro z; injection z with z; exact hl z)) ?_
      exact tail spot rest left _ _ _ _ H h1 (But.refl _ _) h4 (by omega)
end
end Lw

namespace LwV
noncomputable abbrev Pl := List (List Int × Rat)
noncomputable def cf : Pl → List Int → Rat
  | [], _ => 0
  | x :: P, m => (if x.1 = m then x.2 else 0) + cf P m
theorem cf_cons (x : List Int × Rat) (P : Pl) (m : List Int) : cf (x :: P) m = (if x.1 = m then x.2 else 0) + cf P m := rfl
theorem cf_app : ∀ (P Q : Pl) (m : List Int), cf (P ++ Q) m = cf P m + cf Q m
  | [], Q, m => by show cf Q m = 0 + cf Q m; grind
  | x :: P, Q, m => by rw [List.cons_append, cf_cons, cf_cons, cf_app P Q m]; grind
theorem cf_perm {P Q : Pl} (h : P.Perm Q) (m : List Int) : cf P m = cf Q m := by
  induction h with
  | nil => rfl
  | cons x _ ih => rw [cf_cons, cf_cons, ih]
  | swap x y l => simp only [cf_cons]; grind
  | trans _ _ h1 h2 => exact h1.trans h2
theorem cf_map (w : Rat) : ∀ (P : Pl) (m : List Int), cf (P.map fun x => (x.1, w * x.2)) m = w * cf P m
  | [], m => by show (0 : Rat) = w * 0; grind
  | x :: P, m => by
    rw [List.map_cons, cf_cons, cf_cons, cf_map w P m]
    by_cases h : x.1 = m
    · rw [if_pos h, if_pos h]; grind
    · rw [if_neg h, if_neg h]; grind
theorem cf_out {P : Pl} {m : List Int} (h : ∀ x ∈ P, x.1 ≠ m) : cf P m = 0 := by
  induction P with
  | nil => rfl
  | cons x P ih =>
    rw [cf_cons, if_neg (h x (by simp)), ih fun y hy => h y (by simp [hy])]
    grind
theorem cf_in {P : Pl} {m : List Int} (h : cf P m ≠ 0) : m ∈ P.map (·.1) := by
  refine Classical.byContradiction fun n => h (cf_out fun x hx e => n ?_)
  exact List.mem_map.mpr ⟨x, hx, e⟩
theorem cf_one {P : Pl} (nd : (P.map (·.1)).Nodup) {x : List Int × Rat} (hx : x ∈ P) : cf P x.1 = x.2 := by
  induction P with
  | nil => cases hx
  | cons y P ih =>
    rw [List.map_cons, List.nodup_cons] at nd
    rw [cf_cons]
    rcases List.mem_cons.mp hx with rfl | h
    · rw [if_pos rfl, cf_out fun z hz e => nd.1 (List.mem_map.mpr ⟨z, hz, e⟩)]
      grind
    · rw [if_neg fun e => nd.1 (List.mem_map.mpr ⟨x, h, e.symm⟩), ih nd.2 h]
      grind
theorem len_le {α : Type} [DecidableEq α] : ∀ {l m : List α}, l.Nodup → (∀ x ∈ l, x ∈ m) → l.length ≤ m.length
  | [], _, _, _ => Nat.zero_le _
  | a :: l, m, h, s => by
    rw [List.nodup_cons] at h
    have ha := s a (by simp)
    have := len_le (l := l) (m := m.erase a) h.2 fun x hx => by
      have ne : x ≠ a := fun e => h.1 (e ▸ hx)
      exact (List.mem_erase_of_ne ne).mpr (s x (by simp [hx]))
    rw [List.length_erase_of_mem ha] at this
    have : 0 < m.length := List.length_pos_of_mem ha
    rw [List.length_cons]
    omega
theorem few_of {P Q : Pl} (nd : (P.map (·.1)).Nodup) (nz : ∀ x ∈ P, x.2 ≠ 0) (h : ∀ m, cf P m = cf Q m) : P.length ≤ Q.length := by
  have := len_le (l := P.map (·.1)) (m := Q.map (·.1)) nd fun m hm => by
    obtain ⟨x, hx, rfl⟩ := List.mem_map.mp hm
    refine cf_in ?_
    rw [← h, cf_one nd hx]
    exact nz x hx
  simpa using this
noncomputable def padd (a b : List Int) : List Int := List.zipWith (· + ·) a b
theorem padd_comm (a b : List Int) : padd a b = padd b a := List.zipWith_comm_of_comm fun x y => Int.add_comm x y
noncomputable def row (x : List Int × Rat) (Q : Pl) : Pl := Q.map fun y => (padd x.1 y.1, x.2 * y.2)
noncomputable def mul : Pl → Pl → Pl
  | [], _ => []
  | x :: P, Q => row x Q ++ mul P Q
theorem mul_app : ∀ (P P' Q : Pl), mul (P ++ P') Q = mul P Q ++ mul P' Q
  | [], _, _ => rfl
  | x :: P, P', Q => by show row x Q ++ mul (P ++ P') Q = _; rw [mul_app P P' Q, ← List.append_assoc]; rfl
noncomputable def hs : Pl → Pl
  | [] => []
  | x :: L => (padd x.1 x.1, x.2 * x.2) :: ((L.map fun y => (padd x.1 y.1, 2 * x.2 * y.2)) ++ hs L)
theorem row_cons (x y : List Int × Rat) (Q : Pl) : row x (y :: Q) = (padd x.1 y.1, x.2 * y.2) :: row x Q := rfl
theorem cf_mul_cons : ∀ (P Q : Pl) (y : List Int × Rat) (m : List Int), cf (mul P (y :: Q)) m = cf (row y P) m + cf (mul P Q) m
  | [], Q, y, m => by show (0 : Rat) = 0 + 0; grind
  | x :: P, Q, y, m => by
    show cf (row x (y :: Q) ++ mul P (y :: Q)) m = cf (row y (x :: P)) m + cf (row x Q ++ mul P Q) m
    rw [cf_app, cf_app, cf_mul_cons P Q y m, row_cons, row_cons, cf_cons, cf_cons, padd_comm x.1 y.1]
    by_cases h : padd y.1 x.1 = m
    · rw [if_pos h, if_pos h]; grind
    · rw [if_neg h, if_neg h]; grind
theorem cf_two (x : List Int × Rat) (m : List Int) : ∀ L : Pl, cf (L.map fun y => (padd x.1 y.1, 2 * x.2 * y.2)) m = 2 * cf (row x L) m
  | [] => by show (0 : Rat) = 2 * 0; grind
  | y :: L => by
    rw [List.map_cons, row_cons, cf_cons, cf_cons, cf_two x m L]
    by_cases h : padd x.1 y.1 = m
    · rw [if_pos h, if_pos h]; grind
    · rw [if_neg h, if_neg h]; grind
theorem cf_hs : ∀ (P : Pl) (m : List Int), cf (hs P) m = cf (mul P P) m
  | [], _ => rfl
  | x :: L, m => by
    show cf ((padd x.1 x.1, x.2 * x.2) :: (_ ++ hs L)) m = cf (row x (x :: L) ++ mul L (x :: L)) m
    rw [cf_cons, cf_app, cf_two, cf_app, cf_mul_cons, row_cons, cf_cons, cf_hs L m]
    grind
theorem row_perm {Q Q' : Pl} (x : List Int × Rat) (h : Q.Perm Q') : (row x Q).Perm (row x Q') := h.map _
theorem mul_perm {P P' Q : Pl} (h : P.Perm P') (m : List Int) : cf (mul P Q) m = cf (mul P' Q) m := by
  induction h with
  | nil => rfl
  | cons x _ ih => show cf (row x Q ++ mul _ Q) m = cf (row x Q ++ mul _ Q) m; rw [cf_app, cf_app, ih]
  | swap x y l => show cf (row y Q ++ (row x Q ++ mul l Q)) m = cf (row x Q ++ (row y Q ++ mul l Q)) m; simp only [cf_app]; grind
  | trans _ _ h1 h2 => exact h1.trans h2
theorem mul_permR {Q Q' : Pl} (h : Q.Perm Q') (m : List Int) : ∀ P : Pl, cf (mul P Q) m = cf (mul P Q') m
  | [] => rfl
  | x :: P => by
    show cf (row x Q ++ mul P Q) m = cf (row x Q' ++ mul P Q') m
    rw [cf_app, cf_app, cf_perm (row_perm x h) m, mul_permR h m P]
theorem hs_perm {P P' : Pl} (h : P.Perm P') (m : List Int) : cf (hs P) m = cf (hs P') m := by
  rw [cf_hs, cf_hs, mul_perm h, mul_permR h]
theorem hs_neg : ∀ P : Pl, hs (P.map fun x => (x.1, -1 * x.2)) = hs P
  | [] => rfl
  | x :: L => by
    show _ :: (((L.map fun x => (x.1, -1 * x.2)).map _) ++ hs (L.map fun x => (x.1, -1 * x.2))) = _ :: (_ ++ hs L)
    rw [hs_neg L, List.map_map]
    congr 1
    · show (padd x.1 x.1, -1 * x.2 * (-1 * x.2)) = _
      congr 1
      grind
    · congr 1
      refine List.map_congr_left fun y _ => ?_
      show (padd x.1 y.1, 2 * (-1 * x.2) * (-1 * y.2)) = _
      congr 1
      grind
theorem hs_len : ∀ P : Pl, 2 * (hs P).length = P.length * (P.length + 1)
  | [] => rfl
  | x :: L => by
    have := hs_len L
    show 2 * ((_ :: (_ ++ hs L)).length) = (L.length + 1) * (L.length + 1 + 1)
    rw [List.length_cons, List.length_append, List.length_map]
    grind
noncomputable def sqs : List (Rat × Pl) → List Int → Rat
  | [], _ => 0
  | s :: L, m => s.1 * cf (hs s.2) m + sqs L m
theorem sqs_app : ∀ (L M : List (Rat × Pl)) (m : List Int), sqs (L ++ M) m = sqs L m + sqs M m
  | [], M, m => by show sqs M m = 0 + sqs M m; grind
  | s :: L, M, m => by show _ + sqs (L ++ M) m = (_ + sqs L m) + sqs M m; rw [sqs_app L M m]; grind
end LwV

namespace LwQ
theorem ratio_plus {t b o u t' b' : Int} {R1 R2 : Nat} (hb : 0 < b) (hu : 0 < u) (h : t' * (b * u) = (t * u + o * b) * b') (h1 : t.natAbs ≤ R1 * b.natAbs) (h2 : o.natAbs ≤ R2 * u.natAbs) : t'.natAbs ≤ (R1 + R2) * b'.natAbs := by
  have e := congrArg Int.natAbs h
  rw [Int.natAbs_mul, Int.natAbs_mul, Int.natAbs_mul] at e
  have k : (t * u + o * b).natAbs ≤ (R1 + R2) * (b.natAbs * u.natAbs) := by
    refine Nat.le_trans (Int.natAbs_add_le _ _) ?_
    rw [Int.natAbs_mul, Int.natAbs_mul, Nat.add_mul]
    refine Nat.add_le_add ?_ ?_
    · calc t.natAbs * u.natAbs ≤ R1 * b.natAbs * u.natAbs := Nat.mul_le_mul_right _ h1
        _ = R1 * (b.natAbs * u.natAbs) := Nat.mul_assoc ..
    · calc o.natAbs * b.natAbs ≤ R2 * u.natAbs * b.natAbs := Nat.mul_le_mul_right _ h2
        _ = R2 * (b.natAbs * u.natAbs) := by rw [Nat.mul_assoc, Nat.mul_comm u.natAbs]
  have p : 0 < b.natAbs * u.natAbs := Nat.mul_pos (by omega) (by omega)
  refine Nat.le_of_mul_le_mul_right ?_ p
  rw [e]
  calc (t * u + o * b).natAbs * b'.natAbs ≤ (R1 + R2) * (b.natAbs * u.natAbs) * b'.natAbs := Nat.mul_le_mul_right _ k
    _ = (R1 + R2) * b'.natAbs * (b.natAbs * u.natAbs) := by grind
end LwQ

namespace Lw
open PySem PySem.Spec PyProof.Rows L2
structure FrOk (n : Nat) (t b : Int) : Prop where
  pos : 0 < b
  low : Int.gcd t b = 1
  st : t.natAbs < 2 ^ n
  sb : b.natAbs < 2 ^ n
noncomputable def At2 (H : Hp) (p : Addr) (t b : Int) : Prop := H p = some (.tup [.int t, .int b])
theorem abs_up {a : Int} {m n : Nat} (ha : a.natAbs < 2 ^ m) (h : m ≤ n) : a.natAbs < 2 ^ n := Nat.lt_of_lt_of_le ha (Nat.pow_le_pow_right (by decide) h)
theorem abs_div {a g : Int} {n : Nat} (ha : a.natAbs < 2 ^ n) (hg : 1 ≤ g) : (a / g).natAbs < 2 ^ n := Nat.lt_of_le_of_lt (LwM.ediv_abs a g hg) ha
theorem gcd_abs {a b : Int} {n : Nat} (hb : 0 < b) (hs : b.natAbs < 2 ^ n) : ((Int.gcd a b : Nat) : Int).natAbs < 2 ^ n := by
  have := LwM.gcd_le a b hb
  have := LwM.gcd_pos a b hb
  omega
theorem low_posT {t b : Int} (h : 0 < b) : lowT t b = t / (Int.gcd t b : Int) := (low_pos h).1
theorem low_posB {t b : Int} (h : 0 < b) : lowB t b = b / (Int.gcd t b : Int) := (low_pos h).2
noncomputable def spTwo (K : PySem.W.Frag) (nt nb : Int → Int → Int → Int → Int) : Sp := fun vs H Q _ => ∃ (p q : Addr) (t b o u : Int), vs = [.ref p, .ref q] ∧ SqT K H p [.int t, .int b] ∧ SqT K H q [.int o, .int u] ∧ FrOk 7900 t b ∧ FrOk 7900 o u ∧
  ∀ (r : Addr) (H' : Hp), H r = none → Same H H' → At2 H' r (lowT (nt t b o u) (nb t b o u)) (lowB (nt t b o u) (nb t b o u)) → Q (.ref r) H'
noncomputable abbrev spMul (K : PySem.W.Frag) : Sp := spTwo K (fun t _ o _ => t * o) (fun _ b _ u => b * u)
theorem sqT_same {K : PySem.W.Frag} {H H' : Hp} {a : Addr} {xs : List V} (s : Same H H') (h : SqT K H a xs) : SqT K H' a xs := by
  rcases h with (h | ⟨o, h⟩) | h
  · exact .inl (.inl (s _ _ h))
  · exact .inl (.inr ⟨o, s _ _ h⟩)
  · exact .inr h
section
variable {P : Program} {w : World} {K : PySem.W.Frag} {mg : Str → Option Value} {base : Heap} {f fd : _}
theorem scMul : FnScope ["one", "other", "top", "bottom", "over", "under", "first", "second"] ["one", "other"] (defScope sMul) := ⟨rfl, rfl, rfl, by decide +kernel, rfl, by decide +kernel, by decide +kernel⟩
theorem ok_mul {fG : Addr} {fdG : FuncData} (F : Fun K "multiplied" "multiplied" sMul f fd) (T : Txt mg) (DG : Df K mg "greatest_divisor" sGcd ["one", "other"] fG fdG) : FnOk P w K mg base CX0 2 f fd ["one", "other"] (spMul K) := by
  have GG : FnOk P w K mg base CX0 1 fG fdG ["one", "other"] spGcd := ok_gcd DG.F T
  refine F.ok scMul (fun vs H Q E h => ?_) (fun cdv A outer s H vs Q E hr h => ?_)
  · obtain ⟨p, q, t, b, o, u, rfl, _⟩ := h
    rfl
  · obtain ⟨p, q, t, b, o, u, rfl, hp, hq, f1, f2, k⟩ := h
    refine ⟨_, pss_cons (ps_asg (pv 0) (pg_tup rfl (pgs_cons (pg_name (i := 2) scMul.nd rfl (Or.inl rfl)) (pgs_cons (pg_name (i := 3) scMul.nd rfl (Or.inl rfl)) pgs_nil))))
      (pss_cons (ps_asg (pv 1) (pg_tup rfl (pgs_cons (pg_name (i := 4) scMul.nd rfl (Or.inl rfl)) (pgs_cons (pg_name (i := 5) scMul.nd rfl (Or.inl rfl)) pgs_nil))))
      (pss_cons (ps_set (i := 6) scMul.nd rfl (Or.inl rfl) (pe_call GG hr rfl DG.m DG.F.kp DG.b .nil pass0 (pa_cons (pv 2) (pa_cons (pv 5) pa_nil))))
      (pss_cons (ps_set (i := 7) scMul.nd rfl (Or.inl rfl) (pe_call GG hr rfl DG.m DG.F.kp DG.b .nil pass0 (pa_cons (pv 4) (pa_cons (pv 3) pa_nil))))
      (pss_one (ps_ret (pe_tupF (pa_cons (pe_op op_mulL (pe_op op_fdivL (pv 2) (pv 6)) (pe_op op_fdivL (pv 4) (pv 7))) (pa_cons (pe_op op_mulL (pe_op op_fdivL (pv 3) (pv 7)) (pe_op op_fdivL (pv 5) (pv 6))) pa_nil)))))))), ?_⟩
    try dsimp only [cxK]
    refine ⟨_, rfl, p, _, rfl, hp, rfl, _, _, rfl, _, _, rfl, rfl, ?_⟩
    refine ⟨_, rfl, q, _, rfl, hq, rfl, _, _, rfl, _, _, rfl, rfl, ?_⟩
    refine ⟨_, rfl, _, rfl, t, u, rfl, f2.pos, abs_up f2.sb (by decide), ?_⟩
    refine ⟨_, rfl, _, rfl, o, b, rfl, f1.pos, abs_up f1.sb (by decide), ?_⟩
    have a1 := LwM.gcd_pos t u f2.pos
    have a2 := LwM.gcd_pos o b f1.pos
    have d1 : CDivL t (Int.gcd t u : Int) := ⟨by omega, abs_up (gcd_abs f2.pos f2.sb) (by decide)⟩
    have d2 : CDivL t (Int.gcd o b : Int) := ⟨by omega, abs_up (gcd_abs f1.pos f1.sb) (by decide)⟩
    have m := LwM.mul_low f1.pos f2.pos f1.low f2.low
    refine ⟨_, rfl, _, rfl, _, _, rfl, rfl, d1, _, rfl, _, rfl, _, _, rfl, rfl, d2, _, _, rfl, rfl, ⟨abs_up (abs_div f1.st a1) (by decide), abs_up (abs_div f2.st a2) (by decide)⟩, ?_⟩
    refine ⟨_, rfl, _, rfl, _, _, rfl, rfl, d2, _, rfl, _, rfl, _, _, rfl, rfl, d1, _, _, rfl, rfl, ⟨abs_up (abs_div f1.sb a2) (by decide), abs_up (abs_div f2.sb a1) (by decide)⟩, (by show 2 ≤ sizeLine; decide), fun r H' n s e => ?_⟩
    refine k r H' n s ?_
    have bu := Int.mul_pos f1.pos f2.pos
    show H' r = _
    rw [e, low_posT bu, low_posB bu]
    dsimp only
    rw [m.1, m.2]
end
noncomputable def spDivN (K : PySem.W.Frag) : Sp := fun vs H Q _ => ∃ (p q : Addr) (t b o u : Int), vs = [.ref p, .ref q] ∧ SqT K H p [.int t, .int b] ∧ SqT K H q [.int o, .int u] ∧ FrOk 7900 t b ∧ FrOk 7900 o u ∧ o ≠ 0 ∧
  ∀ (r : Addr) (H' : Hp), H r = none → Same H H' → At2 H' r (lowT (t * u) (b * o)) (lowB (t * u) (b * o)) → Q (.ref r) H'
theorem low_neg {t b : Int} (h : b < 0) : lowT (-t) (-b) = lowT t b ∧ lowB (-t) (-b) = lowB t b := by
  unfold lowT lowB
  simp only [if_neg (show ¬ (-b < 0) by omega), if_pos h, Int.neg_gcd, Int.gcd_neg, Int.zero_sub]
  exact ⟨trivial, trivial⟩
section
variable {P : Program} {w : World} {K : PySem.W.Frag} {mg : Str → Option Value} {base : Heap} {f fd : _}
theorem scDiv : FnScope ["one", "other", "over", "under"] ["one", "other"] (defScope sDiv) := ⟨rfl, rfl, rfl, by decide +kernel, rfl, by decide +kernel, by decide +kernel⟩
theorem ok_divN {fM fG : Addr} {fdM fdG : FuncData} (F : Fun K "divided" "divided" sDiv f fd) (T : Txt mg) (DM : Df K mg "multiplied" sMul ["one", "other"] fM fdM) (DG : Df K mg "greatest_divisor" sGcd ["one", "other"] fG fdG) : FnOk P w K mg base CX0 3 f fd ["one", "other"] (spDivN K) := by
  have GM : FnOk P w K mg base CX0 2 fM fdM ["one", "other"] (spMul K) := ok_mul DM.F T DG
  refine F.ok scDiv (fun vs H Q E h => ?_) (fun cdv A outer s H vs Q E hr h => ?_)
  · obtain ⟨p, q, t, b, o, u, rfl, _⟩ := h
    rfl
  · obtain ⟨p, q, t, b, o, u, rfl, hp, hq, f1, f2, ho, k⟩ := h
    refine ⟨_, pss_cons (ps_asg (pv 1) (pg_tup rfl (pgs_cons (pg_name (i := 2) scDiv.nd rfl (Or.inl rfl)) (pgs_cons (pg_name (i := 3) scDiv.nd rfl (Or.inl rfl)) pgs_nil))))
      (pss_cons (ps_if (pt_cmpR op_eq (pv 2) pe_int (nomark _)) (pss_one ps_never) pss_nil)
      (pss_cons (ps_if (pt_cmpR op_lt (pv 2) pe_int (nomark _)) (pss_one (ps_ret (pe_call GM hr rfl DM.m DM.F.kp DM.b .nil pass0 (pa_cons (pv 0) (pa_cons (pe_tupF (pa_cons (pe_un un_neg (pv 3)) (pa_cons (pe_un un_neg (pv 2)) pa_nil))) pa_nil))))) pss_nil)
      (pss_one (ps_ret (pe_call GM hr rfl DM.m DM.F.kp DM.b .nil pass0 (pa_cons (pv 0) (pa_cons (pe_tupF (pa_cons (pv 3) (pa_cons (pv 2) pa_nil))) pa_nil))))))), ?_⟩
    try dsimp only [cxK]
    refine ⟨_, rfl, q, _, rfl, hq, rfl, _, _, rfl, _, _, rfl, rfl, ?_⟩
    refine ⟨_, rfl, rfl, _, rfl, iteN (decide_eq_false (by intro z; injection z with z; exact ho z)) ?_⟩
    refine ⟨_, rfl, _, _, rfl, rfl, _, rfl, ?_⟩
    have gc : Int.gcd u o = 1 := by rw [Int.gcd_comm]; exact f2.low
    by_cases hn : o < 0
    · refine iteP (decide_eq_true hn) ?_
      refine ⟨_, rfl, _, rfl, _, rfl, _, rfl, _, rfl, (by show 2 ≤ sizeLine; decide), fun z H1 n1 s1 e1 => ?_⟩
      refine ⟨p, z, t, b, -u, -o, rfl, sqT_same s1 hp, SqT.of e1, f1, ⟨by omega, by rw [Int.neg_gcd, Int.gcd_neg]; exact gc, by rw [Int.natAbs_neg]; exact f2.sb, by rw [Int.natAbs_neg]; exact f2.st⟩, fun r H' n s e => ?_⟩
      refine k r H' (s1.free n) (s1.trans s) ?_
      dsimp only at e
      rw [Int.mul_neg, Int.mul_neg, (low_neg (Int.mul_neg_of_pos_of_neg f1.pos hn)).1, (low_neg (Int.mul_neg_of_pos_of_neg f1.pos hn)).2] at e
      exact e
    · refine iteN (decide_eq_false hn) ?_
      refine ⟨_, rfl, _, rfl, _, rfl, (by show 2 ≤ sizeLine; decide), fun z H1 n1 s1 e1 => ?_⟩
      refine ⟨p, z, t, b, u, o, rfl, sqT_same s1 hp, SqT.of e1, f1, ⟨by omega, gc, f2.sb, f2.st⟩, fun r H' n s e => ?_⟩
      exact k r H' (s1.free n) (s1.trans s) e
end
end Lw

namespace Lw
open PySem PySem.Spec PyProof.Rows L2
structure FrS (t b : Int) : Prop where
  pos : 0 < b
  low : Int.gcd t b = 1
  st : t.natAbs < 2 ^ 40
  sb : b.natAbs < 2 ^ 14
section
variable {P : Program} {w : World} {K : PySem.W.Frag} {mg : Str → Option Value} {base : Heap} {f fd : _}
noncomputable def spDrawn (c M : Int) : Sp := fun vs H Q _ => ∃ (tp : Addr) (B : Int), vs = [.ref tp] ∧ ∃ cl, Tape cl H tp B ∧ B < M ∧
  ∀ (r : Addr) (t b : Int) (H' : Hp), FrS t b → At2 H' r t b → r ≠ tp → Tape cl H' tp (B + c) → But tp H H' → (∀ c o, H c = some o → c ≠ r) → Q (.ref r) H'
theorem low_fr {t b : Int} (hb : 0 < b) (ht : t.natAbs < 2 ^ 40) (hs : b.natAbs < 2 ^ 14) : FrS (lowT t b) (lowB t b) := by
  have g1 := LwM.gcd_pos t b hb
  have gp : 0 < Int.gcd t b := by omega
  rw [low_posT hb, low_posB hb]
  refine ⟨?_, Int.gcd_ediv_gcd_ediv_gcd gp, abs_div ht g1, abs_div hs g1⟩
  exact Int.ediv_pos_of_pos_of_dvd hb (by omega) (Int.gcd_dvd_right ..)
theorem tape_ne {cl : Addr} {H : Hp} {tp r : Addr} {B : Int} (T : Tape cl H tp B) (n : H r = none) : r ≠ tp := by
  obtain ⟨ns, spot, rest, left, z, _⟩ := T
  rintro rfl
  rw [n] at z
  cases z
theorem none_of_but {p : Addr} {H H' : Hp} {r : Addr} (b : But p H H') (n : H' r = none) (hr : r ≠ p) : H r = none := by
  cases q : H r with
  | none => rfl
  | some o => rw [b r o q hr] at n; cases n
theorem scNumber : FnScope ["tape", "way", "top", "great"] ["tape"] (defScope sNumber) := ⟨rfl, rfl, rfl, by decide +kernel, rfl, by decide +kernel, by decide +kernel⟩
theorem ok_number {fD fL : Addr} {fdD fdL : FuncData} (F : Fun K "_law_number" "_law_number" sNumber f fd) (T : Txt mg) (DD : Df K mg "_law_draw" sDraw ["tape", "many"] fD fdD) (DL : Df K mg "_law_low" sLow ["top", "bottom"] fL fdL) : FnOk P w K mg base CX0 2 f fd ["tape"] (spDrawn 6 (2 ^ 38)) := by
  have GD : FnOk P w K mg base CX0 1 fD fdD ["tape", "many"] spDraw := ok_draw DD.F T
  have GL : FnOk P w K mg base CX0 1 fL fdL ["top", "bottom"] spLow := ok_low DL.F T
  refine F.ok scNumber (fun vs H Q E h => ?_) (fun cdv A outer s H vs Q E hr h => ?_)
  · obtain ⟨tp, B, rfl, _⟩ := h
    rfl
  · obtain ⟨tp, B, rfl, cl, hT, hB, k⟩ := h
    refine ⟨_, pss_cons (ps_set (i := 1) scNumber.nd rfl (Or.inl rfl) (pe_call GD hr rfl DD.m DD.F.kp DD.b .nil pass0 (pa_cons (pv 0) (pa_cons pe_int pa_nil))))
      (pss_cons (ps_set (i := 2) scNumber.nd rfl (Or.inl rfl) (pe_op op_sub (pe_call GD hr rfl DD.m DD.F.kp DD.b .nil pass0 (pa_cons (pv 0) (pa_cons pe_int pa_nil))) pe_int))
      (pss_cons (ps_if (pt_cmpR op_lt (pv 1) pe_int (nomark _)) (pss_one (ps_ret (pe_tupF (pa_cons (pv 2) (pa_cons pe_int pa_nil))))) pss_nil)
      (pss_cons (ps_if (pt_cmpR op_lt (pv 1) pe_int (nomark _)) (pss_one (ps_ret (pe_call GL hr rfl DL.m DL.F.kp DL.b .nil pass0 (pa_cons (pv 2) (pa_cons (pe_op op_add pe_int (pe_call GD hr rfl DD.m DD.F.kp DD.b .nil pass0 (pa_cons (pv 0) (pa_cons pe_int pa_nil)))) pa_nil))))) pss_nil)
      (pss_cons (ps_set (i := 3) scNumber.nd rfl (Or.inl rfl) (pe_op op_mul (pe_call GD hr rfl DD.m DD.F.kp DD.b .nil pass0 (pa_cons (pv 0) (pa_cons (pe_op op_pow pe_int pe_int) pa_nil))) (pe_op op_sub pe_int (pe_op op_mul pe_int (pe_call GD hr rfl DD.m DD.F.kp DD.b .nil pass0 (pa_cons (pv 0) (pa_cons pe_int pa_nil)))))))
      (pss_one (ps_ret (pe_call GL hr rfl DL.m DL.F.kp DL.b .nil pass0 (pa_cons (pv 3) (pa_cons (pe_op op_add pe_int (pe_call GD hr rfl DD.m DD.F.kp DD.b .nil pass0 (pa_cons (pv 0) (pa_cons (pe_op op_pow pe_int pe_int) pa_nil)))) pa_nil)))))))))
      , ?_⟩
    refine ⟨_, rfl, tp, 24, B, rfl, _, hT, by omega, by decide, by decide, fun way H1 w0 w1 T1 b1 => ?_⟩
    refine ⟨_, rfl, tp, 13, _, rfl, _, T1, by omega, by decide, by decide, fun top H2 t0 t1 T2 b2 => ⟨_, _, rfl, rfl, ?_⟩⟩
    have p10 : ∀ n : Int, 0 ≤ n → n ≤ 1000000 → CPow 10 n := fun n h0 h1 => ⟨h0, h1, by decide⟩
    -- a lowest pair, told
    have tell : ∀ (t b B' : Int) (H3 : Hp), 0 < b → t.natAbs < 2 ^ 40 → b.natAbs < 2 ^ 14 → Tape cl H3 tp B' → B' ≤ B + 6 → But tp H H3 → spLow [.int t, .int b] H3 Q E0 := by
      intro t b B' H3 hb ht hs T3 hB' b3
      refine ⟨t, b, rfl, by omega, .inl (abs_up hs (by decide)), fun p H4 n4 s4 e4 => ?_⟩
      refine k p _ _ H4 (low_fr hb ht hs) e4 (tape_ne T3 n4) (T3.mono s4 (by omega)) (b3.trans (But.of s4)) (fun c o hc hp => ?_)
      subst hp
      have := none_of_but b3 n4 (tape_ne T3 n4)
      rw [hc] at this
      cases this
    refine ⟨_, rfl, _, _, rfl, rfl, _, rfl, ?_⟩
    refine ite2 (fun _ => ?_) (fun _ => ?_)
    · refine ⟨_, rfl, (by show 2 ≤ sizeLine; decide), fun p H3 n3 s3 e3 => ?_⟩
      refine k p (top - 6) 1 H3 ⟨by decide, by simp, by omega, by decide⟩ e3 (tape_ne T2 n3) (T2.mono s3 (by omega)) ((b1.trans b2).trans (But.of s3)) (fun c o hc hp => ?_)
      subst hp
      have := none_of_but (b1.trans b2) n3 (tape_ne T2 n3)
      rw [hc] at this
      cases this
    · refine ⟨_, rfl, _, _, rfl, rfl, _, rfl, ?_⟩
      refine ite2 (fun _ => ?_) (fun _ => ?_)
      · refine ⟨_, rfl, _, rfl, tp, 7, _, rfl, _, T2, by omega, by decide, by decide, fun c H3 c0 c1 T3 b3 => ⟨_, _, rfl, rfl, ?_⟩⟩
        exact tell _ _ _ H3 (by omega) (by omega) (by omega) T3 (by omega) ((b1.trans b2).trans b3)
      · refine ⟨_, rfl, _, _, rfl, rfl, p10 12 (by decide) (by decide), tp, _, _, rfl, _, T2, by omega, by decide, by decide, fun g H3 g0 g1 T3 b3 => ?_⟩
        refine ⟨_, rfl, tp, 2, _, rfl, _, T3, by omega, by decide, by decide, fun r H4 r0 r1 T4 b4 => ?_⟩
        refine ⟨_, _, rfl, rfl, .inl ⟨by decide, by decide⟩, _, _, rfl, rfl, _, _, rfl, rfl, .inr ⟨by omega, by omega⟩, ?_⟩
        refine ⟨_, rfl, _, rfl, _, _, rfl, rfl, p10 4 (by decide) (by decide), tp, _, _, rfl, _, T4, by omega, by decide, by decide, fun c H5 c0 c1 T5 b5 => ⟨_, _, rfl, rfl, ?_⟩⟩
        have e12 : (10 : Int) ^ (12 : Int).toNat = 1000000000000 := by decide +kernel
        have e4 : (10 : Int) ^ (4 : Int).toNat = 10000 := by decide +kernel
        rw [e12] at g1
        rw [e4] at c1
        have hr2 : r = 0 ∨ r = 1 := by omega
        refine tell _ _ _ H5 (by omega) ?_ (by omega) T5 (by omega) ((((b1.trans b2).trans b3).trans b4).trans b5)
        rcases hr2 with rfl | rfl
        · simp only [Int.mul_zero, Int.sub_zero, Int.mul_one]
          omega
        · rw [show (1 : Int) - 2 * 1 = -1 by decide, Int.mul_neg, Int.mul_one, Int.natAbs_neg]
          omega
end
end Lw

namespace Lw
open PySem PySem.Spec PyProof.Rows L2 LwQ
noncomputable def spPlus : Sp := fun vs H Q _ => ∃ (p q : Addr) (t b o u : Int), vs = [.ref p, .ref q] ∧ At2 H p t b ∧ At2 H q o u ∧ 0 < b ∧ 0 < u ∧ t.natAbs < 2 ^ 50000 ∧ b.natAbs < 2 ^ 50000 ∧ o.natAbs < 2 ^ 50000 ∧ u.natAbs < 2 ^ 8000 ∧
  ∀ (r : Addr) (t' b' : Int) (H' : Hp), H r = none → Same H H' → At2 H' r t' b' → 0 < b' → b'.natAbs ≤ b.natAbs * u.natAbs → t' * (b * u) = (t * u + o * b) * b' → Q (.ref r) H'
theorem mod_div {b u : Int} (h : decide (V.int (b % u) = V.int 0) = true) : b = u * (b / u) := by
  have e : b % u = 0 := by
    have := of_decide_eq_true h
    injection this
  have := Int.mul_ediv_add_emod b u
  omega
section
variable {P : Program} {w : World} {K : PySem.W.Frag} {mg : Str → Option Value} {base : Heap} {f fd : _}
theorem scPlus : FnScope ["one", "other", "top"] ["one", "other"] (defScope sPlus) := ⟨rfl, rfl, rfl, by decide +kernel, rfl, by decide +kernel, by decide +kernel⟩
theorem ok_plus (F : Fun K "_law_plus" "_law_plus" sPlus f fd) : FnOk P w K mg base CX0 1 f fd ["one", "other"] spPlus := by
  refine F.ok scPlus (fun vs H Q E h => ?_) (fun cdv A outer s H vs Q E hr h => ?_)
  · obtain ⟨p, q, t, b, o, u, rfl, _⟩ := h
    rfl
  · obtain ⟨p, q, t, b, o, u, rfl, hp, hq, hb, hu, st, sb, so, su, k⟩ := h
    refine ⟨_, pss_cons (ps_if (pt_cmpR op_eq (pe_op op_mod (pe_ix ix_tup (pv 0) pe_int (fun _ _ => rfl)) (pe_ix ix_tup (pv 1) pe_int (fun _ _ => rfl))) pe_int (nomark _))
        (pss_one (ps_ret (pe_tupF (pa_cons (pe_op op_add (pe_ix ix_tup (pv 0) pe_int (fun _ _ => rfl)) (pe_op op_mulL (pe_ix ix_tup (pv 1) pe_int (fun _ _ => rfl)) (pe_op op_fdivL (pe_ix ix_tup (pv 0) pe_int (fun _ _ => rfl)) (pe_ix ix_tup (pv 1) pe_int (fun _ _ => rfl))))) (pa_cons (pe_ix ix_tup (pv 0) pe_int (fun _ _ => rfl)) pa_nil))))) pss_nil)
      (pss_cons (ps_if (pt_cmpR op_eq (pe_op op_mod (pe_ix ix_tup (pv 1) pe_int (fun _ _ => rfl)) (pe_ix ix_tup (pv 0) pe_int (fun _ _ => rfl))) pe_int (nomark _))
        (pss_one (ps_ret (pe_tupF (pa_cons (pe_op op_add (pe_ix ix_tup (pv 1) pe_int (fun _ _ => rfl)) (pe_op op_mulL (pe_ix ix_tup (pv 0) pe_int (fun _ _ => rfl)) (pe_op op_fdivL (pe_ix ix_tup (pv 1) pe_int (fun _ _ => rfl)) (pe_ix ix_tup (pv 0) pe_int (fun _ _ => rfl))))) (pa_cons (pe_ix ix_tup (pv 1) pe_int (fun _ _ => rfl)) pa_nil))))) pss_nil)
      (pss_cons (ps_set (i := 2) scPlus.nd rfl (Or.inl rfl) (pe_op op_add (pe_op op_mulL (pe_ix ix_tup (pv 0) pe_int (fun _ _ => rfl)) (pe_ix ix_tup (pv 1) pe_int (fun _ _ => rfl))) (pe_op op_mulL (pe_ix ix_tup (pv 1) pe_int (fun _ _ => rfl)) (pe_ix ix_tup (pv 0) pe_int (fun _ _ => rfl)))))
      (pss_one (ps_ret (pe_tupF (pa_cons (pv 2) (pa_cons (pe_op op_mulL (pe_ix ix_tup (pv 0) pe_int (fun _ _ => rfl)) (pe_ix ix_tup (pv 1) pe_int (fun _ _ => rfl))) pa_nil))))))), ?_⟩
    have P := SqT.of (K := K) hp
    have R := SqT.of (K := K) hq
    have d1 : (b / u).natAbs < 2 ^ 100000 := abs_up (abs_div sb hu) (by decide)
    have d2 : (u / b).natAbs < 2 ^ 100000 := abs_up (abs_div su hb) (by decide)
    have st' : t.natAbs < 2 ^ 100000 := abs_up st (by decide)
    have sb' : b.natAbs < 2 ^ 100000 := abs_up sb (by decide)
    have so' : o.natAbs < 2 ^ 100000 := abs_up so (by decide)
    have su' : u.natAbs < 2 ^ 100000 := abs_up su (by decide)
    have lb : b.natAbs ≤ b.natAbs * u.natAbs := Nat.le_mul_of_pos_right _ (by omega)
    have lu : u.natAbs ≤ b.natAbs * u.natAbs := Nat.le_mul_of_pos_left _ (by omega)
    refine ⟨_, rfl, p, _, _, _, rfl, rfl, P, rfl, _, rfl, q, _, _, _, rfl, rfl, R, rfl, _, _, rfl, rfl, hu, rfl, _, rfl, ?_⟩
    refine ite2 (fun e => ?_) (fun _ => ?_)
    · refine ⟨_, rfl, p, _, _, _, rfl, rfl, P, rfl, _, rfl, q, _, _, _, rfl, rfl, R, rfl, _, rfl, p, _, _, _, rfl, rfl, P, rfl, _, rfl, q, _, _, _, rfl, rfl, R, rfl, _, _, rfl, rfl, ⟨hu, su⟩, _, _, rfl, rfl, ⟨so', d1⟩, _, _, rfl, rfl, _, rfl, p, _, _, _, rfl, rfl, P, rfl, (by show 2 ≤ sizeLine; decide), fun r H1 n1 s1 e1 => ?_⟩
      refine k r _ _ H1 n1 s1 e1 hb lb ?_
      have m := mod_div e
      generalize b / u = x at m
      subst m
      grind
    refine ⟨_, rfl, q, _, _, _, rfl, rfl, R, rfl, _, rfl, p, _, _, _, rfl, rfl, P, rfl, _, _, rfl, rfl, hb, rfl, _, rfl, ?_⟩
    refine ite2 (fun e => ?_) (fun _ => ?_)
    · have m := mod_div e
      have bu : b.natAbs < 2 ^ 8000 := by
        have : b ∣ u := ⟨_, m⟩
        have := Int.le_of_dvd hu this
        exact Nat.lt_of_le_of_lt (by omega) su
      refine ⟨_, rfl, q, _, _, _, rfl, rfl, R, rfl, _, rfl, p, _, _, _, rfl, rfl, P, rfl, _, rfl, q, _, _, _, rfl, rfl, R, rfl, _, rfl, p, _, _, _, rfl, rfl, P, rfl, _, _, rfl, rfl, ⟨hb, bu⟩, _, _, rfl, rfl, ⟨st', d2⟩, _, _, rfl, rfl, _, rfl, q, _, _, _, rfl, rfl, R, rfl, (by show 2 ≤ sizeLine; decide), fun r H1 n1 s1 e1 => ?_⟩
      refine k r _ _ H1 n1 s1 e1 hu lu ?_
      generalize u / b = x at m
      subst m
      grind
    · refine ⟨_, rfl, p, _, _, _, rfl, rfl, P, rfl, _, rfl, q, _, _, _, rfl, rfl, R, rfl, _, _, rfl, rfl, ⟨st', su'⟩, _, rfl, q, _, _, _, rfl, rfl, R, rfl, _, rfl, p, _, _, _, rfl, rfl, P, rfl, _, _, rfl, rfl, ⟨so', sb'⟩, _, _, rfl, rfl, ?_⟩
      refine ⟨_, rfl, _, rfl, p, _, _, _, rfl, rfl, P, rfl, _, rfl, q, _, _, _, rfl, rfl, R, rfl, _, _, rfl, rfl, ⟨sb', su'⟩, (by show 2 ≤ sizeLine; decide), fun r H1 n1 s1 e1 => ?_⟩
      exact k r _ _ H1 n1 s1 e1 (Int.mul_pos hb hu) (Nat.le_of_eq (Int.natAbs_mul _ _)) rfl
end
end Lw

namespace Lw
open PySem PySem.Spec PyProof.Rows L2 LwQ LwV
structure Kp (H H' : Hp) : Prop where
  tup : ∀ a xs, H a = some (.tup xs) → H' a = some (.tup xs)
  frz : ∀ a o x, H a = some (.frz o x) → H' a = some (.frz o x)
theorem Kp.of {H H' : Hp} (s : Same H H') : Kp H H' := ⟨fun _ _ e => s _ _ e, fun _ _ _ e => s _ _ e⟩
theorem Kp.trans {A B C : Hp} (h : Kp A B) (k : Kp B C) : Kp A C := ⟨fun _ _ e => k.tup _ _ (h.tup _ _ e), fun _ _ _ e => k.frz _ _ _ (h.frz _ _ _ e)⟩
noncomputable def Soft : HO → Prop
  | .tup _ => False
  | .frz _ _ => False
  | _ => True
theorem Kp.but {p : Addr} {H H' : Hp} {x : HO} (b : But p H H') (e : H p = some x) (s : Soft x) : Kp H H' :=
  ⟨fun a xs h => b _ _ h fun z => by rw [z, e] at h; cases h; exact s, fun a o y h => b _ _ h fun z => by rw [z, e] at h; cases h; exact s⟩
theorem Kp.butT {cl tp : Addr} {H H' : Hp} {B : Int} (b : But tp H H') (T : Tape cl H tp B) : Kp H H' := by
  obtain ⟨ns, spot, rest, left, z, _⟩ := T
  exact Kp.but b z trivial
theorem Kp.upd {p : Addr} {H : Hp} {x y : HO} (e : H p = some x) (s : Soft x) : Kp H (upd H p y) := Kp.but (p := p) (fun c o h n => by rw [upd_ne n]; exact h) e s
structure Ent where
  ns : List Int
  c : Addr
  t : Int
  b : Int
  k : Nat
noncomputable def Ent.kv (e : Ent) : List Key × V := (LwD.ik e.ns, .ref e.c)
noncomputable def Ent.pr (e : Ent) : List Int × Rat := (e.ns, (e.t : Rat) / (e.b : Rat))
noncomputable def pl (E : List Ent) : Pl := E.map Ent.pr
theorem pl_keys (E : List Ent) : (pl E).map (·.1) = E.map Ent.ns := by unfold pl; rw [List.map_map]; rfl
structure Sz where
  D : Nat
  v : Nat
  S : Nat
  n : Nat
structure EntOk (H : Hp) (many D v : Nat) (e : Ent) : Prop where
  len : e.ns.length = many
  nn : ∀ n ∈ e.ns, 0 ≤ n
  deg : e.ns.sum ≤ D
  at' : At2 H e.c e.t e.b
  pos : 0 < e.b
  nz : e.t ≠ 0
  sb : e.b.natAbs ≤ 2 ^ e.k
  st : e.t.natAbs ≤ 2 ^ v * e.b.natAbs
theorem EntOk.kp {H H' : Hp} {many D v : Nat} {e : Ent} (h : EntOk H many D v e) (k : Kp H H') : EntOk H' many D v e := ⟨h.len, h.nn, h.deg, k.tup _ _ h.at', h.pos, h.nz, h.sb, h.st⟩
theorem EntOk.up {H : Hp} {many D v v' : Nat} {e : Ent} (h : EntOk H many D v e) (k : v ≤ v') : EntOk H many D v' e := ⟨h.len, h.nn, h.deg, h.at', h.pos, h.nz, h.sb, Nat.le_trans h.st (Nat.mul_le_mul_right _ (Nat.pow_le_pow_right (by decide) k))⟩
structure DB (H : Hp) (many : Nat) (z : Sz) (E : List Ent) : Prop where
  nd : (E.map Ent.ns).Nodup
  each : ∀ e ∈ E, EntOk H many z.D z.v e
  sum : (E.map Ent.k).sum ≤ z.S
  few : E.length ≤ z.n
theorem DB.kp {H H' : Hp} {many : Nat} {z : Sz} {E : List Ent} (h : DB H many z E) (k : Kp H H') : DB H' many z E := ⟨h.nd, fun e he => (h.each e he).kp k, h.sum, h.few⟩
theorem DB.up {H : Hp} {many : Nat} {z z' : Sz} {E : List Ent} (h : DB H many z E) (hD : z.D ≤ z'.D) (hv : z.v ≤ z'.v) (hS : z.S ≤ z'.S) (hn : z.n ≤ z'.n) : DB H many z' E := ⟨h.nd, fun e he => by
  have k := (h.each e he).up hv
  exact ⟨k.len, k.nn, by have := k.deg; omega, k.at', k.pos, k.nz, k.sb, k.st⟩, Nat.le_trans h.sum hS, Nat.le_trans h.few hn⟩
theorem mem_le : ∀ {l : List Nat} {n : Nat}, n ∈ l → n ≤ l.sum
  | a :: r, n, h => by
    rw [List.sum_cons]
    rcases List.mem_cons.mp h with rfl | h
    · exact Nat.le_add_right ..
    · exact Nat.le_trans (mem_le h) (Nat.le_add_left ..)
theorem DB.k {H : Hp} {many : Nat} {z : Sz} {E : List Ent} (h : DB H many z E) {e : Ent} (he : e ∈ E) : e.k ≤ z.S := Nat.le_trans (mem_le (List.mem_map_of_mem he)) h.sum
theorem ik_inj {ns ms : List Int} (h : LwD.ik ns = LwD.ik ms) : ns = ms := by
  have := congrArg (List.map kV) h
  rw [LwD.ik_map, LwD.ik_map] at this
  exact (List.map_inj_right (f := V.int) (fun a b e => by injection e)).mp this
section
variable {k : List Key} {v v0 : V} {L R l : List (List Key × V)}
theorem val_out (h : ∀ p ∈ l, p.1 ≠ k) : valV l k = none := by
  unfold valV
  rw [List.find?_eq_none.mpr fun p hp => by simp [h p hp]]
  rfl
theorem val_mid (h : ∀ p ∈ L, p.1 ≠ k) : valV (L ++ (k, v) :: R) k = some v := by
  unfold valV
  rw [List.find?_append, List.find?_eq_none.mpr fun p hp => by simp [h p hp]]
  simp
theorem put_out (h : ∀ p ∈ l, p.1 ≠ k) : putK l k v = l ++ [(k, v)] := by
  unfold putK
  rw [if_neg]
  intro z
  obtain ⟨p, hp, e⟩ := List.any_eq_true.mp z
  exact h p hp (of_decide_eq_true e)
theorem map_out (h : ∀ p ∈ l, p.1 ≠ k) : l.map (fun kv => if kv.1 = k then (kv.1, v) else kv) = l := by
  conv => rhs; rw [← List.map_id l]
  exact List.map_congr_left fun p hp => by rw [if_neg (h p hp)]; rfl
theorem put_mid (h1 : ∀ p ∈ L, p.1 ≠ k) (h2 : ∀ p ∈ R, p.1 ≠ k) : putK (L ++ (k, v0) :: R) k v = L ++ (k, v) :: R := by
  unfold putK
  rw [if_pos (by simp), List.map_append, List.map_cons, map_out h1, map_out h2]
  simp
theorem drop_mid (h1 : ∀ p ∈ L, p.1 ≠ k) (h2 : ∀ p ∈ R, p.1 ≠ k) : dropK (L ++ (k, v0) :: R) k = L ++ R := by
  unfold dropK
  rw [List.filter_append, List.filter_cons, List.filter_eq_self.mpr (fun p hp => decide_eq_true (h1 p hp)), List.filter_eq_self.mpr (fun p hp => decide_eq_true (h2 p hp))]
  simp
end
theorem key_ne {E : List Ent} {ns : List Int} (h : ns ∉ E.map Ent.ns) : ∀ p ∈ E.map Ent.kv, p.1 ≠ LwD.ik ns := by
  intro p hp z
  obtain ⟨e, he, rfl⟩ := List.mem_map.mp hp
  exact h (List.mem_map.mpr ⟨e, he, ik_inj z⟩)
theorem frac_plus {t b o u t' b' : Int} (hb : 0 < b) (hu : 0 < u) (hb' : 0 < b') (h : t' * (b * u) = (t * u + o * b) * b') : (t' : Rat) / (b' : Rat) = (t : Rat) / (b : Rat) + (o : Rat) / (u : Rat) := by
  have h1 : (b : Rat) ≠ 0 := by simpa using (show b ≠ 0 by omega)
  have h2 : (u : Rat) ≠ 0 := by simpa using (show u ≠ 0 by omega)
  have h3 : (b' : Rat) ≠ 0 := by simpa using (show b' ≠ 0 by omega)
  have e : (t' : Rat) * (b * u) = (t * u + o * b) * b' := by exact_mod_cast h
  grind
theorem ratio_one {t b o u t' b' : Int} {v : Nat} (hb : 0 < b) (hu : 0 < u) (h : t' * (b * u) = (t * u + o * b) * b') (h1 : t.natAbs ≤ 2 ^ v * b.natAbs) (h2 : o.natAbs ≤ 2 ^ v * u.natAbs) : t'.natAbs ≤ 2 ^ (v + 1) * b'.natAbs := by
  have := ratio_plus hb hu h h1 h2
  rw [Nat.pow_succ, Nat.mul_two]
  exact this
noncomputable def spPut : Sp := fun vs H Q _ => ∃ (d b q : Addr) (ns : List Int) (o u : Int) (many j : Nat) (z : Sz) (E : List Ent), vs = [.ref d, .ref b, .ref q] ∧ H d = some (.dT (E.map Ent.kv)) ∧ DB H many z E ∧ z.S + j ≤ 7900 ∧ z.v ≤ 4000 ∧ z.n ≤ 1000 ∧ H b = some (.tup (ns.map V.int)) ∧ ns.length = many ∧ (∀ n ∈ ns, 0 ≤ n) ∧ ns.sum ≤ z.D ∧
  At2 H q o u ∧ 0 < u ∧ u.natAbs ≤ 2 ^ j ∧ o.natAbs ≤ 2 ^ z.v * u.natAbs ∧ ∀ (E' : List Ent) (H' : Hp), But d H H' → H' d = some (.dT (E'.map Ent.kv)) → DB H' many ⟨z.D, z.v + 1, z.S + j, z.n + 1⟩ E' →
    (∀ m, cf (pl E') m = cf (pl E) m + if ns = m then (o : Rat) / (u : Rat) else 0) → Q .non H'
theorem top_fit {t b : Int} {v S : Nat} (ht : t.natAbs ≤ 2 ^ v * b.natAbs) (hb : b.natAbs ≤ 2 ^ S) (h : v + S ≤ 12000) : t.natAbs < 2 ^ 50000 := by
  have h1 := Nat.le_trans ht (Nat.mul_le_mul_left _ hb)
  rw [← Nat.pow_add] at h1
  exact Nat.lt_of_le_of_lt h1 (Nat.pow_lt_pow_right (by decide) (by omega))
theorem bot_fit {b : Int} {S n : Nat} (hb : b.natAbs ≤ 2 ^ S) (h : S < n) : b.natAbs < 2 ^ n := Nat.lt_of_le_of_lt hb (Nat.pow_lt_pow_right (by decide) h)
section
variable {P : Program} {w : World} {K : PySem.W.Frag} {mg : Str → Option Value} {base : Heap} {f fd : _}
theorem scPut : FnScope ["found", "powers", "number", "some"] ["found", "powers", "number"] (defScope sPut) := ⟨rfl, rfl, rfl, by decide +kernel, rfl, by decide +kernel, by decide +kernel⟩
theorem ok_put {fP : Addr} {fdP : FuncData} (F : Fun K "_law_put" "_law_put" sPut f fd) (DP : Df K mg "_law_plus" sPlus ["one", "other"] fP fdP) : FnOk P w K mg base CX0 2 f fd ["found", "powers", "number"] spPut := by
  have GP : FnOk P w K mg base CX0 1 fP fdP ["one", "other"] spPlus := ok_plus DP.F
  refine F.ok scPut (fun vs H Q E h => ?_) (fun cdv A outer s H vs Q E hr h => ?_)
  · obtain ⟨d, b, q, ns, o, u, many, j, z, E', rfl, _⟩ := h
    rfl
  · obtain ⟨d, b, q, ns, o, u, many, j, z, EE, rfl, hd, hD, hS, hv, hn, hb, hl, hns, hsum, hq, pu, su, so, go⟩ := h
    have hu : _ + 1 < cLine := Nat.lt_of_le_of_lt (Nat.add_le_add_left (by decide : 1 ≤ 64) _) hr.units
    refine ⟨_, pss_cons (ps_set (i := 3) scPut.nd rfl (Or.inl rfl) (pe_call GP hr rfl DP.m DP.F.kp DP.b .nil pass0 (pa_cons (pe_dget2 hu (pv 0) (pv 1) (pe_tupF (pa_cons pe_int (pa_cons pe_int pa_nil))) ⟨rfl, rfl, rfl, rfl⟩) (pa_cons (pv 2) pa_nil))))
      (pss_one (ps_if (pt_cmpR op_ne (pe_ix ix_tup (pv 3) pe_int (fun _ _ => rfl)) pe_int (nomark _)) (pss_one (ps_dput hu (pv 0) (pv 1) (pv 3) rfl))
        (pss_one (ps_if (pt_cmp (pc_din hu (pv 1) (pv 0))) (pss_one (ps_expr (LwD.pe_dpopT hu (pv 0) (pv 1) ⟨rfl, rfl, rfl, rfl⟩))) pss_nil)))), ?_⟩
    have hb' : H b = some (.tup ((LwD.ik ns).map kV)) := by rw [LwD.ik_map]; exact hb
    have few := hD.few
    have kz : (EE.map Ent.kv).length < sizeLine := by rw [List.length_map]; exact Nat.lt_of_le_of_lt (Nat.le_trans few hn) (by decide)
    refine ⟨_, rfl, d, rfl, .inr ⟨_, .inl hd⟩, _, rfl, (by show 2 ≤ sizeLine; decide), fun z1 H1 n1 s1 e1 => ⟨valV (EE.map Ent.kv) (LwD.ik ns), DGet.t (s1 _ _ hd) (s1 _ _ hb'), _, rfl, ?_⟩⟩
    have uf : u.natAbs < 2 ^ 8000 := bot_fit su (by omega)
    have of : o.natAbs < 2 ^ 50000 := top_fit so su (by omega)
    -- the rest, once the sum is made
    have fin : ∀ (t b0 t' b' : Int) (r : Addr) (H2 : Hp), Same H H2 → At2 H2 r t' b' → H1 r = none → 0 < b' → 0 < b0 → t' * (b0 * u) = (t * u + o * b0) * b' → t.natAbs ≤ 2 ^ z.v * b0.natAbs →
        (t' : Rat) / (b' : Rat) = (t : Rat) / (b0 : Rat) + (o : Rat) / (u : Rat) ∧ t'.natAbs ≤ 2 ^ (z.v + 1) * b'.natAbs ∧ r ≠ d := fun t b0 t' b' r H2 s2 e2 n2 pb pb0 eq ht =>
      ⟨frac_plus pb0 pu pb eq, ratio_one pb0 pu eq ht so, fun zz => by rw [zz, s1 _ _ hd] at n2; cases n2⟩
    by_cases hin : ns ∈ EE.map Ent.ns
    · obtain ⟨e, he, en⟩ := List.mem_map.mp hin
      obtain ⟨L, R, eE⟩ := List.append_of_mem he
      have hE := hD.each e he
      have nd := hD.nd
      rw [eE, List.map_append, List.map_cons] at nd
      have nL : ns ∉ L.map Ent.ns := fun y => by
        rw [← en] at y
        exact (List.nodup_append.mp nd).2.2 _ y _ (List.mem_cons_self ..) rfl
      have nR : ns ∉ R.map Ent.ns := fun y => by
        rw [← en] at y
        exact (List.nodup_cons.mp (List.nodup_append.mp nd).2.1).1 y
      have km : EE.map Ent.kv = L.map Ent.kv ++ (LwD.ik ns, V.ref e.c) :: R.map Ent.kv := by
        rw [eE, List.map_append, List.map_cons, ← en]
        rfl
      have ev : valV (EE.map Ent.kv) (LwD.ik ns) = some (.ref e.c) := by rw [km]; exact val_mid (key_ne nL)
      rw [ev]
      have ke := hD.k he
      have ks : (L.map Ent.k).sum + (e.k + (R.map Ent.k).sum) ≤ z.S := by
        have := hD.sum
        rwa [eE, List.map_append, List.map_cons, List.sum_append, List.sum_cons] at this
      have kf : L.length + (R.length + 1) ≤ z.n := by
        have := few
        rwa [eE, List.length_append, List.length_cons] at this
      refine ⟨e.c, q, e.t, e.b, o, u, rfl, s1 _ _ hE.at', s1 _ _ hq, hE.pos, pu, top_fit hE.st hE.sb (by omega), bot_fit hE.sb (by omega), of, uf, fun r t' b' H2 n2 s2 e2 pb lb eq => ?_⟩
      have s12 : Same H H2 := s1.trans s2
      obtain ⟨ex, rt, rd⟩ := fin e.t e.b t' b' r H2 s12 e2 n2 pb hE.pos eq hE.st
      have hd2 : H2 d = some (.dT (EE.map Ent.kv)) := s12 _ _ hd
      have hb2 : H2 b = some (.tup ((LwD.ik ns).map kV)) := s12 _ _ hb'
      have bd : ∀ o, But d H (upd H2 d o) := fun o x y hx hn => by
        rw [upd_ne hn]
        exact s12 _ _ hx
      have tu : ∀ o : HO, Kp H (upd H2 d o) := fun o => (Kp.of s12).trans (Kp.upd hd2 trivial)
      have cE : ∀ m, cf (pl EE) m = (if ns = m then (e.t : Rat) / (e.b : Rat) else 0) + (cf (pl L) m + cf (pl R) m) := fun m => by
        rw [eE, pl, List.map_append, List.map_cons, cf_app, cf_cons]
        show cf (pl L) m + ((if e.ns = m then (e.t : Rat) / (e.b : Rat) else 0) + cf (pl R) m) = _
        rw [en]
        grind
      refine ⟨_, rfl, r, _, _, _, rfl, rfl, SqT.of e2, rfl, rfl, _, rfl, ?_⟩
      refine ite2 (fun nz => ?_) (fun nz => ?_)
      · refine ⟨_, rfl, _, rfl, _, rfl, d, _, rfl, DPut.t (k := LwD.ik ns) hd2 hb2 kz, ?_⟩
        have tz : t' ≠ 0 := fun y => by rw [y] at nz; simp at nz
        refine go (L ++ ⟨ns, r, t', b', e.k + j⟩ :: R) _ (bd _) ?_ ⟨?_, fun x hx => ?_, ?_, ?_⟩ fun m => ?_
        · rw [upd_same, km, put_mid (key_ne nL) (key_ne nR), List.map_append, List.map_cons]
          rfl
        · rw [List.map_append, List.map_cons]
          rw [en] at nd
          exact nd
        · rcases List.mem_append.mp hx with hx | hx
          · exact ((hD.each x (by rw [eE]; exact List.mem_append_left _ hx)).kp (tu _)).up (Nat.le_succ _)
          · rcases List.mem_cons.mp hx with rfl | hx
            · refine ⟨hl, hns, hsum, by show At2 _ r t' b'; rw [At2, upd_ne rd]; exact e2, pb, tz, ?_, rt⟩
              refine Nat.le_trans lb ?_
              rw [Nat.pow_add]
              exact Nat.mul_le_mul hE.sb su
            · exact ((hD.each x (by rw [eE]; exact List.mem_append_right _ (List.mem_cons_of_mem _ hx))).kp (tu _)).up (Nat.le_succ _)
        · rw [List.map_append, List.map_cons, List.sum_append, List.sum_cons]
          show (L.map Ent.k).sum + (e.k + j + (R.map Ent.k).sum) ≤ z.S + j
          omega
        · rw [List.length_append, List.length_cons]
          show L.length + (R.length + 1) ≤ z.n + 1
          omega
        · rw [cE, pl, List.map_append, List.map_cons, cf_app, cf_cons]
          show cf (pl L) m + ((if ns = m then (t' : Rat) / (b' : Rat) else 0) + cf (pl R) m) = _
          rw [ex]
          split <;> grind
      · refine ⟨_, rfl, _, rfl, d, _, rfl, DGet.t (k := LwD.ik ns) hd2 hb2, _, rfl, ?_⟩
        rw [ev]
        refine iteT ⟨_, rfl, d, rfl, .inr ⟨_, .inl hd2⟩, _, rfl, _, LwD.ik ns, _, b, hd2, rfl, hb2, ev, ?_⟩
        have tz : t' = 0 := by
          by_cases y : t' = 0
          · exact y
          · exact absurd (by simp [y]) nz
        refine go (L ++ R) _ (bd _) ?_ ⟨?_, fun x hx => ?_, ?_, ?_⟩ fun m => ?_
        · rw [upd_same, km, drop_mid (key_ne nL) (key_ne nR), List.map_append]
        · rw [List.map_append]
          rw [List.nodup_append] at nd ⊢
          exact ⟨nd.1, (List.nodup_cons.mp nd.2.1).2, fun a ha b hb => nd.2.2 a ha b (List.mem_cons_of_mem _ hb)⟩
        · refine ((hD.each x ?_).kp (tu _)).up (Nat.le_succ _)
          rw [eE]
          rcases List.mem_append.mp hx with hx | hx
          · exact List.mem_append_left _ hx
          · exact List.mem_append_right _ (List.mem_cons_of_mem _ hx)
        · rw [List.map_append, List.sum_append]
          show _ ≤ z.S + j
          omega
        · rw [List.length_append]
          show _ ≤ z.n + 1
          omega
        · rw [cE, pl, List.map_append, cf_app]
          show cf (pl L) m + cf (pl R) m = _
          rw [tz] at ex
          have : (e.t : Rat) / (e.b : Rat) + (o : Rat) / (u : Rat) = 0 := by rw [← ex]; show ((0 : Int) : Rat) / _ = 0; grind
          split <;> grind
    · have ev : valV (EE.map Ent.kv) (LwD.ik ns) = none := val_out (key_ne hin)
      rw [ev]
      refine ⟨z1, q, 0, 1, o, u, rfl, e1, s1 _ _ hq, by decide, pu, by show 0 < _; exact Nat.pow_pos (by decide), by show 1 < _; exact Nat.one_lt_pow (by decide) (by decide), of, uf, fun r t' b' H2 n2 s2 e2 pb lb eq => ?_⟩
      have s12 : Same H H2 := s1.trans s2
      obtain ⟨ex, rt, rd⟩ := fin 0 1 t' b' r H2 s12 e2 n2 pb (by decide) eq (Nat.zero_le _)
      have hd2 : H2 d = some (.dT (EE.map Ent.kv)) := s12 _ _ hd
      have hb2 : H2 b = some (.tup ((LwD.ik ns).map kV)) := s12 _ _ hb'
      have bd : ∀ o, But d H (upd H2 d o) := fun o x y hx hn => by
        rw [upd_ne hn]
        exact s12 _ _ hx
      have tu : ∀ o : HO, Kp H (upd H2 d o) := fun o => (Kp.of s12).trans (Kp.upd hd2 trivial)
      have ex' : (t' : Rat) / (b' : Rat) = (o : Rat) / (u : Rat) := by rw [ex]; show ((0 : Int) : Rat) / _ + _ = _; grind
      refine ⟨_, rfl, r, _, _, _, rfl, rfl, SqT.of e2, rfl, rfl, _, rfl, ?_⟩
      refine ite2 (fun nz => ?_) (fun nz => ?_)
      · refine ⟨_, rfl, _, rfl, _, rfl, d, _, rfl, DPut.t (k := LwD.ik ns) hd2 hb2 kz, ?_⟩
        have tz : t' ≠ 0 := fun y => by rw [y] at nz; simp at nz
        refine go (EE ++ [⟨ns, r, t', b', j⟩]) _ (bd _) ?_ ⟨?_, fun x hx => ?_, ?_, ?_⟩ fun m => ?_
        · rw [upd_same, put_out (key_ne hin), List.map_append]
          rfl
        · rw [List.map_append, List.nodup_append]
          refine ⟨hD.nd, by simp, fun a ha b hb => ?_⟩
          have : b = ns := by simpa using hb
          rintro rfl
          rw [this] at ha
          exact hin ha
        · rcases List.mem_append.mp hx with hx | hx
          · exact ((hD.each x hx).kp (tu _)).up (Nat.le_succ _)
          · rw [List.mem_singleton] at hx
            subst hx
            refine ⟨hl, hns, hsum, by show At2 _ r t' b'; rw [At2, upd_ne rd]; exact e2, pb, tz, ?_, rt⟩
            refine Nat.le_trans lb ?_
            rw [Int.natAbs_one, Nat.one_mul]
            exact su
        · rw [List.map_append, List.sum_append]
          have := hD.sum
          show (EE.map Ent.k).sum + (j + 0) ≤ z.S + j
          omega
        · rw [List.length_append]
          show EE.length + 1 ≤ z.n + 1
          omega
        · rw [pl, List.map_append, cf_app]
          show cf (pl EE) m + ((if ns = m then (t' : Rat) / (b' : Rat) else 0) + 0) = _
          rw [ex']
          split <;> grind
      · refine ⟨_, rfl, _, rfl, d, _, rfl, DGet.t (k := LwD.ik ns) hd2 hb2, _, rfl, ?_⟩
        rw [ev]
        have tz : t' = 0 := by
          by_cases y : t' = 0
          · exact y
          · exact absurd (by simp [y]) nz
        have o0 : (o : Rat) / (u : Rat) = 0 := by rw [← ex', tz]; show ((0 : Int) : Rat) / _ = 0; grind
        refine iteF ?_
        refine go EE H2 (But.of s12) hd2 ((hD.kp (Kp.of s12)).up (Nat.le_refl _) (Nat.le_succ _) (Nat.le_add_right ..) (Nat.le_succ _)) fun m => ?_
        rw [o0]
        split <;> grind
end
end Lw

namespace Lw
open PySem PySem.Spec PyProof.Rows L2 LwQ LwV
structure FQ (H : Hp) (d : Addr) (many : Nat) (z : Sz) (E : List Ent) : Prop where
  fr : ∃ o, H d = some (.frz o (.dT (E.map Ent.kv)))
  db : DB H many z E
theorem FQ.kp {H H' : Hp} {d : Addr} {many : Nat} {z : Sz} {E : List Ent} (h : FQ H d many z E) (k : Kp H H') : FQ H' d many z E := ⟨h.fr.elim fun o e => ⟨o, k.frz _ _ _ e⟩, h.db.kp k⟩
theorem FQ.rd {H : Hp} {d : Addr} {many : Nat} {z : Sz} {E : List Ent} (h : FQ H d many z E) : Rd H d (.dT (E.map Ent.kv)) := .inr h.fr
theorem val_in {E : List Ent} (nd : (E.map Ent.ns).Nodup) {e : Ent} (he : e ∈ E) : valV (E.map Ent.kv) (LwD.ik e.ns) = some (.ref e.c) := by
  obtain ⟨L, R, rfl⟩ := List.append_of_mem he
  rw [List.map_append, List.map_cons] at nd ⊢
  refine val_mid (key_ne fun y => ?_)
  exact (List.nodup_append.mp nd).2.2 _ y _ (List.mem_cons_self ..) rfl
theorem rd_get {H : Hp} {d b : Addr} {E : List Ent} (h : Rd H d (.dT (E.map Ent.kv))) (nd : (E.map Ent.ns).Nodup) {e : Ent} (he : e ∈ E) (hb : H b = some (.tup (e.ns.map V.int))) : DGet H d (.ref b) (some (.ref e.c)) :=
  .inr ⟨_, LwD.ik e.ns, b, h, rfl, by rw [LwD.ik_map]; exact hb, (val_in nd he).symm⟩
theorem FQ.get {H : Hp} {d b : Addr} {many : Nat} {z : Sz} {E : List Ent} (h : FQ H d many z E) {e : Ent} (he : e ∈ E) (hb : H b = some (.tup (e.ns.map V.int))) : DGet H d (.ref b) (some (.ref e.c)) := rd_get h.rd h.db.nd he hb
theorem kv_keys (E : List Ent) : ∀ p ∈ E.map Ent.kv, ∃ ns : List Int, p.1 = LwD.ik ns := fun p hp => by
  obtain ⟨e, _, rfl⟩ := List.mem_map.mp hp
  exact ⟨e.ns, rfl⟩
theorem DB.keyS {H : Hp} {many : Nat} {z : Sz} {E : List Ent} (h : DB H many z E) (hD : z.D ≤ 8) : ∀ p ∈ E.map Ent.kv, LwD.KeyS many p.1 := fun p hp => by
  obtain ⟨e, he, rfl⟩ := List.mem_map.mp hp
  have k := h.each e he
  exact ⟨e.ns, rfl, k.len, k.nn, by have := k.deg; omega⟩
theorem for_ents {d : Addr} {o : Obj} {E : List Ent} {ys : List V} {g : TG} {tb : TS} {D : Ends} {σ : L2.St} {H H0 : Hp} (ks : LwD.Keyed H0 ys (E.map Ent.kv)) (Pv : Nat → L2.St → Hp → Prop) (h0 : Pv 0 σ H) (hl : ∀ i σ H, Pv i σ H → H d = some (.frz o (.dT (E.map Ent.kv))) ∧ Kp H0 H)
    (hs : ∀ i e b σ H, E[i]? = some e → e ∈ E → H b = some (.tup (e.ns.map V.int)) → Pv i σ H → g (.ref b) σ H fun σ2 H2 => tb { D with nx := Pv (i + 1), ct := Pv (i + 1), bk := D.nx } σ2 H2) (hd : ∀ σ H, Pv E.length σ H → D.nx σ H) :
    ∃ W : Nat → Nat → L2.St → Hp → Prop, (∃ m, W 0 m σ H) ∧ ∀ i m σ H, W i m σ H →
      ((LwD.Itk d o (E.map Ent.kv) ys).stop i H ∧ D.nx σ H) ∨ ((LwD.Itk d o (E.map Ent.kv) ys).go i H ∧ ∃ N : L2.St → Hp → Prop, (∀ σ' H', N σ' H' → ∃ m', m' < m ∧ W (i + 1) m' σ' H') ∧ ∀ x H', (LwD.Itk d o (E.map Ent.kv) ys).yld i H x H' → g x σ H' fun σ2 H2 => tb { D with nx := N, ct := N, bk := D.nx } σ2 H2) := by
  have lk : ys.length = E.length := by rw [ks.1, List.length_map]
  refine LwD.for_keys Pv h0 (fun i σ H h => (hl i σ H h).1) (fun i x σ H hx h => ?_) (fun σ H h => hd σ H (by rw [← lk]; exact h))
  have hi : i < E.length := by rw [← lk]; exact (List.getElem?_eq_some_iff.mp hx).1
  obtain ⟨e, he⟩ : ∃ e, E[i]? = some e := ⟨E[i], by simp [hi]⟩
  obtain ⟨b, ns', rfl, hb, hns⟩ := ks.2 i x e.kv hx (by rw [List.getElem?_map, he]; rfl)
  have ens : e.ns = ns' := ik_inj hns
  subst ens
  exact hs i e b σ H he (List.mem_of_getElem? he) ((hl i σ H h).2.tup _ _ hb) h
theorem pl_take {E : List Ent} {i : Nat} {e : Ent} (he : E[i]? = some e) : pl (E.take (i + 1)) = pl (E.take i) ++ [e.pr] := by
  rw [List.take_add_one, he]
  unfold pl
  rw [List.map_append]
  rfl
theorem ks_take {E : List Ent} {i : Nat} {e : Ent} (he : E[i]? = some e) : ((E.take (i + 1)).map Ent.k).sum = ((E.take i).map Ent.k).sum + e.k := by
  rw [List.take_add_one, he, List.map_append, List.sum_append]
  rfl
theorem ks_le (E : List Ent) (i : Nat) : ((E.take i).map Ent.k).sum ≤ (E.map Ent.k).sum := by
  conv => rhs; rw [← List.take_append_drop i E, List.map_append, List.sum_append]
  exact Nat.le_add_right ..
theorem put_same {H H' : Hp} {l : Addr} {o : HO} (s : Same H H') (n : H l = none) : Same H (upd H' l o) := fun c u h => by
  rw [upd_ne (ne_of_none h n)]
  exact s c u h
structure CmI (F : Nat → List V) (q : Addr) (H1 : Hp) (i : Nat) (ys : List V) (H2 : Hp) : Prop where
  s : Same H1 H2
  e : H2 q = some (.lst ys)
  y : ys = F i
theorem comp_zipT {K : PySem.W.Frag} {a b : Addr} {ts us : List V} {σ0 : L2.St} {g : TG} {te : TE} {Q : VK} {p : Addr} {H' : Hp} (Pv : Nat → List V → Hp → Prop) (hle : us.length = ts.length) (hz : us.length < sizeLine) (h0 : Pv 0 [] H')
    (hl : ∀ i ys H2, Pv i ys H2 → SqT K H2 a ts ∧ SqT K H2 b us ∧ H2 p = some (.lst ys))
    (hs : ∀ i m ys x y c H2, ts[i]? = some x → us[i]? = some y → m = us.length - i → ys.length = i → Pv i ys H2 → H2 c = none → g (.ref c) σ0 (upd H2 c (.tup [x, y])) fun σ4 H4 => Keep σ0 σ4 ∧ te σ4 H4 fun y H5 => H5 p = some (.lst ys) ∧ ∃ m', m' < m ∧ CompW us Pv (i + 1) m' (ys ++ [y]) (upd H5 p (.lst (ys ++ [y]))))
    (hd : ∀ ys H2, ys.length = us.length → Pv us.length ys H2 → Q (.ref p) H2) : CompGoF σ0 (Itz K a b) g te Q p H' := by
  refine ⟨CompW us Pv, ⟨_, rfl, Nat.zero_le _, rfl, h0⟩, ?_⟩
  rintro i m ys H2 ⟨hm, hi, hy, hp⟩
  obtain ⟨q1, q2, e⟩ := hl i ys H2 hp
  refine ⟨e, by omega, ?_⟩
  by_cases hlt : i < us.length
  · have h2 : i < ts.length := by omega
    refine .inr ⟨⟨ts, us, ts[i], us[i], q1, q2, by simp [h2], by simp [hlt]⟩, ?_⟩
    rintro _ _ ⟨c, x, y, hc, rfl, rfl, h1, h2⟩
    exact hs i m ys x y c H2 (h1 _ q1) (h2 _ q2) hm hy hp hc
  · obtain rfl : i = us.length := by omega
    exact .inl ⟨⟨ts, us, q1, q2, .inr (Nat.le_refl _)⟩, hd ys H2 hy hp⟩
noncomputable abbrev rTupOf (K : PySem.W.Frag) : List V → Hp → VK → Prop := fun xs H Q => ∃ p ys, xs = [.ref p] ∧ ((SqL K H p ys ∧ ∀ l, H l = none → Q (.ref l) (upd H l (.tup ys))) ∨ (SqT K H p ys ∧ Q (.ref p) H))
noncomputable abbrev tBoth (K : PySem.W.Frag) (i j : Nat) : TE := tCB (rTupOf K) (tCons (tCompF 2 [] (iZipT K (tCons (tVar i) (tCons (tVar j) tNil))) (gTup K 2 (gCons (gName 0) (gCons (gName 1) gNil))) (tOp (rI0 fun i j => V.int (i + j)) (tVar 0) (tVar 1))) tNil)
theorem dBoth {K : PySem.W.Frag} {i j : Nat} {σ : L2.St} {H : Hp} {a b : Addr} {as bs : List Int} {Q : VK} (e1 : σ[i]? = some (some (.ref a))) (e2 : σ[j]? = some (some (.ref b))) (ha : H a = some (.tup (as.map V.int))) (hb : H b = some (.tup (bs.map V.int))) (hl : bs.length = as.length) (h4 : bs.length ≤ 4)
    (q : ∀ p H', H p = none → Same H H' → H' p = some (.tup ((padd as bs).map V.int)) → Q (.ref p) H') : tBoth K i j σ H Q := by
  refine ⟨_, e1, _, e2, a, b, rfl, ⟨_, SqT.of ha⟩, ⟨_, SqT.of hb⟩, fun l H1 n1 s1 h1 => ?_⟩
  refine comp_zipT (K := K) (a := a) (b := b) (ts := as.map V.int) (us := bs.map V.int) (CmI (fun k => ((padd as bs).take k).map V.int) l H) (by simp [hl]) (by rw [List.length_map]; exact Nat.lt_of_le_of_lt h4 (by decide)) ⟨s1, h1, rfl⟩ (fun k ys H2 h => ⟨SqT.of (h.s _ _ ha), SqT.of (h.s _ _ hb), h.e⟩) ?_ ?_
  · rintro k m ys x y c H2 hx hy hm hyl ⟨s2, h2, ey⟩ hc
    rw [List.getElem?_map] at hx hy
    obtain ⟨x', hx', rfl⟩ := Option.map_eq_some_iff.mp hx
    obtain ⟨y', hy', rfl⟩ := Option.map_eq_some_iff.mp hy
    have s3 : Same H2 (upd H2 c (.tup [.int x', .int y'])) := same_upd _ hc
    refine ⟨c, _, rfl, SqT.of upd_same, rfl, _, _, rfl, _, _, rfl, rfl, keep2, _, rfl, _, rfl, _, _, rfl, rfl, ?_⟩
    refine comp_next (by rw [List.getElem?_map, hy']; rfl) hm hyl (s3 _ _ h2) ⟨put_same (s2.trans s3) n1, upd_same, ?_⟩
    rw [ey, List.take_add_one, List.map_append]
    congr 1
    have : (padd as bs)[k]? = some (x' + y') := by unfold padd; rw [List.getElem?_zipWith, hx', hy']
    rw [this]
    rfl
  · rintro ys H2 hyl ⟨s2, h2, ey⟩
    have el : (padd as bs).length = bs.length := by unfold padd; rw [List.length_zipWith]; omega
    rw [List.length_map, ← el, List.take_length] at ey
    refine ⟨l, _, rfl, .inl ⟨SqL.of h2, fun p np => ?_⟩⟩
    rw [ey]
    exact q p _ (s2.free np) (s2.trans (same_upd _ np)) upd_same
theorem padd_sum : ∀ {as bs : List Int}, as.length = bs.length → (padd as bs).sum = as.sum + bs.sum
  | [], [], _ => rfl
  | a :: as, b :: bs, h => by
    show (a + b) + (padd as bs).sum = (a + as.sum) + (b + bs.sum)
    rw [padd_sum (by simpa using h)]
    omega
theorem padd_nn {as bs : List Int} (ha : ∀ n ∈ as, 0 ≤ n) (hb : ∀ n ∈ bs, 0 ≤ n) : ∀ n ∈ padd as bs, 0 ≤ n := fun n hn => by
  obtain ⟨i, hi⟩ := List.mem_iff_getElem?.mp hn
  unfold padd at hi
  rw [List.getElem?_zipWith] at hi
  split at hi
  · rename_i x y h1 h2
    cases hi
    have := ha x (List.mem_of_getElem? h1)
    have := hb y (List.mem_of_getElem? h2)
    omega
  · cases hi
noncomputable def spLMul : Sp := fun vs H Q _ => ∃ (p q : Addr) (t b o u : Int), vs = [.ref p, .ref q] ∧ At2 H p t b ∧ At2 H q o u ∧ t.natAbs < 2 ^ 50000 ∧ b.natAbs < 2 ^ 50000 ∧ o.natAbs < 2 ^ 50000 ∧ u.natAbs < 2 ^ 50000 ∧
  ∀ (r : Addr) (H' : Hp), H r = none → Same H H' → At2 H' r (t * o) (b * u) → Q (.ref r) H'
noncomputable def spLike : Sp := fun vs H Q _ => ∃ (p q : Addr) (t b o u : Int), vs = [.ref p, .ref q] ∧ At2 H p t b ∧ At2 H q o u ∧ t.natAbs < 2 ^ 50000 ∧ b.natAbs < 2 ^ 50000 ∧ o.natAbs < 2 ^ 50000 ∧ u.natAbs < 2 ^ 50000 ∧ Q (.bl (decide (t * u = o * b))) H
theorem dec_ints (a b : Int) : decide (V.int a = V.int b) = decide (a = b) := by
  by_cases h : a = b
  · rw [h]; simp
  · rw [decide_eq_false h, decide_eq_false]
    intro z
    injection z with z
    exact h z
section
variable {P : Program} {w : World} {K : PySem.W.Frag} {mg : Str → Option Value} {base : Heap} {f fd : _}
theorem scLMul : FnScope ["one", "other"] ["one", "other"] (defScope sLMul) := ⟨rfl, rfl, rfl, by decide +kernel, rfl, by decide +kernel, by decide +kernel⟩
theorem ok_lmul (F : Fun K "_law_mul" "_law_mul" sLMul f fd) : FnOk P w K mg base CX0 1 f fd ["one", "other"] spLMul := by
  refine F.ok scLMul (fun vs H Q E h => ?_) (fun cdv A outer s H vs Q E hr h => ?_)
  · obtain ⟨p, q, t, b, o, u, rfl, _⟩ := h
    rfl
  · obtain ⟨p, q, t, b, o, u, rfl, hp, hq, st, sb, so, su, k⟩ := h
    refine ⟨_, pss_one (ps_ret (pe_tupF (pa_cons (pe_op op_mulL (pe_ix ix_tup (pv 0) pe_int (fun _ _ => rfl)) (pe_ix ix_tup (pv 1) pe_int (fun _ _ => rfl))) (pa_cons (pe_op op_mulL (pe_ix ix_tup (pv 0) pe_int (fun _ _ => rfl)) (pe_ix ix_tup (pv 1) pe_int (fun _ _ => rfl))) pa_nil)))), ?_⟩
    try dsimp only [cxK]
    have up : ∀ {a : Int}, a.natAbs < 2 ^ 50000 → a.natAbs < 2 ^ 100000 := fun h => abs_up h (by decide)
    exact rvT rfl (SqT.of hp) rfl (rvT rfl (SqT.of hq) rfl ⟨_, _, rfl, rfl, ⟨up st, up so⟩, rvT rfl (SqT.of hp) rfl (rvT rfl (SqT.of hq) rfl ⟨_, _, rfl, rfl, ⟨up sb, up su⟩, (by show 2 ≤ sizeLine; decide), k⟩)⟩)
theorem scLike : FnScope ["one", "other"] ["one", "other"] (defScope sLike) := ⟨rfl, rfl, rfl, by decide +kernel, rfl, by decide +kernel, by decide +kernel⟩
theorem ok_like (F : Fun K "_law_like" "_law_like" sLike f fd) : FnOk P w K mg base CX0 1 f fd ["one", "other"] spLike := by
  refine F.ok scLike (fun vs H Q E h => ?_) (fun cdv A outer s H vs Q E hr h => ?_)
  · obtain ⟨p, q, t, b, o, u, rfl, _⟩ := h
    rfl
  · obtain ⟨p, q, t, b, o, u, rfl, hp, hq, st, sb, so, su, k⟩ := h
    refine ⟨_, pss_one (ps_ret (pe_cmpR op_eq (pe_op op_mulL (pe_ix ix_tup (pv 0) pe_int (fun _ _ => rfl)) (pe_ix ix_tup (pv 1) pe_int (fun _ _ => rfl))) (pe_op op_mulL (pe_ix ix_tup (pv 1) pe_int (fun _ _ => rfl)) (pe_ix ix_tup (pv 0) pe_int (fun _ _ => rfl))) (nomark _))), ?_⟩
    try dsimp only [cxK]
    have up : ∀ {a : Int}, a.natAbs < 2 ^ 50000 → a.natAbs < 2 ^ 100000 := fun h => abs_up h (by decide)
    refine rvT rfl (SqT.of hp) rfl (rvT rfl (SqT.of hq) rfl ⟨_, _, rfl, rfl, ⟨up st, up su⟩, rvT rfl (SqT.of hq) rfl (rvT rfl (SqT.of hp) rfl ⟨_, _, rfl, rfl, ⟨up so, up sb⟩, rfl, ?_⟩)⟩)
    rw [dec_ints]
    exact k
end
end Lw

namespace Lw
open PySem PySem.Spec PyProof.Rows L2 LwQ LwV
theorem same_but {p : Addr} {H H1 H2 : Hp} (s : Same H H1) (b : But p H1 H2) (n : H p = none) : Same H H2 := fun c o h => b _ _ (s _ _ h) (fun z => by rw [z, n] at h; cases h)
noncomputable def spAdded : Sp := fun vs H Q _ => ∃ (d1 d2 : Addr) (many : Nat) (z y : Sz) (E1 E2 : List Ent), vs = [.ref d1, .ref d2] ∧ FQ H d1 many z E1 ∧ FQ H d2 many y E2 ∧ 1 ≤ many ∧ many ≤ 4 ∧ y.D ≤ z.D ∧ y.v ≤ z.v ∧ z.D ≤ 8 ∧ z.S + y.S ≤ 7900 ∧ z.v + y.n ≤ 4000 ∧ z.n + y.n ≤ 1000 ∧
  ∀ (p : Addr) (E' : List Ent) (H' : Hp), H p = none → Same H H' → H' p = some (.dT (E'.map Ent.kv)) → DB H' many ⟨z.D, z.v + y.n, z.S + y.S, z.n + y.n⟩ E' → (∀ m, cf (pl E') m = cf (pl E1) m + cf (pl E2) m) → Q (.ref p) H'
inductive AdI (H H1 : Hp) (d1 d2 p : Addr) (many : Nat) (z : Sz) (E1 E2 : List Ent) (i : Nat) : L2.St → Hp → Prop where
  | mk {u : Option V} {H' : Hp} {E' : List Ent} (s : Same H H') (k : Kp H1 H') (e : H' p = some (.dT (E'.map Ent.kv))) (db : DB H' many ⟨z.D, z.v + i, z.S + ((E2.take i).map Ent.k).sum, z.n + i⟩ E') (c : ∀ m, cf (pl E') m = cf (pl E1) m + cf (pl (E2.take i)) m) : AdI H H1 d1 d2 p many z E1 E2 i [some (.ref d1), some (.ref d2), some (.ref p), u] H'
theorem up_ratio {t b : Int} {v v' : Nat} (h : t.natAbs ≤ 2 ^ v * b.natAbs) (k : v ≤ v') : t.natAbs ≤ 2 ^ v' * b.natAbs := Nat.le_trans h (Nat.mul_le_mul_right _ (Nat.pow_le_pow_right (by decide) k))
section
variable {P : Program} {w : World} {K : PySem.W.Frag} {mg : Str → Option Value} {base : Heap} {f fd : _}
theorem scAdded : FnScope ["one", "other", "found", "powers"] ["one", "other"] (defScope sAdded) := ⟨rfl, rfl, rfl, by decide +kernel, rfl, by decide +kernel, by decide +kernel⟩
theorem ok_ladd {fT : Addr} {fdT : FuncData} (F : Fun K "_law_added" "_law_added" sAdded f fd) (T : Txt mg) (DT : Df K mg "_law_put" sPut ["found", "powers", "number"] fT fdT) (GT : FnOk P w K mg base CX0 2 fT fdT ["found", "powers", "number"] spPut) : FnOk P w K mg base CX0 3 f fd ["one", "other"] spAdded := by
  refine F.ok scAdded (fun vs H Q E h => ?_) (fun cdv A outer s H vs Q E hr h => ?_)
  · obtain ⟨d1, d2, many, z, y, E1, E2, rfl, _⟩ := h
    rfl
  · obtain ⟨d1, d2, many, z, y, E1, E2, rfl, h1, h2, m1, m4, hyD, hyv, hD, hS, hv, hn, go⟩ := h
    have hu : _ + 1 < cLine := Nat.lt_of_le_of_lt (Nat.add_le_add_left (by decide : 1 ≤ 64) _) hr.units
    refine ⟨_, pss_cons (ps_set (i := 2) scAdded.nd rfl (Or.inl rfl) (pe_callTy LwD.call_dictS (by rfl) T.dct boot_dict (pa_cons (pv 0) pa_nil)))
      (pss_cons (ps_for PassesOwn.never rfl (LwD.pi_keys (pv 1)) (pg_name (i := 3) scAdded.nd rfl (Or.inl rfl))
        (pss_one (ps_expr (pe_call GT hr rfl DT.m DT.F.kp DT.b .nil pass0 (pa_cons (pv 2) (pa_cons (pv 3) (pa_cons (pe_dget hu (pv 1) (pv 3) (fun _ _ => rfl)) pa_nil)))))))
      (pss_one (ps_ret (pv 2)))), ?_⟩
    try dsimp only [cxK]
    refine ⟨_, rfl, d1, many, _, rfl, h1.rd, m1, m4, h1.db.keyS hD, fun p H1 n1 s1 e1 => ?_⟩
    obtain ⟨o2, f2⟩ := (h2.kp (Kp.of s1)).fr
    refine ⟨_, rfl, d2, o2, _, rfl, f2, kv_keys E2, fun ks hks => ?_⟩
    refine for_ents hks (AdI H H1 d1 d2 p many z E1 E2) (.mk s1 (Kp.of (Same.refl _)) e1 ((h1.db.kp (Kp.of s1)).up (Nat.le_refl _) (Nat.le_refl _) (Nat.le_add_right ..) (Nat.le_refl _)) fun m => by show _ = _ + (0 : Rat); grind) (fun i σ H2 h => ?_) (fun i e b σ H2 he eM hb h => ?_) (fun σ H2 h => ?_)
    · obtain ⟨s2, k, e2, db, c⟩ := h
      exact ⟨k.frz _ _ _ f2, k⟩
    · obtain ⟨s2, k, e2, db, c⟩ := h
      have kE := (h2.db.each e eM).kp (Kp.of s2)
      have hk := h2.db.k eM
      have ss := ks_take he
      have sl := ks_le E2 (i + 1)
      have sm := h2.db.sum
      have hi : i < E2.length := (List.getElem?_eq_some_iff.mp he).1
      have fw := h2.db.few
      refine ⟨_, rfl, _, rfl, _, rfl, _, rfl, d2, _, rfl, (h2.kp (Kp.of s2)).get eM hb, p, b, e.c, e.ns, e.t, e.b, many, e.k, _, _, rfl, e2, db, ?_, ?_, ?_, hb, kE.len, kE.nn, ?_, kE.at', kE.pos, kE.sb, up_ratio kE.st ?_, fun E' H3 b3 e3 db3 c3 => ?_⟩
      · show z.S + _ + e.k ≤ 7900; omega
      · show z.v + i ≤ 4000; omega
      · show z.n + i ≤ 1000; omega
      · show _ ≤ ((z.D : Nat) : Int); have := kE.deg; omega
      · show y.v ≤ z.v + i; omega
      · refine .mk (same_but s2 b3 n1) (k.trans (Kp.but b3 e2 trivial)) e3 ?_ fun m => ?_
        · rw [ss]
          exact db3.up (Nat.le_refl _) (Nat.le_refl _) (by show z.S + _ + e.k ≤ z.S + (_ + e.k); omega) (Nat.le_refl _)
        · rw [c3, c, pl_take he, cf_app]
          show _ = _ + (_ + ((if e.ns = m then (e.t : Rat) / (e.b : Rat) else 0) + 0))
          grind
    · obtain ⟨s2, k, e2, db, c⟩ := h
      rw [List.take_length] at db c
      exact ⟨_, rfl, go p _ H2 n1 s2 e2 (db.up (Nat.le_refl _) (by show z.v + E2.length ≤ z.v + y.n; have := h2.db.few; omega) (by show z.S + _ ≤ z.S + y.S; have := h2.db.sum; omega) (by show z.n + E2.length ≤ z.n + y.n; have := h2.db.few; omega)) c⟩
end
end Lw

namespace Lw
open PySem PySem.Spec PyProof.Rows L2 LwQ LwV
noncomputable def spSq : Sp := fun vs H Q _ => ∃ (d : Addr) (many : Nat) (z : Sz) (E : List Ent), vs = [.ref d, .ref d] ∧ FQ H d many z E ∧ many ≤ 4 ∧ 2 * (z.n * z.S) ≤ 7900 ∧ z.v ≤ 1000 ∧ z.n ≤ 30 ∧
  ∀ (p : Addr) (E' : List Ent) (H' : Hp), H p = none → Same H H' → H' p = some (.dT (E'.map Ent.kv)) → DB H' many ⟨2 * z.D, 2 * z.v + z.n * z.n, 2 * (z.n * z.S), z.n * (z.n + 1) / 2⟩ E' → (∀ m, cf (pl E') m = cf (hs (pl E)) m) → Q (.ref p) H'
noncomputable def szA (E : List Ent) (i : Nat) : Nat := E.length * ((E.take i).map Ent.k).sum + i * (E.map Ent.k).sum
noncomputable def szB (E : List Ent) (e : Ent) (j : Nat) : Nat := j * e.k + ((E.take j).map Ent.k).sum
theorem szA_succ {E : List Ent} {i : Nat} {e : Ent} (he : E[i]? = some e) : szA E (i + 1) = szA E i + szB E e E.length := by
  unfold szA szB
  rw [ks_take he, List.take_length, Nat.mul_add, Nat.succ_mul]
  omega
theorem szB_succ {E : List Ent} {j : Nat} {e e2 : Ent} (he : E[j]? = some e2) : szB E e (j + 1) = szB E e j + (e.k + e2.k) := by
  unfold szB
  rw [ks_take he, Nat.succ_mul]
  omega
theorem szB_le {E : List Ent} {e : Ent} {j : Nat} (h : j ≤ E.length) : szB E e j ≤ szB E e E.length := by
  unfold szB
  rw [List.take_length]
  have := ks_le E j
  have := Nat.mul_le_mul_right e.k h
  omega
theorem szA_le {E : List Ent} {i n S : Nat} (hi : i ≤ E.length) (hn : E.length ≤ n) (hS : (E.map Ent.k).sum ≤ S) : szA E i ≤ 2 * (n * S) := by
  unfold szA
  have h1 := Nat.mul_le_mul hn (Nat.le_trans (ks_le E i) hS)
  have h2 := Nat.mul_le_mul (Nat.le_trans hi hn) hS
  omega
inductive SqI (H H1 : Hp) (d p : Addr) (many : Nat) (z : Sz) (E : List Ent) (i : Nat) : L2.St → Hp → Prop where
  | mk {u v x : Option V} {H' : Hp} {E' : List Ent} (s : Same H H') (k : Kp H1 H') (e : H' p = some (.dT (E'.map Ent.kv))) (db : DB H' many ⟨2 * z.D, 2 * z.v + i * E.length, szA E i, i * E.length⟩ E') (c : ∀ m, cf (pl E') m = cf (mul (pl (E.take i)) (pl E)) m) : SqI H H1 d p many z E i [some (.ref d), some (.ref d), some (.ref p), u, v, x] H'
inductive SqJ (H H1 : Hp) (d p b : Addr) (many : Nat) (z : Sz) (E : List Ent) (i : Nat) (e : Ent) (j : Nat) : L2.St → Hp → Prop where
  | mk {v x : Option V} {H' : Hp} {E' : List Ent} (s : Same H H') (k : Kp H1 H') (eb : H' b = some (.tup (e.ns.map V.int))) (e' : H' p = some (.dT (E'.map Ent.kv))) (db : DB H' many ⟨2 * z.D, 2 * z.v + (i * E.length + j), szA E i + szB E e j, i * E.length + j⟩ E') (c : ∀ m, cf (pl E') m = cf (mul (pl (E.take i)) (pl E)) m + cf (row e.pr (pl (E.take j))) m) : SqJ H H1 d p b many z E i e j [some (.ref d), some (.ref d), some (.ref p), some (.ref b), v, x] H'
theorem ent_mul {e e2 : Ent} : ((e.t * e2.t : Int) : Rat) / ((e.b * e2.b : Int) : Rat) = (e.t : Rat) / (e.b : Rat) * ((e2.t : Rat) / (e2.b : Rat)) := by
  rw [Rat.intCast_mul, Rat.intCast_mul]
  grind
theorem nat_mul4 {a b c d x y : Nat} (h1 : a ≤ 2 ^ x * b) (h2 : c ≤ 2 ^ y * d) : a * c ≤ 2 ^ (x + y) * (b * d) := by
  rw [Nat.pow_add]
  calc a * c ≤ 2 ^ x * b * (2 ^ y * d) := Nat.mul_le_mul h1 h2
    _ = 2 ^ x * 2 ^ y * (b * d) := by grind
section
variable {P : Program} {w : World} {K : PySem.W.Frag} {mg : Str → Option Value} {base : Heap} {f fd : _}
theorem scProd : FnScope ["one", "other", "found", "powers", "more", "both"] ["one", "other"] (defScope sProd) := ⟨rfl, rfl, rfl, by decide +kernel, rfl, by decide +kernel, by decide +kernel⟩
theorem ok_sq {fT fM : Addr} {fdT fdM : FuncData} (F : Fun K "_law_product" "_law_product" sProd f fd) (T : Txt mg) (DT : Df K mg "_law_put" sPut ["found", "powers", "number"] fT fdT) (GT : FnOk P w K mg base CX0 2 fT fdT ["found", "powers", "number"] spPut) (DM : Df K mg "_law_mul" sLMul ["one", "other"] fM fdM) (GM : FnOk P w K mg base CX0 1 fM fdM ["one", "other"] spLMul) : FnOk P w K mg base CX0 3 f fd ["one", "other"] spSq := by
  refine F.ok scProd (fun vs H Q E h => ?_) (fun cdv A outer s H vs Q E hr h => ?_)
  · obtain ⟨d, many, z, E1, rfl, _⟩ := h
    rfl
  · obtain ⟨d, many, z, EE, rfl, h1, m4, hS, hv, hn, go⟩ := h
    have hu : _ + 1 < cLine := Nat.lt_of_le_of_lt (Nat.add_le_add_left (by decide : 1 ≤ 64) _) hr.units
    have hr1 : Room 1 _ := hr.mono (by decide)
    refine ⟨_, pss_cons (ps_set (i := 2) scProd.nd rfl (Or.inl rfl) pe_dnewT)
      (pss_cons (ps_for PassesOwn.never rfl (LwD.pi_keys (pv 0)) (pg_name (i := 3) scProd.nd rfl (Or.inl rfl))
        (pss_one (ps_for PassesOwn.never rfl (LwD.pi_keys (pv 1)) (pg_name (i := 4) scProd.nd rfl (Or.inl rfl))
          (pss_cons (ps_set (i := 5) scProd.nd rfl (Or.inl rfl) (pe_callTy call_tuple_of (by rfl) T.tup boot_tuple (pa_cons
            (pe_compF (own := 2) (idx := []) (N := ["a", "b"]) rfl rfl rfl (by decide +kernel) (by decide +kernel) (fun _ _ h => nomatch h) (has_of rfl) rfl (fun _ _ _ h => nomatch h) (pi_zipT (by rfl) T.zip (pa_cons (pv 3) (pa_cons (pv 4) pa_nil)))
              (fun C fp s2 H2 => show PG (cxCompF _ ["a", "b"] _ _ C fp s2 H2) _ (gTup K 2 (gCons (gName 0) (gCons (gName 1) gNil))) from pg_tup (X := cxCompF _ ["a", "b"] _ _ C fp s2 H2) rfl (pgs_cons (pg_name (i := 0) (show List.Nodup (["a", "b"] : List Str) by decide +kernel) rfl (Or.inl rfl) (Or.inr rfl)) (pgs_cons (pg_name (i := 1) (show List.Nodup (["a", "b"] : List Str) by decide +kernel) rfl (Or.inl rfl) (Or.inr rfl)) pgs_nil)))
              (fun C fp s2 H2 => pe_op op_add (pv 0) (pv 1))) pa_nil)))
          (pss_one (ps_expr (pe_call GT hr rfl DT.m DT.F.kp DT.b .nil pass0 (pa_cons (pv 2) (pa_cons (pv 5) (pa_cons (pe_call GM hr1 rfl DM.m DM.F.kp DM.b .nil pass0 (pa_cons (pe_dget hu (pv 0) (pv 3) (fun _ _ => rfl)) (pa_cons (pe_dget hu (pv 1) (pv 4) (fun _ _ => rfl)) pa_nil))) pa_nil))))))))))
      (pss_one (ps_ret (pv 2)))), ?_⟩
    try dsimp only [cxK]
    intro p np
    have s1 : Same H (upd H p (.dT [])) := same_upd _ np
    generalize hH1 : upd H p (.dT []) = H1 at s1
    have e1 : H1 p = some (.dT (([] : List Ent).map Ent.kv)) := hH1 ▸ upd_same
    obtain ⟨o2, f2⟩ := (h1.kp (Kp.of s1)).fr
    have few := h1.db.few
    have sum := h1.db.sum
    refine ⟨_, rfl, d, o2, _, rfl, f2, kv_keys EE, fun ks hks => ?_⟩
    refine for_ents hks (SqI H H1 d p many z EE) (.mk s1 (Kp.of (Same.refl _)) e1 ⟨List.nodup_nil, (fun e h => nomatch h), Nat.zero_le _, Nat.zero_le _⟩ fun m => rfl) (fun i σ H2 h => ?_) (fun i e b σ H2 he eM hb h => ?_) (fun σ H2 h => ?_)
    · obtain ⟨s2, k, e2, db, c⟩ := h
      exact ⟨k.frz _ _ _ f2, k⟩
    · obtain ⟨s2, k, e2, db, c⟩ := h
      refine ⟨_, rfl, d, o2, _, rfl, k.frz _ _ _ f2, kv_keys EE, fun ks2 hks2 => ?_⟩
      have hi : i < EE.length := (List.getElem?_eq_some_iff.mp he).1
      have a1 := szA_succ he
      have a2 := szA_le (i := i + 1) hi few sum
      have kE := h1.db.each e eM
      have ke := h1.db.k eM
      have l30 : i * EE.length + EE.length ≤ z.n * z.n := by
        rw [← Nat.succ_mul]
        exact Nat.mul_le_mul (Nat.le_trans hi few) few
      have n900 : z.n * z.n ≤ 900 := Nat.mul_le_mul hn hn
      refine for_ents hks2 (SqJ H H2 d p b many z EE i e) (.mk s2 (Kp.of (Same.refl _)) hb e2 (by rw [show szB EE e 0 = 0 by unfold szB; simp]; exact db) fun m => by rw [c]; show _ = _ + (0 : Rat); grind) (fun j σ H3 h => ?_) (fun j e3 b3 σ H3 he3 eM3 hb3 h => ?_) (fun σ H3 h => ?_)
      · obtain ⟨s3, k3, eb3, e3, db3, c3⟩ := h
        exact ⟨k3.frz _ _ _ (k.frz _ _ _ f2), k3⟩
      · obtain ⟨s3, k3, eb3, e3', db3, c3⟩ := h
        have hj : j < EE.length := (List.getElem?_eq_some_iff.mp he3).1
        have kE3 := h1.db.each e3 eM3
        have ke3 := h1.db.k eM3
        have b1 := szB_succ (e := e) he3
        have b2 := szB_le (e := e) (E := EE) (j := j + 1) hj
        have Sle : z.S ≤ 7900 := by
          have : 1 ≤ z.n := by omega
          have := Nat.mul_le_mul_right z.S this
          omega
        dsimp only [gName, tSeq, tAsg]
        refine dBoth (a := b) (b := b3) (as := e.ns) (bs := e3.ns) rfl rfl eb3 hb3 (by rw [kE.len, kE3.len]) (by rw [kE3.len]; exact m4) fun kb H4 n4 s4 e4 => ?_
        have K4 := Kp.of s4
        have F4 := h1.kp (Kp.of (s3.trans s4))
        refine ⟨_, rfl, _, rfl, _, rfl, _, rfl, d, _, rfl, F4.get eM (s4 _ _ eb3), _, rfl, _, rfl, d, _, rfl, F4.get eM3 (s4 _ _ hb3), e.c, e3.c, e.t, e.b, e3.t, e3.b, rfl, (F4.db.each e eM).at', (F4.db.each e3 eM3).at', top_fit kE.st kE.sb (by omega), bot_fit kE.sb (by omega), top_fit kE3.st kE3.sb (by omega), bot_fit kE3.sb (by omega), fun r H5 n5 s5 e5 => ?_⟩
        have s35 := s4.trans s5
        refine ⟨p, kb, r, padd e.ns e3.ns, _, _, many, e.k + e3.k, _, _, rfl, s35 _ _ e3', db3.kp (Kp.of s35), ?_, ?_, ?_, s5 _ _ e4, ?_, padd_nn kE.nn kE3.nn, ?_, e5, Int.mul_pos kE.pos kE3.pos, ?_, ?_, fun E' H6 b6 e6 db6 c6 => ?_⟩
        · show szA EE i + szB EE e j + (e.k + e3.k) ≤ 7900; omega
        · show 2 * z.v + (i * EE.length + j) ≤ 4000; omega
        · show i * EE.length + j ≤ 1000; omega
        · unfold padd; rw [List.length_zipWith, kE.len, kE3.len]; omega
        · rw [padd_sum (by rw [kE.len, kE3.len])]
          show _ ≤ ((2 * z.D : Nat) : Int)
          have := kE.deg
          have := kE3.deg
          omega
        · rw [Int.natAbs_mul, Nat.pow_add]; exact Nat.mul_le_mul kE.sb kE3.sb
        · rw [Int.natAbs_mul, Int.natAbs_mul]
          show _ ≤ 2 ^ (2 * z.v + (i * EE.length + j)) * _
          exact Nat.le_trans (nat_mul4 kE.st kE3.st) (Nat.mul_le_mul_right _ (Nat.pow_le_pow_right (by decide) (by omega)))
        · refine .mk (same_but (s3.trans s35) b6 np) ((k3.trans (Kp.of s35)).trans (Kp.but b6 (s35 _ _ e3') trivial)) ((Kp.but b6 (s35 _ _ e3') trivial).tup _ _ (s35 _ _ eb3)) e6 ?_ fun m => ?_
          · exact db6.up (Nat.le_refl _) (Nat.le_refl _) (by show szA EE i + szB EE e j + (e.k + e3.k) ≤ szA EE i + szB EE e (j + 1); omega) (Nat.le_refl _)
          · rw [c6, c3, pl_take he3, ent_mul]
            show _ = _ + cf (row e.pr (pl (EE.take j) ++ [e3.pr])) m
            unfold row
            rw [List.map_append, cf_app]
            show _ = _ + (_ + ((if padd e.ns e3.ns = m then (e.t : Rat) / (e.b : Rat) * ((e3.t : Rat) / (e3.b : Rat)) else 0) + 0))
            grind
      · obtain ⟨s3, k3, eb3, e3, db3, c3⟩ := h
        refine .mk s3 (k.trans k3) e3 (db3.up (Nat.le_refl _) ?_ ?_ ?_) fun m => ?_
        · show 2 * z.v + (i * EE.length + EE.length) ≤ 2 * z.v + (i + 1) * EE.length; rw [Nat.succ_mul i]; exact Nat.le_refl _
        · show szA EE i + szB EE e EE.length ≤ szA EE (i + 1); omega
        · show i * EE.length + EE.length ≤ (i + 1) * EE.length; rw [Nat.succ_mul]; exact Nat.le_refl _
        · rw [c3, List.take_length, pl_take he, mul_app, cf_app]
          show _ = _ + cf (row e.pr (pl EE) ++ []) m
          rw [List.append_nil]
    · obtain ⟨s2, k, e2, db, c⟩ := h
      rw [List.take_length] at c
      have c' : ∀ m, cf (pl _) m = cf (hs (pl EE)) m := fun m => (c m).trans (cf_hs _ _).symm
      have lh := hs_len (pl EE)
      have le : (pl EE).length = EE.length := List.length_map ..
      rw [le] at lh
      have ll : EE.length * (EE.length + 1) ≤ z.n * (z.n + 1) := Nat.mul_le_mul few (Nat.succ_le_succ few)
      have l2 : EE.length * EE.length ≤ z.n * z.n := Nat.mul_le_mul few few
      have sl := szA_le (i := EE.length) (Nat.le_refl _) few sum
      have fw := few_of (by rw [pl_keys]; exact db.nd) (fun x hx => ?_) c'
      · refine ⟨_, rfl, go p _ H2 np s2 e2 ⟨db.nd, fun e he => (db.each e he).up (by show 2 * z.v + EE.length * EE.length ≤ 2 * z.v + z.n * z.n; omega), Nat.le_trans db.sum sl, ?_⟩ c'⟩
        show _ ≤ z.n * (z.n + 1) / 2
        unfold pl at fw lh
        rw [List.length_map] at fw
        omega
      · obtain ⟨e, he, rfl⟩ := List.mem_map.mp hx
        have kE := db.each e he
        have h1 : (e.t : Rat) ≠ 0 := by simpa using kE.nz
        have h2 : (e.b : Rat) ≠ 0 := by simpa using (show e.b ≠ 0 by have := kE.pos; omega)
        show (e.t : Rat) / (e.b : Rat) ≠ 0
        grind
end
end Lw

namespace Lw
open PySem PySem.Spec PyProof.Rows L2 LwQ LwV
theorem two_idx {X : Cx} {scope : Scope} {own j0 j1 : Nat} {N : List Str} {x0 x1 : Str} (h0 : N[own]? = some x0) (h1 : N[own + 1]? = some x1) (a : X.N[j0]? = some x0 ∧ X.env.kindOf x0 = some .cell ∧ (relabel scope X.env).names.lookup x0 = some .cell ∧ X.env.scope.names.lookup x0 = some .cell)
    (b : X.N[j1]? = some x1 ∧ X.env.kindOf x1 = some .cell ∧ (relabel scope X.env).names.lookup x1 = some .cell ∧ X.env.scope.names.lookup x1 = some .cell) :
    ∀ (k j : Nat) (x : Str), [j0, j1][k]? = some j → N[own + k]? = some x → X.N[j]? = some x ∧ X.env.kindOf x = some .cell ∧ (relabel scope X.env).names.lookup x = some .cell ∧ X.env.scope.names.lookup x = some .cell := by
  intro k j x e1 e2
  match k, e1, e2 with
  | 0, e1, e2 =>
    cases e1
    rw [Nat.add_zero, h0] at e2
    cases e2
    exact a
  | 1, e1, e2 =>
    cases e1
    rw [h1] at e2
    cases e2
    exact b
  | k + 2, e1, _ => cases e1
noncomputable def spScaled : Sp := fun vs H Q _ => ∃ (d q : Addr) (many j x : Nat) (z : Sz) (E : List Ent) (o u : Int), vs = [.ref d, .ref q] ∧ FQ H d many z E ∧ At2 H q o u ∧ 0 < u ∧ u.natAbs ≤ 2 ^ j ∧ o.natAbs ≤ 2 ^ x * u.natAbs ∧ z.S ≤ 7900 ∧ z.v ≤ 4000 ∧ z.n ≤ 1000 ∧ j ≤ 7900 ∧ x ≤ 4000 ∧
  ∀ (p : Addr) (E' : List Ent) (H' : Hp), H p = none → Same H H' → H' p = some (.dT (E'.map Ent.kv)) → DB H' many ⟨z.D, z.v + x, z.S + z.n * j, z.n⟩ E' → (∀ m, cf (pl E') m = (o : Rat) / (u : Rat) * cf (pl E) m) → (o = -1 → u = 1 → pl E' = (pl E).map fun x => (x.1, -1 * x.2)) → Q (.ref p) H'
inductive ScI (H H1 : Hp) (d q p : Addr) (many j x : Nat) (z : Sz) (o u : Int) (E : List Ent) (i : Nat) : L2.St → Hp → Prop where
  | mk {v : Option V} {H' : Hp} {E' : List Ent} (s : Same H H') (k : Kp H1 H') (e : H' p = some (.dT (E'.map Ent.kv))) (db : DB H' many ⟨z.D, z.v + x, ((E.take i).map Ent.k).sum + i * j, i⟩ E') (ky : ∀ n ∈ E'.map Ent.ns, n ∈ (E.take i).map Ent.ns) (c : ∀ m, cf (pl E') m = (o : Rat) / (u : Rat) * cf (pl (E.take i)) m)
      (ng : o = -1 → u = 1 → pl E' = (pl (E.take i)).map fun x => (x.1, -1 * x.2)) : ScI H H1 d q p many j x z o u E i [some (.ref d), some (.ref q), some (.ref p), v] H'
theorem nd_take {E : List Ent} {i : Nat} {e : Ent} (nd : (E.map Ent.ns).Nodup) (he : E[i]? = some e) : e.ns ∉ (E.take i).map Ent.ns := fun h => by
  rw [List.map_take] at h
  obtain ⟨j, hj⟩ := List.mem_iff_getElem?.mp h
  have hi : i < E.length := (List.getElem?_eq_some_iff.mp he).1
  have hji : j < i := by
    have := (List.getElem?_eq_some_iff.mp hj).1
    rw [List.length_take] at this
    omega
  rw [List.getElem?_take_of_lt hji] at hj
  have g2 : (E.map Ent.ns)[i]? = some e.ns := by rw [List.getElem?_map, he]; rfl
  have := (List.getElem?_inj (by rw [List.length_map]; omega) nd).mp (hj.trans g2.symm)
  omega
section
variable {P : Program} {w : World} {K : PySem.W.Frag} {mg : Str → Option Value} {base : Heap} {f fd : _}
theorem scScaled : FnScope ["one", "number", "found", "powers"] ["one", "number"] (defScope sScaled) := ⟨rfl, rfl, rfl, by decide +kernel, rfl, by decide +kernel, by decide +kernel⟩
theorem ok_scaled {fM : Addr} {fdM : FuncData} (F : Fun K "_law_scaled" "_law_scaled" sScaled f fd) (DM : Df K mg "_law_mul" sLMul ["one", "other"] fM fdM) (GM : FnOk P w K mg base CX0 1 fM fdM ["one", "other"] spLMul) : FnOk P w K mg base CX0 2 f fd ["one", "number"] spScaled := by
  refine F.ok scScaled (fun vs H Q E h => ?_) (fun cdv A outer s H vs Q E hr h => ?_)
  · obtain ⟨d, q, many, j, x, z, E1, o, u, rfl, _⟩ := h
    rfl
  · obtain ⟨d, q, many, j, x, z, EE, o, u, rfl, h1, hq, pu, su, so, hS, hv, hn, hj, hx, go⟩ := h
    have hu : _ + 1 < cLine := Nat.lt_of_le_of_lt (Nat.add_le_add_left (by decide : 1 ≤ 64) _) hr.units
    refine ⟨_, pss_cons (ps_set (i := 2) scScaled.nd rfl (Or.inl rfl) pe_dnewT)
      (pss_cons (ps_for PassesOwn.never rfl (LwD.pi_keys (pv 0)) (pg_name (i := 3) scScaled.nd rfl (Or.inl rfl))
        (pss_one (ps_if (pt_cmpR op_ne (pe_ix ix_tup (pv 1) pe_int (fun _ _ => rfl)) pe_int (nomark _))
          (pss_one (ps_dput hu (pv 2) (pv 3) (pe_call GM hr rfl DM.m DM.F.kp DM.b .nil pass0 (pa_cons (pe_dget hu (pv 0) (pv 3) (fun _ _ => rfl)) (pa_cons (pv 1) pa_nil))) rfl)) pss_nil)))
      (pss_one (ps_ret (pv 2)))), ?_⟩
    try dsimp only [cxK]
    intro p np
    have s1 : Same H (upd H p (.dT [])) := same_upd _ np
    generalize hH1 : upd H p (.dT []) = H1 at s1
    have e1 : H1 p = some (.dT (([] : List Ent).map Ent.kv)) := hH1 ▸ upd_same
    obtain ⟨o2, f2⟩ := (h1.kp (Kp.of s1)).fr
    have few := h1.db.few
    refine ⟨_, rfl, d, o2, _, rfl, f2, kv_keys EE, fun ks hks => ?_⟩
    refine for_ents hks (ScI H H1 d q p many j x z o u EE) (.mk s1 (Kp.of (Same.refl _)) e1 ⟨List.nodup_nil, (fun e h => nomatch h), Nat.zero_le _, Nat.zero_le _⟩ (fun n h => nomatch h) (fun m => by show (0 : Rat) = _ * 0; grind) fun _ _ => rfl) (fun i σ H2 h => ?_) (fun i e b σ H2 he eM hb h => ?_) (fun σ H2 h => ?_)
    · obtain ⟨s2, k, e2, db, ky, c, ng⟩ := h
      exact ⟨k.frz _ _ _ f2, k⟩
    · obtain ⟨s2, k, e2, db, ky, c, ng⟩ := h
      rename_i E0
      have kE := h1.db.each e eM
      have ke := h1.db.k eM
      have hi : i < EE.length := (List.getElem?_eq_some_iff.mp he).1
      have sk := ks_take he
      refine rvT rfl (SqT.of (s2 _ _ hq)) rfl ⟨rfl, _, rfl, ?_⟩
      rw [dec_ints]
      by_cases o0 : o = 0
      · refine iteN (by rw [decide_eq_true o0]; rfl) ?_
        refine .mk s2 k e2 (db.up (Nat.le_refl _) (Nat.le_refl _) (by show ((EE.take i).map Ent.k).sum + i * j ≤ ((EE.take (i + 1)).map Ent.k).sum + (i + 1) * j; rw [sk, Nat.succ_mul]; omega) (Nat.le_succ _)) (fun n hn' => ?_) (fun m => ?_) fun h => by omega
        · rw [List.take_add_one, List.map_append]
          exact List.mem_append_left _ (ky n hn')
        · rw [c, o0]
          show ((0 : Int) : Rat) / _ * _ = ((0 : Int) : Rat) / _ * _
          grind
      · refine iteP (by rw [decide_eq_false o0]; rfl) ?_
        refine ⟨_, rfl, _, rfl, d, _, rfl, (h1.kp (Kp.of s2)).get eM hb, _, rfl, e.c, q, e.t, e.b, o, u, rfl, ((h1.kp (Kp.of s2)).db.each e eM).at', s2 _ _ hq, top_fit kE.st kE.sb (by omega), bot_fit kE.sb (by omega), top_fit so su (by omega), bot_fit su (by omega), fun r H3 n3 s3 e3 => ?_⟩
        have nw : e.ns ∉ E0.map Ent.ns := fun hh => nd_take h1.db.nd he (ky e.ns hh)
        have hd3 := s3 _ _ e2
        have kz : (List.map Ent.kv E0).length < sizeLine := Nat.lt_of_le_of_lt (by rw [List.length_map]; exact Nat.le_trans db.few (show i ≤ 1000 by omega)) (by decide)
        refine ⟨_, rfl, _, rfl, p, _, rfl, DPut.t (k := LwD.ik e.ns) hd3 (by rw [LwD.ik_map]; exact s3 _ _ hb) kz, ?_⟩
        have k3 : Kp H2 (upd H3 p (.dT (putK (List.map Ent.kv E0) (LwD.ik e.ns) (.ref r)))) := (Kp.of s3).trans (Kp.upd hd3 trivial)
        have rp : r ≠ p := fun zz => by rw [zz, e2] at n3; cases n3
        have em : ((e.t * o : Int) : Rat) / ((e.b * u : Int) : Rat) = (o : Rat) / (u : Rat) * ((e.t : Rat) / (e.b : Rat)) := by
          rw [Rat.intCast_mul, Rat.intCast_mul]
          grind
        refine .mk (E' := E0 ++ [⟨e.ns, r, e.t * o, e.b * u, e.k + j⟩]) (put_same (s2.trans s3) np) (k.trans k3) ?_ ⟨?_, fun y hy => ?_, ?_, ?_⟩ (fun n hn' => ?_) (fun m => ?_) fun h1 h2 => ?_
        · rw [upd_same, put_out (key_ne nw), List.map_append]
          rfl
        · rw [List.map_append, List.nodup_append]
          refine ⟨db.nd, by simp, fun a ha b hb => ?_⟩
          have : b = e.ns := by simpa using hb
          rintro rfl
          rw [this] at ha
          exact nw ha
        · rcases List.mem_append.mp hy with hy | hy
          · exact (db.each y hy).kp k3
          · rw [List.mem_singleton] at hy
            subst hy
            refine ⟨kE.len, kE.nn, kE.deg, by show At2 _ r _ _; rw [At2, upd_ne rp]; exact e3, Int.mul_pos kE.pos pu, Int.mul_ne_zero kE.nz o0, ?_, ?_⟩
            · show (e.b * u).natAbs ≤ 2 ^ (e.k + j)
              rw [Int.natAbs_mul, Nat.pow_add]
              exact Nat.mul_le_mul kE.sb su
            · show (e.t * o).natAbs ≤ 2 ^ (z.v + x) * (e.b * u).natAbs
              rw [Int.natAbs_mul, Int.natAbs_mul]
              exact nat_mul4 kE.st so
        · rw [List.map_append, List.sum_append, sk]
          have := db.sum
          show _ + (e.k + j + 0) ≤ _ + e.k + (i + 1) * j
          rw [Nat.succ_mul]
          have : (List.map Ent.k E0).sum ≤ ((EE.take i).map Ent.k).sum + i * j := db.sum
          omega
        · rw [List.length_append]
          exact Nat.succ_le_succ db.few
        · rw [List.take_add_one, he, List.map_append]
          rw [List.map_append] at hn'
          rcases List.mem_append.mp hn' with hn' | hn'
          · exact List.mem_append_left _ (ky n hn')
          · exact List.mem_append_right _ hn'
        · rw [pl_take he, cf_app, pl, List.map_append, cf_app]
          have := c m
          unfold pl at this
          rw [this]
          show _ + ((if e.ns = m then ((e.t * o : Int) : Rat) / ((e.b * u : Int) : Rat) else 0) + 0) = _ * (_ + ((if e.ns = m then (e.t : Rat) / (e.b : Rat) else 0) + 0))
          rw [em]
          unfold pl
          split <;> grind
        · rw [pl_take he, pl, List.map_append, List.map_append]
          have := ng h1 h2
          unfold pl at this
          rw [this]
          unfold pl
          congr 1
          show [(e.ns, ((e.t * o : Int) : Rat) / ((e.b * u : Int) : Rat))] = [(e.ns, -1 * ((e.t : Rat) / (e.b : Rat)))]
          rw [em, h1, h2]
          congr 2
          show ((-1 : Int) : Rat) / ((1 : Int) : Rat) * _ = _
          have e1 : ((-1 : Int) : Rat) = -1 := rfl
          have e2 : ((1 : Int) : Rat) = 1 := rfl
          rw [e1, e2]
          grind
    · obtain ⟨s2, k, e2, db, ky, c, ng⟩ := h
      rw [List.take_length] at db c ng
      refine ⟨_, rfl, go p _ H2 np s2 e2 (db.up (Nat.le_refl _) (Nat.le_refl _) ?_ few) c ng⟩
      have := h1.db.sum
      have := Nat.mul_le_mul_right j few
      show (EE.map Ent.k).sum + EE.length * j ≤ z.S + z.n * j
      omega
end
end Lw

namespace Lw
open PySem PySem.Spec PyProof.Rows L2 LwQ LwV
noncomputable def spSame : Sp := fun vs H Q _ => ∃ (d1 d2 : Addr) (many : Nat) (z y : Sz) (E1 E2 : List Ent), vs = [.ref d1, .ref d2] ∧ FQ H d1 many z E1 ∧ FQ H d2 many y E2 ∧ z.S ≤ 7900 ∧ z.v ≤ 4000 ∧ z.n ≤ 1000 ∧ y.S ≤ 7900 ∧ y.v ≤ 4000 ∧
  ∀ (b : Bool) (H' : Hp), Same H H' → (b = true ↔ ∀ m, cf (pl E1) m = cf (pl E2) m) → Q (.bl b) H'
noncomputable def okE (E2 : List Ent) (e : Ent) : Bool := match E2.find? fun e2 => decide (e2.ns = e.ns) with
  | some e2 => decide (e.t * e2.b = e2.t * e.b)
  | none => false
theorem okE_in {E2 : List Ent} (nd : (E2.map Ent.ns).Nodup) {e e2 : Ent} (h2 : e2 ∈ E2) (h : e2.ns = e.ns) : okE E2 e = decide (e.t * e2.b = e2.t * e.b) := by
  unfold okE
  have : E2.find? (fun e2 => decide (e2.ns = e.ns)) = some e2 := by
    obtain ⟨L, R, rfl⟩ := List.append_of_mem h2
    rw [List.map_append, List.map_cons] at nd
    rw [List.find?_append, List.find?_eq_none.mpr fun x hx => by
      have : x.ns ≠ e.ns := fun z => (List.nodup_append.mp nd).2.2 x.ns (List.mem_map_of_mem hx) e2.ns (List.mem_cons_self ..) (z.trans h.symm)
      simp [this]]
    simp [h]
  rw [this]
theorem okE_out {E2 : List Ent} {e : Ent} (h : e.ns ∉ E2.map Ent.ns) : okE E2 e = false := by
  unfold okE
  rw [List.find?_eq_none.mpr fun x hx => by
    have : x.ns ≠ e.ns := fun z => h (List.mem_map.mpr ⟨x, hx, z⟩)
    simp [this]]
theorem frac_eq {t b o u : Int} (hb : 0 < b) (hu : 0 < u) : t * u = o * b ↔ (t : Rat) / (b : Rat) = (o : Rat) / (u : Rat) := by
  have h1 : (b : Rat) ≠ 0 := by simpa using (show b ≠ 0 by omega)
  have h2 : (u : Rat) ≠ 0 := by simpa using (show u ≠ 0 by omega)
  constructor
  · intro h
    have e : (t : Rat) * u = o * b := by exact_mod_cast h
    grind
  · intro h
    have e : (t : Rat) * u = o * b := by grind
    exact_mod_cast e
theorem DB.plnz {H : Hp} {many : Nat} {z : Sz} {E : List Ent} (h : DB H many z E) {e : Ent} (he : e ∈ E) : (e.t : Rat) / (e.b : Rat) ≠ 0 := by
  have k := h.each e he
  have h1 : (e.t : Rat) ≠ 0 := by simpa using k.nz
  have h2 : (e.b : Rat) ≠ 0 := by simpa using (show e.b ≠ 0 by have := k.pos; omega)
  grind
theorem DB.cf {H : Hp} {many : Nat} {z : Sz} {E : List Ent} (h : DB H many z E) {e : Ent} (he : e ∈ E) : LwV.cf (pl E) e.ns = (e.t : Rat) / (e.b : Rat) :=
  cf_one (P := pl E) (by rw [pl_keys]; exact h.nd) (x := e.pr) (List.mem_map_of_mem he)
theorem same_iff {H : Hp} {many : Nat} {z y : Sz} {E1 E2 : List Ent} (h1 : DB H many z E1) (h2 : DB H many y E2) : (E1.length = E2.length ∧ E1.all (okE E2) = true) ↔ ∀ m, cf (pl E1) m = cf (pl E2) m := by
  constructor
  · rintro ⟨hl, ha⟩ m
    have sub : ∀ e ∈ E1, ∃ e2 ∈ E2, e2.ns = e.ns ∧ (e.t : Rat) / (e.b : Rat) = (e2.t : Rat) / (e2.b : Rat) := fun e he => by
      have k := List.all_eq_true.mp ha e he
      by_cases hin : e.ns ∈ E2.map Ent.ns
      · obtain ⟨e2, m2, q⟩ := List.mem_map.mp hin
        rw [okE_in h2.nd m2 q] at k
        exact ⟨e2, m2, q, (frac_eq (h1.each e he).pos (h2.each e2 m2).pos).mp (of_decide_eq_true k)⟩
      · rw [okE_out hin] at k
        cases k
    by_cases hm : m ∈ E1.map Ent.ns
    · obtain ⟨e, he, rfl⟩ := List.mem_map.mp hm
      obtain ⟨e2, m2, q, v⟩ := sub e he
      rw [h1.cf he, v, ← q, h2.cf m2]
    · have hm2 : m ∉ E2.map Ent.ns := fun hm2 => by
        have := len_le (l := m :: E1.map Ent.ns) (m := E2.map Ent.ns) (List.nodup_cons.mpr ⟨hm, h1.nd⟩) fun x hx => by
          rcases List.mem_cons.mp hx with rfl | hx
          · exact hm2
          · obtain ⟨e, he, rfl⟩ := List.mem_map.mp hx
            obtain ⟨e2, m2, q, v⟩ := sub e he
            exact List.mem_map.mpr ⟨e2, m2, q⟩
        rw [List.length_cons, List.length_map, List.length_map] at this
        omega
      rw [cf_out fun x hx e => hm (by rw [← pl_keys]; exact List.mem_map.mpr ⟨x, hx, e⟩), cf_out fun x hx e => hm2 (by rw [← pl_keys]; exact List.mem_map.mpr ⟨x, hx, e⟩)]
  · intro h
    have s12 : ∀ n ∈ E1.map Ent.ns, n ∈ E2.map Ent.ns := fun n hn => by
      obtain ⟨e, he, rfl⟩ := List.mem_map.mp hn
      rw [← pl_keys]
      refine cf_in ?_
      rw [← h, h1.cf he]
      exact h1.plnz he
    have s21 : ∀ n ∈ E2.map Ent.ns, n ∈ E1.map Ent.ns := fun n hn => by
      obtain ⟨e, he, rfl⟩ := List.mem_map.mp hn
      rw [← pl_keys]
      refine cf_in ?_
      rw [h, h2.cf he]
      exact h2.plnz he
    have l1 := len_le h1.nd s12
    have l2 := len_le h2.nd s21
    rw [List.length_map, List.length_map] at l1 l2
    refine ⟨by omega, List.all_eq_true.mpr fun e he => ?_⟩
    obtain ⟨e2, m2, q⟩ := List.mem_map.mp (s12 e.ns (List.mem_map_of_mem he))
    rw [okE_in h2.nd m2 q]
    refine decide_eq_true ((frac_eq (h1.each e he).pos (h2.each e2 m2).pos).mpr ?_)
    rw [← h1.cf he, ← h2.cf m2, q, h]
theorem comp_ents {d : Addr} {o : Obj} {E : List Ent} {ks : List V} {σ0 : L2.St} {g : TG} {te : TE} {Q : VK} {p : Addr} {H' H0 : Hp} (hks : LwD.Keyed H0 ks (E.map Ent.kv)) (F : Ent → V) (hz : E.length ≤ 1000) (n0 : H0 p = none) (s0 : Same H0 H') (e0 : H' p = some (.lst []))
    (fr : H0 d = some (.frz o (.dT (E.map Ent.kv))))
    (hs : ∀ e b H2 (R : VK), e ∈ E → Same H0 H2 → H2 b = some (.tup (e.ns.map V.int)) → (∀ H5, Same H2 H5 → R (F e) H5) → g (.ref b) σ0 H2 fun σ4 H4 => Keep σ0 σ4 ∧ te σ4 H4 R)
    (hd : ∀ H2, Same H0 H2 → H2 p = some (.lst (E.map F)) → Q (.ref p) H2) : CompGoF σ0 (LwD.Itk d o (E.map Ent.kv) ks) g te Q p H' := by
  have lk : ks.length = E.length := by rw [hks.1, List.length_map]
  refine comp_by (xs := ks) (CmI (fun i => (E.take i).map F) p H0) (by rw [lk]; exact Nat.lt_of_le_of_lt hz (by decide)) ⟨s0, e0, rfl⟩ (fun i ys H2 h hi => ⟨⟨h.s _ _ fr, hi⟩, fun x H3 y => y⟩) (fun ys H2 h => ⟨h.s _ _ fr, rfl⟩) (fun i ys H2 h => h.e) ?_ ?_
  · rintro i m ys x H2 hx hm hy ⟨s2, e2, ey⟩
    have hi : i < E.length := by rw [← lk]; exact (List.getElem?_eq_some_iff.mp hx).1
    obtain ⟨e, he⟩ : ∃ e, E[i]? = some e := ⟨E[i], by simp [hi]⟩
    obtain ⟨b, ns', rfl, hb, hns⟩ := hks.2 i x e.kv hx (by rw [List.getElem?_map, he]; rfl)
    have ens : e.ns = ns' := ik_inj hns
    subst ens
    refine hs e b H2 _ (List.mem_of_getElem? he) s2 (s2 _ _ hb) fun H5 s5 => comp_next hx hm hy (s5 _ _ e2) ⟨put_same (s2.trans s5) n0, upd_same, ?_⟩
    rw [ey, List.take_add_one, he, List.map_append]
    rfl
  · rintro ys H2 hy ⟨s2, e2, ey⟩
    rw [lk, List.take_length] at ey
    exact hd H2 s2 (ey ▸ e2)
theorem keep1t {a b : Option V} {x : Option V} : Keep [none, a, b] [x, a, b] := keep1
section
variable {P : Program} {w : World} {K : PySem.W.Frag} {mg : Str → Option Value} {base : Heap} {f fd : _}
theorem scSame : FnScope ["one", "other"] ["one", "other"] (defScope sSame) := ⟨rfl, rfl, rfl, by decide +kernel, rfl, by decide +kernel, by decide +kernel⟩
theorem ok_same {fL : Addr} {fdL : FuncData} (F : Fun K "_law_same" "_law_same" sSame f fd) (T : Txt mg) (DL : Df K mg "_law_like" sLike ["one", "other"] fL fdL) (GL : FnOk P w K mg base CX0 1 fL fdL ["one", "other"] spLike) : FnOk P w K mg base CX0 2 f fd ["one", "other"] spSame := by
  refine F.ok scSame (fun vs H Q E h => ?_) (fun cdv A outer s H vs Q E hr h => ?_)
  · obtain ⟨d1, d2, many, z, y, E1, E2, rfl, _⟩ := h
    rfl
  · obtain ⟨d1, d2, many, z, y, E1, E2, rfl, h1, h2, hS, hv, hn, hS2, hv2, go⟩ := h
    have hu : _ + 1 < cLine := Nat.lt_of_le_of_lt (Nat.add_le_add_left (by decide : 1 ≤ 64) _) hr.units
    refine ⟨_, pss_cons (ps_if (pt_cmpR op_ne (pe_callB call_lenT (by rfl) T.len PySem.boot_len (pa_cons (pv 0) pa_nil)) (pe_callB call_lenT (by rfl) T.len PySem.boot_len (pa_cons (pv 1) pa_nil)) (nomark _)) (pss_one (ps_ret pe_bl)) pss_nil)
      (pss_one (ps_ret (pe_callB (call_all rfl) (by rfl) T.all boot_all (pa_cons
        (pe_compF (own := 1) (idx := [0, 1]) (N := ["powers", "one", "other"]) rfl rfl rfl (by decide +kernel) (by decide +kernel) (fun _ _ h => h) (has_of rfl) rfl (two_idx rfl rfl ⟨rfl, rfl, rfl, rfl⟩ ⟨rfl, rfl, rfl, rfl⟩) (LwD.pi_keys (pv 0))
          (fun C fp s2 H2 => pg_name (i := 0) (show List.Nodup (["powers", "one", "other"] : List Str) by decide +kernel) rfl (Or.inl rfl) (Or.inr rfl))
          (fun C fp s2 H2 => pe_and (pe_cmp (pc_din hu (pv 0) (pv 2))) (pe_one (pe_call GL hr rfl DL.m DL.F.kp DL.b .nil pass0 (pa_cons (pe_dget hu (pv 1) (pv 0) (fun _ _ => rfl)) (pa_cons (pe_dget hu (pv 2) (pv 0) (fun _ _ => rfl)) pa_nil)))))) pa_nil)))), ?_⟩
    try dsimp only [cxK]
    have iff := same_iff h1.db h2.db
    refine ⟨_, rfl, d1, _, rfl, h1.rd, _, rfl, d2, _, rfl, h2.rd, rfl, _, rfl, ?_⟩
    rw [dec_ints, List.length_map, List.length_map]
    by_cases hl : E1.length = E2.length
    · refine iteN (by simp [hl]) ?_
      obtain ⟨o1, f1⟩ := h1.fr
      refine ⟨_, rfl, d1, o1, _, rfl, f1, kv_keys E1, fun ks hks p H1 n1 s1 e1 => ?_⟩
      refine comp_ents hks (fun e => V.bl (okE E2 e)) (Nat.le_trans h1.db.few hn) n1 s1 e1 f1 (fun e b H2 R he s2 hb kr => ?_) fun H2 s2 e2 => ?_
      · have g1 := (h1.kp (Kp.of s2)).get he hb
        have k1 := (h1.kp (Kp.of s2)).db.each e he
        have hz1 := h1.db.k he
        refine ⟨keep1t, ?_⟩
        by_cases hin : e.ns ∈ E2.map Ent.ns
        · obtain ⟨e2, m2, q⟩ := List.mem_map.mp hin
          have k2 := (h2.kp (Kp.of s2)).db.each e2 m2
          have hz2 := h2.db.k m2
          have g2 := (h2.kp (Kp.of s2)).get m2 (by rw [q]; exact hb)
          refine ⟨_, rfl, _, rfl, d2, _, rfl, g2, _, rfl, iteT ?_⟩
          refine ⟨_, rfl, _, rfl, d1, _, rfl, g1, _, rfl, _, rfl, d2, _, rfl, g2, e.c, e2.c, e.t, e.b, e2.t, e2.b, rfl, k1.at', k2.at', top_fit k1.st k1.sb (by omega), bot_fit k1.sb (by omega), top_fit k2.st k2.sb (by omega), bot_fit k2.sb (by omega), ?_⟩
          rw [← okE_in h2.db.nd m2 q]
          exact kr H2 (Same.refl _)
        · have g2 : DGet H2 d2 (.ref b) none := .inr ⟨_, LwD.ik e.ns, b, (h2.kp (Kp.of s2)).rd, rfl, by rw [LwD.ik_map]; exact hb, (val_out (key_ne hin)).symm⟩
          refine ⟨_, rfl, _, rfl, d2, _, rfl, g2, _, rfl, iteF ?_⟩
          have := kr H2 (Same.refl _)
          rw [okE_out hin] at this
          exact this
      · refine ⟨p, E1.map (okE E2), rfl, SqL.of (by rw [e2, List.map_map]; rfl), ?_⟩
        refine go _ H2 s2 ?_
        rw [List.all_map, ← iff]
        exact ⟨fun h => ⟨hl, h⟩, fun h => h.2⟩
    · refine iteP (by rw [decide_eq_false (by omega)]; rfl) (go false H (Same.refl _) ?_)
      rw [← iff]
      exact ⟨(fun h => nomatch h), fun h => absurd h.1 hl⟩
end
end Lw

namespace Lw
open PySem PySem.Spec PyProof.Rows L2 LwQ LwV
section
variable {X : Cx}
noncomputable def rTupZ (K : PySem.W.Frag) : List V → Hp → VK → Prop := fun xs H Q => ∃ p ys, xs = [.ref p] ∧ SqL K H p ys ∧ ∀ (l : Addr) (o : Obj), H l = none → o.dict = none → Q (.ref l) (upd H l (.frz o (.tup ys)))
theorem call_tupleZ : CallR X (.type "tuple") (rTupZ X.K) := by
  intro pins s σ H xs us Q I r h
  obtain ⟨p, ys, rfl, hq, q⟩ := h
  obtain ⟨u, rfl, rx⟩ := vals1 r
  cases rx
  obtain ⟨its, r', pl, hz⟩ := I.list hq
  have hlen := r'.length
  refine call_tuple_list pl.isList (fun h' kp => ?_) (by simp only [List.size_toArray] <;> omega)
  have I1 : Inv X pins σ H { s with heap := h' } := I.kept (t' := s.toks) kp
  have I2 : Inv X pins σ (upd H h'.objs.size (.frz { cls := .type "tuple", data := .seq its.toArray } (.tup ys))) { s with heap := h'.push { cls := .type "tuple", data := .seq its.toArray } } :=
    I1.laid (t' := s.toks) (fun b o e => Heap.get?_push_of_some _ e) (Nat.le_refl _) (show ObjOk X.prog X.w _ _ _ (.frz _ (.tup ys)) from ⟨Heap.get?_push_size _ rfl, hz, its, r', IsTup.new _ _⟩)
  exact ⟨.ref h'.objs.size, _, I2, rfl, q _ _ (I1.hok.fresh (Nat.le_refl _)) rfl⟩
end
theorem perm_lift {α β : Type} {f : α → β} {zs l : List β} (p : zs.Perm l) : ∀ E : List α, l = E.map f → ∃ E' : List α, E'.Perm E ∧ zs = E'.map f := by
  induction p with
  | nil =>
    intro E h
    have : E = [] := by simpa using h.symm
    exact ⟨[], by rw [this], rfl⟩
  | @cons x l1 l2 _ ih =>
    intro E h
    match E, h with
    | e :: E2, h =>
      rw [List.map_cons] at h
      injection h with h1 h2
      obtain ⟨E', p', rfl⟩ := ih E2 h2
      exact ⟨e :: E', p'.cons e, by rw [List.map_cons, h1]⟩
  | @swap x y l =>
    intro E h
    match E, h with
    | e1 :: e2 :: E2, h =>
      rw [List.map_cons, List.map_cons] at h
      injection h with h1 h2
      injection h2 with h2 h3
      exact ⟨e2 :: e1 :: E2, List.Perm.swap .., by rw [List.map_cons, List.map_cons, h1, h2, h3]⟩
  | @trans l1 l2 l3 _ _ ih1 ih2 =>
    intro E h
    obtain ⟨E2, p2, e2⟩ := ih2 E h
    obtain ⟨E1, p1, e1⟩ := ih1 E2 e2
    exact ⟨E1, p1.trans p2, e1⟩
theorem Rd.same {H H' : Hp} {d : Addr} {o : HO} (h : Rd H d o) (s : Same H H') : Rd H' d o := by
  rcases h with h | ⟨u, h⟩
  · exact .inl (s _ _ h)
  · exact .inr ⟨u, s _ _ h⟩
structure Trm where
  ns : List Int
  t : Int
  b : Int
  k : Nat
noncomputable def Trm.pr (x : Trm) : List Int × Rat := (x.ns, (x.t : Rat) / (x.b : Rat))
noncomputable def tl (ts : List Trm) : Pl := ts.map Trm.pr
structure TmOk (many D v : Nat) (x : Trm) : Prop where
  len : x.ns.length = many
  nn : ∀ n ∈ x.ns, 0 ≤ n
  deg : x.ns.sum ≤ D
  pos : 0 < x.b
  nz : x.t ≠ 0
  low : Int.gcd x.t x.b = 1
  sb : x.b.natAbs ≤ 2 ^ x.k
  st : x.t.natAbs ≤ 2 ^ v * x.b.natAbs
structure TrmV (H : Hp) (v : V) (x : Trm) : Prop where
  ex : ∃ r b c : Addr, v = .ref r ∧ H r = some (.tup [.ref b, .ref c]) ∧ H b = some (.tup (x.ns.map V.int)) ∧ At2 H c x.t x.b
theorem TrmV.kp {H H' : Hp} {v : V} {x : Trm} (h : TrmV H v x) (k : Kp H H') : TrmV H' v x := by
  obtain ⟨r, b, c, e1, e2, e3, e4⟩ := h.ex
  exact ⟨r, b, c, e1, k.tup _ _ e2, k.tup _ _ e3, k.tup _ _ e4⟩
theorem Paired.to {α β : Type} {F G : α → β → Prop} (f : ∀ a b, F a b → G a b) : ∀ {l₁ : List α} {l₂ : List β}, Paired F l₁ l₂ → Paired G l₁ l₂
  | _, _, .nil => .nil
  | _, _, .cons h t => .cons (f _ _ h) (Paired.to f t)
theorem Paired.app {α β : Type} {F : α → β → Prop} : ∀ {a b : List α} {c d : List β}, Paired F a c → Paired F b d → Paired F (a ++ b) (c ++ d)
  | _, _, _, _, .nil, h => h
  | _, _, _, _, .cons h t, k => .cons h (Paired.app t k)
theorem Paired.at {α β : Type} {F : α → β → Prop} : ∀ {l₁ : List α} {l₂ : List β} {i : Nat} {x : α}, Paired F l₁ l₂ → l₁[i]? = some x → ∃ y, l₂[i]? = some y ∧ F x y
  | _, _, _, _, .nil, h => by simp at h
  | _, _, 0, _, .cons h t, e => by
    cases (Option.some.inj e)
    exact ⟨_, rfl, h⟩
  | _, _, i + 1, _, .cons h t, e => Paired.at t (i := i) e
structure Poly (H : Hp) (p : Addr) (many : Nat) (z : Sz) (ts : List Trm) : Prop where
  ex : ∃ (q : Addr) (o : Obj) (xs : List V), H p = some (.tup [.int many, .ref q]) ∧ H q = some (.frz o (.tup xs)) ∧ o.dict = none ∧ Paired (TrmV H) xs ts
  nd : (ts.map Trm.ns).Nodup
  each : ∀ x ∈ ts, TmOk many z.D z.v x
  sum : (ts.map Trm.k).sum ≤ z.S
  few : ts.length ≤ z.n
theorem Poly.kp {H H' : Hp} {p : Addr} {many : Nat} {z : Sz} {ts : List Trm} (h : Poly H p many z ts) (k : Kp H H') : Poly H' p many z ts := by
  obtain ⟨q, o, xs, e1, e2, e3, e4⟩ := h.ex
  exact ⟨⟨q, o, xs, k.tup _ _ e1, k.frz _ _ _ e2, e3, Paired.to (fun _ _ h => h.kp k) e4⟩, h.nd, h.each, h.sum, h.few⟩
theorem low_all {t b : Int} {v k : Nat} (hb : 0 < b) (nz : t ≠ 0) (sb : b.natAbs ≤ 2 ^ k) (st : t.natAbs ≤ 2 ^ v * b.natAbs) : 0 < lowB t b ∧ lowT t b ≠ 0 ∧ Int.gcd (lowT t b) (lowB t b) = 1 ∧ (lowB t b).natAbs ≤ 2 ^ k ∧ (lowT t b).natAbs ≤ 2 ^ v * (lowB t b).natAbs := by
  have g1 := LwM.gcd_pos t b hb
  have gp : 0 < Int.gcd t b := by omega
  rw [low_posT hb, low_posB hb]
  have d1 : (Int.gcd t b : Int) ∣ t := Int.gcd_dvd_left ..
  have d2 : (Int.gcd t b : Int) ∣ b := Int.gcd_dvd_right ..
  have hp : 0 < b / (Int.gcd t b : Int) := Int.ediv_pos_of_pos_of_dvd hb (by omega) d2
  have e1 : t / (Int.gcd t b : Int) * (Int.gcd t b : Int) = t := Int.ediv_mul_cancel d1
  have e2 : b / (Int.gcd t b : Int) * (Int.gcd t b : Int) = b := Int.ediv_mul_cancel d2
  refine ⟨hp, fun z => nz ?_, Int.gcd_ediv_gcd_ediv_gcd gp, Nat.le_trans (LwM.ediv_abs b _ g1) sb, ?_⟩
  · rw [← e1, z, Int.zero_mul]
  · have st : (t / (Int.gcd t b : Int) * (Int.gcd t b : Int)).natAbs ≤ 2 ^ v * (b / (Int.gcd t b : Int) * (Int.gcd t b : Int)).natAbs := by rw [e1, e2]; exact st
    rw [Int.natAbs_mul, Int.natAbs_mul] at st
    generalize t / (Int.gcd t b : Int) = t' at st
    generalize b / (Int.gcd t b : Int) = b' at st
    refine Nat.le_of_mul_le_mul_right (c := (Int.gcd t b : Int).natAbs) ?_ (by omega)
    rw [Nat.mul_assoc]
    exact st
theorem low_val {t b : Int} (hb : 0 < b) : ((lowT t b : Int) : Rat) / ((lowB t b : Int) : Rat) = (t : Rat) / (b : Rat) := by
  have g1 := LwM.gcd_pos t b hb
  rw [low_posT hb, low_posB hb]
  have d1 : (Int.gcd t b : Int) ∣ t := Int.gcd_dvd_left ..
  have d2 : (Int.gcd t b : Int) ∣ b := Int.gcd_dvd_right ..
  have hp : 0 < b / (Int.gcd t b : Int) := Int.ediv_pos_of_pos_of_dvd hb (by omega) d2
  have e1 : t / (Int.gcd t b : Int) * (Int.gcd t b : Int) = t := Int.ediv_mul_cancel d1
  have e2 : b / (Int.gcd t b : Int) * (Int.gcd t b : Int) = b := Int.ediv_mul_cancel d2
  refine (frac_eq hp hb).mp ?_
  generalize t / (Int.gcd t b : Int) = t' at *
  generalize b / (Int.gcd t b : Int) = b' at *
  generalize (Int.gcd t b : Int) = g at *
  rw [← e1, ← e2]
  grind
noncomputable def Ent.tm (e : Ent) : Trm := ⟨e.ns, lowT e.t e.b, lowB e.t e.b, e.k⟩
noncomputable def spLSum : Sp := fun vs H Q _ => ∃ (d : Addr) (many : Nat) (z : Sz) (E : List Ent), vs = [.int many, .ref d] ∧ Rd H d (.dT (E.map Ent.kv)) ∧ DB H many z E ∧ 1 ≤ many ∧ z.n ≤ 63 ∧ z.S ≤ 7900 ∧
  ∀ (p : Addr) (ts : List Trm) (H' : Hp), H p = none → Same H H' → Poly H' p many z ts → (tl ts).Perm (pl E) → Q (.ref p) H'
inductive LsI (H H2 : Hp) (d l sl : Addr) (many : Nat) (ys : List V) (E0 : List Ent) (i : Nat) : L2.St → Hp → Prop where
  | mk {u v : Option V} {H' : Hp} {xs : List V} (s : Same H H') (k : Kp H2 H') (es : H' sl = some (.lst ys)) (e : H' l = some (.lst xs)) (h : Paired (TrmV H') xs ((E0.take i).map Ent.tm)) : LsI H H2 d l sl many ys E0 i [some (.int many), some (.ref d), some (.ref l), u, v] H'
section
variable {P : Program} {w : World} {K : PySem.W.Frag} {mg : Str → Option Value} {base : Heap} {f fd : _}
theorem scLSum : FnScope ["many", "one", "terms", "powers", "number"] ["many", "one"] (defScope sLSum) := ⟨rfl, rfl, rfl, by decide +kernel, rfl, by decide +kernel, by decide +kernel⟩
theorem ok_lsum {fL : Addr} {fdL : FuncData} (F : Fun K "_law_sum" "_law_sum" sLSum f fd) (T : Txt mg) (DL : Df K mg "_law_low" sLow ["top", "bottom"] fL fdL) (GL : FnOk P w K mg base CX0 1 fL fdL ["top", "bottom"] spLow) : FnOk P w K mg base CX0 2 f fd ["many", "one"] spLSum := by
  refine F.ok scLSum (fun vs H Q E h => ?_) (fun cdv A outer s H vs Q E hr h => ?_)
  · obtain ⟨d, many, z, E', rfl, _⟩ := h
    rfl
  · obtain ⟨d, many, z, EE, rfl, hR, hD, m1, n63, S7, go⟩ := h
    have hu : _ + 1 < cLine := Nat.lt_of_le_of_lt (Nat.add_le_add_left (by decide : 1 ≤ 64) _) hr.units
    refine ⟨_, pss_cons (ps_set (i := 2) scLSum.nd rfl (Or.inl rfl) (pe_lstF pa_nil)) (pss_cons (ps_for PassesOwn.never rfl (pi_list (pe_callB (LwD.call_sortS rfl) (by rfl) T.sorted boot_sorted (pa_cons (pv 1) pa_nil))) (pg_name (i := 3) scLSum.nd rfl (Or.inl rfl)) (pss_one (ps_if (pt_cmpR op_ne (pe_ix ix_tup (pe_dget hu (pv 1) (pv 3) (fun _ _ => rfl)) pe_int (fun _ _ => rfl)) pe_int (nomark _)) (pss_cons (ps_set (i := 4) scLSum.nd rfl (Or.inl rfl) (pe_call GL hr rfl DL.m DL.F.kp DL.b .nil pass0 (pa_cons (pe_ix ix_tup (pe_dget hu (pv 1) (pv 3) (fun _ _ => rfl)) pe_int (fun _ _ => rfl)) (pa_cons (pe_ix ix_tup (pe_dget hu (pv 1) (pv 3) (fun _ _ => rfl)) pe_int (fun _ _ => rfl)) pa_nil)))) (pss_one (ps_expr (pe_bm PySem.F.plainAttrs_list PySem.F.slot_list_append PySem.F.type_list_append mt_append (pv 2) (pa_cons (pe_tupF (pa_cons (pv 3) (pa_cons (pv 4) pa_nil))) pa_nil))))) pss_nil))) (pss_one (ps_ret (pe_tupF (pa_cons (pv 0) (pa_cons (pe_callTy call_tupleZ (by rfl) T.tup boot_tuple (pa_cons (pv 2) pa_nil)) pa_nil)))))), ?_⟩
    try dsimp only [cxK]
    refine ⟨(by show 0 ≤ sizeLine; decide), fun l H1 n1 s1 e1 => ?_⟩
    refine ⟨_, rfl, d, _, rfl, Rd.same hR s1, by rw [List.length_map]; exact Nat.lt_of_le_of_lt (Nat.le_trans hD.few n63) (by decide), fun p hp => ?_, fun ys zs pz ky pw sl H2 n2 s2 e2 => ⟨sl, rfl, ⟨ys, SqL.of e2⟩, ?_⟩⟩
    · obtain ⟨e, he, rfl⟩ := List.mem_map.mp hp
      exact ⟨e.ns, rfl, fun z => by have := (hD.each e he).len; rw [z] at this; simp at this; omega⟩
    obtain ⟨E0, pE, rfl⟩ := perm_lift pz EE rfl
    have s12 : Same H H2 := s1.trans s2
    have ls : sl ≠ l := fun z => by rw [z, e1] at n2; cases n2
    have yl : ys.length = E0.length := by rw [ky.1, List.length_map]
    have l63 : E0.length ≤ 63 := by rw [pE.length_eq]; exact Nat.le_trans hD.few n63
    refine for_list (K := K) (a := sl) (xs := ys) (LsI H H2 d l sl many ys E0) (.mk s12 (Kp.of (Same.refl _)) e2 (s2 _ _ e1) .nil) (fun i σ H3 _ h => ?_) (fun i y σ H3 hyi h => ?_) (fun σ H3 h => ?_)
    · obtain ⟨_, _, es, _, _⟩ := h
      exact SqL.of es
    · obtain ⟨s3, k3, es, el, hx⟩ := h
      have hiy : i < ys.length := (List.getElem?_eq_some_iff.mp hyi).1
      have hie : i < E0.length := by omega
      obtain ⟨e, he⟩ : ∃ e, E0[i]? = some e := ⟨E0[i], by simp [hie]⟩
      obtain ⟨b, ns, rfl, hb1, hk⟩ := ky.2 i y e.kv hyi (by rw [List.getElem?_map, he]; rfl)
      have ens : e.ns = ns := ik_inj hk
      subst ens
      have eE : e ∈ EE := pE.mem_iff.mp (List.mem_of_getElem? he)
      have hE := (hD.kp (Kp.of s3)).each e eE
      have hb3 : H3 b = some (.tup (e.ns.map V.int)) := k3.tup _ _ (s2 _ _ hb1)
      have g3 := rd_get (Rd.same hR s3) hD.nd eE hb3
      have c3 := SqT.of (K := K) hE.at'
      have ke := hD.k eE
      refine ⟨_, rfl, _, rfl, d, _, rfl, g3, e.c, _, _, _, rfl, rfl, c3, rfl, rfl, _, rfl, ?_⟩
      rw [dec_ints]
      refine iteP (by rw [decide_eq_false hE.nz]; rfl) ?_
      refine ⟨_, rfl, _, rfl, d, _, rfl, g3, e.c, _, _, _, rfl, rfl, c3, rfl, _, rfl, _, rfl, d, _, rfl, g3, e.c, _, _, _, rfl, rfl, c3, rfl, e.t, e.b, rfl, ?_, .inl (bot_fit hE.sb (by omega)), fun r H4 n4 s4 e4 => ?_⟩
      · have := hE.pos
        omega
      refine ⟨_, rfl, .inl ⟨rfl, _, SqL.of (s4 _ _ el)⟩, _, rfl, _, rfl, (by show 2 ≤ sizeLine; decide), fun q H5 n5 s5 e5 => ?_⟩
      have s45 := s4.trans s5
      have el5 := s45 _ _ el
      have lx := Paired.length hx
      rw [List.length_map, List.length_take] at lx
      refine ⟨l, _, _, rfl, rfl, el5, Nat.lt_of_le_of_lt (show _ ≤ 63 by omega) (by decide), ?_⟩
      have ku : ∀ o : HO, Kp H5 (upd H5 l o) := fun o => Kp.upd el5 trivial
      refine .mk (put_same (s3.trans s45) n1) ((k3.trans (Kp.of s45)).trans (ku _)) ?_ upd_same ?_
      · rw [upd_ne ls]
        exact s45 _ _ es
      · rw [List.take_add_one, he, List.map_append]
        refine Paired.app (Paired.to (fun _ _ h => h.kp ((Kp.of s45).trans (ku _))) hx) (.cons ⟨q, b, r, rfl, (ku _).tup _ _ e5, (ku _).tup _ _ (s45 _ _ hb3), (ku _).tup _ _ (s5 _ _ e4)⟩ .nil)
    · obtain ⟨s3, k3, es, el, hx⟩ := h
      rename_i xs3
      rw [yl, List.take_length] at hx
      refine ⟨_, rfl, _, rfl, l, _, rfl, SqL.of el, fun q oq nq dq => ⟨(by show 2 ≤ sizeLine; decide), fun p H5 n5 s5 e5 => ?_⟩⟩
      have s4 : Same H3 (upd H3 q (.frz oq (.tup xs3))) := same_upd _ nq
      refine go p (E0.map Ent.tm) H5 ((s3.trans s4).free n5) (s3.trans (s4.trans s5)) ⟨⟨q, oq, _, e5, s5 _ _ upd_same, dq, Paired.to (fun _ _ h => h.kp (Kp.of (s4.trans s5))) hx⟩, ?_, fun x hx => ?_, ?_, ?_⟩ ?_
      · rw [List.map_map]
        exact (pE.map Ent.ns).nodup_iff.mpr hD.nd
      · obtain ⟨e, he, rfl⟩ := List.mem_map.mp hx
        have k := hD.each e (pE.mem_iff.mp he)
        obtain ⟨a1, a2, a3, a4, a5⟩ := low_all k.pos k.nz k.sb k.st
        exact ⟨k.len, k.nn, k.deg, a1, a2, a3, a4, a5⟩
      · rw [List.map_map]
        have : (E0.map (Trm.k ∘ Ent.tm)).sum = (EE.map Ent.k).sum := (pE.map Ent.k).sum_nat
        rw [this]
        exact hD.sum
      · rw [List.length_map, pE.length_eq]
        exact hD.few
      · have : tl (E0.map Ent.tm) = pl E0 := by
          unfold tl pl
          rw [List.map_map]
          refine List.map_congr_left fun e he => ?_
          have k := hD.each e (pE.mem_iff.mp he)
          show (e.ns, _) = (e.ns, _)
          congr 1
          exact low_val k.pos
        rw [this]
        exact pE.map _
end
end Lw

namespace Lw
open PySem PySem.Spec PyProof.Rows L2 LwQ LwV
theorem le_mulR {a b : Int} (ha : 0 ≤ a) (hb : 1 ≤ b) : a ≤ a * b := by
  have := Int.mul_le_mul_of_nonneg_left hb ha
  rwa [Int.mul_one] at this
noncomputable def prd : List Int → Int
  | [] => 1
  | n :: r => n * prd r
theorem prd_app : ∀ (a b : List Int), prd (a ++ b) = prd a * prd b
  | [], b => (Int.one_mul _).symm
  | n :: r, b => by show n * prd (r ++ b) = n * prd r * prd b; rw [prd_app r b, Int.mul_assoc]
theorem prd_pos : ∀ {ns : List Int}, (∀ n ∈ ns, 0 < n) → 0 < prd ns
  | [], _ => by decide
  | n :: r, h => Int.mul_pos (h n (by simp)) (prd_pos fun m hm => h m (by simp [hm]))
theorem prd_take {ns : List Int} (h : ∀ n ∈ ns, 0 < n) (i : Nat) : prd (ns.take i) ≤ prd ns := by
  conv => rhs; rw [← List.take_append_drop i ns, prd_app]
  have h1 := prd_pos (ns := ns.take i) fun n hn => h n (List.mem_of_mem_take hn)
  have h2 := prd_pos (ns := ns.drop i) fun n hn => h n (List.mem_of_mem_drop hn)
  exact le_mulR (by omega) (by omega)
theorem prd_bits : ∀ {ns : List Int} {ks : List Nat}, ns.length = ks.length → (∀ (i : Nat) (n : Int) (k : Nat), ns[i]? = some n → ks[i]? = some k → 0 < n ∧ n.natAbs ≤ 2 ^ k) → (prd ns).natAbs ≤ 2 ^ ks.sum
  | [], [], _, _ => by simp [prd]
  | n :: r, k :: ks, hl, h => by
    show (n * prd r).natAbs ≤ 2 ^ (k + ks.sum)
    rw [Int.natAbs_mul, Nat.pow_add]
    exact Nat.mul_le_mul (h 0 n k rfl rfl).2 (prd_bits (by simpa using hl) fun i n k h1 h2 => h (i + 1) n k h1 h2)
noncomputable def spCommon : Sp := fun vs H Q _ => ∃ a b : Int, vs = [.int a, .int b] ∧ 0 < a ∧ 0 < b ∧ a.natAbs < 2 ^ 7900 ∧ b.natAbs < 2 ^ 7900 ∧ ∀ H', Same H H' → Q (.int (a * (b / (Int.gcd b a : Int)))) H'
noncomputable def spAllM (K : PySem.W.Frag) : Sp := fun vs H Q _ => ∃ (a : Addr) (ns : List Int), vs = [.ref a] ∧ H a = some (.lst (ns.map V.int)) ∧ (∀ n ∈ ns, 0 < n) ∧ (prd ns).natAbs < 2 ^ 7900 ∧ ∀ (L : Int) (H' : Hp), Same H H' → 0 < L → (∀ n ∈ ns, n ∣ L) → L ≤ prd ns → Q (.int L) H'
inductive AmI (H : Hp) (a : Addr) (ns : List Int) (i : Nat) : L2.St → Hp → Prop where
  | mk {u : Option V} {L : Int} {H' : Hp} (s : Same H H') (p : 0 < L) (d : ∀ n ∈ ns.take i, n ∣ L) (l : L ≤ prd (ns.take i)) : AmI H a ns i [some (.ref a), some (.int L), u] H'
theorem lcm_all {a b : Int} (ha : 0 < a) (hb : 0 < b) : 0 < a * (b / (Int.gcd b a : Int)) ∧ b ∣ a * (b / (Int.gcd b a : Int)) ∧ a * (b / (Int.gcd b a : Int)) ≤ a * b := by
  have g1 := LwM.gcd_pos b a ha
  have d1 : (Int.gcd b a : Int) ∣ b := Int.gcd_dvd_left ..
  have d2 : (Int.gcd b a : Int) ∣ a := Int.gcd_dvd_right ..
  have hp : 0 < b / (Int.gcd b a : Int) := Int.ediv_pos_of_pos_of_dvd hb (by omega) d1
  refine ⟨Int.mul_pos ha hp, ?_, Int.mul_le_mul_of_nonneg_left (Int.ediv_le_self _ (by omega)) (by omega)⟩
  have e1 : b / (Int.gcd b a : Int) * (Int.gcd b a : Int) = b := Int.ediv_mul_cancel d1
  have e2 : a / (Int.gcd b a : Int) * (Int.gcd b a : Int) = a := Int.ediv_mul_cancel d2
  refine ⟨a / (Int.gcd b a : Int), ?_⟩
  generalize b / (Int.gcd b a : Int) = b' at *
  generalize a / (Int.gcd b a : Int) = a' at *
  generalize (Int.gcd b a : Int) = g at *
  rw [← e1, ← e2]
  grind
section
variable {P : Program} {w : World} {K : PySem.W.Frag} {mg : Str → Option Value} {base : Heap} {f fd : _}
theorem scCommon : FnScope ["one", "other"] ["one", "other"] (defScope sCommon) := ⟨rfl, rfl, rfl, by decide +kernel, rfl, by decide +kernel, by decide +kernel⟩
theorem ok_common {fD : Addr} {fdD : FuncData} (F : Fun K "common_multiple" "common_multiple" sCommon f fd) (DD : Df K mg "divided" sDiv ["one", "other"] fD fdD) (GD : FnOk P w K mg base CX0 3 fD fdD ["one", "other"] (spDivN K)) : FnOk P w K mg base CX0 4 f fd ["one", "other"] spCommon := by
  refine F.ok scCommon (fun vs H Q E h => ?_) (fun cdv A outer s H vs Q E hr h => ?_)
  · obtain ⟨a, b, rfl, _⟩ := h
    rfl
  · obtain ⟨a, b, rfl, pa, pb, sa, sb, q⟩ := h
    refine ⟨_, pss_one (ps_ret (pe_op op_mulL (pv 0) (pe_ix ix_tup (pe_call GD hr rfl DD.m DD.F.kp DD.b .nil pass0 (pa_cons (pe_tupF (pa_cons (pv 1) (pa_cons pe_int pa_nil))) (pa_cons (pe_tupF (pa_cons (pv 0) (pa_cons pe_int pa_nil))) pa_nil))) pe_int (fun _ _ => rfl)))), ?_⟩
    try dsimp only [cxK]
    refine ⟨_, rfl, _, rfl, (by show 2 ≤ sizeLine; decide), fun x1 H1 n1 s1 e1 => ⟨_, rfl, (by show 2 ≤ sizeLine; decide), fun x2 H2 n2 s2 e2 => ?_⟩⟩
    have one : (1 : Int).natAbs < 2 ^ 7900 := Nat.one_lt_pow (by decide) (by decide)
    refine ⟨x1, x2, b, 1, a, 1, rfl, SqT.of (s2 _ _ e1), SqT.of e2, ⟨by decide, by simp, sb, one⟩, ⟨by decide, by simp, sa, one⟩, by omega, fun r H3 n3 s3 e3 => ?_⟩
    have ep : 0 < 1 * a := by omega
    have g1 := LwM.gcd_pos b a pa
    refine ⟨r, _, 0, _, rfl, rfl, SqT.of e3, rfl, _, _, rfl, rfl, ⟨abs_up sa (by decide), ?_⟩, ?_⟩
    · rw [low_posT ep]
      refine abs_up (m := 7900) (abs_div (by rw [Int.mul_one]; exact sb) ?_) (by decide)
      rw [Int.mul_one, Int.one_mul]
      exact g1
    · rw [low_posT ep, Int.mul_one, Int.one_mul]
      exact q H3 (s1.trans (s2.trans s3))
theorem scAllM : FnScope ["numbers", "found", "number"] ["numbers"] (defScope sAllM) := ⟨rfl, rfl, rfl, by decide +kernel, rfl, by decide +kernel, by decide +kernel⟩
theorem ok_allm {fC : Addr} {fdC : FuncData} (F : Fun K "all_multiple" "all_multiple" sAllM f fd) (DC : Df K mg "common_multiple" sCommon ["one", "other"] fC fdC) (GC : FnOk P w K mg base CX0 4 fC fdC ["one", "other"] spCommon) : FnOk P w K mg base CX0 5 f fd ["numbers"] (spAllM K) := by
  refine F.ok scAllM (fun vs H Q E h => ?_) (fun cdv A outer s H vs Q E hr h => ?_)
  · obtain ⟨a, ns, rfl, _⟩ := h
    rfl
  · obtain ⟨a, ns, rfl, ha, hp, hb, go⟩ := h
    refine ⟨_, pss_cons (ps_set (i := 1) scAllM.nd rfl (Or.inl rfl) pe_int)
      (pss_cons (ps_for PassesOwn.never rfl (pi_list (pv 0)) (pg_name (i := 2) scAllM.nd rfl (Or.inl rfl))
        (pss_one (ps_if (pt_cmpR op_ne (pe_op op_mod (pv 1) (pv 2)) pe_int (nomark _)) (pss_one (ps_set (i := 1) scAllM.nd rfl (Or.inl rfl) (pe_call GC hr rfl DC.m DC.F.kp DC.b .nil pass0 (pa_cons (pv 1) (pa_cons (pv 2) pa_nil))))) pss_nil)))
      (pss_one (ps_ret (pv 1)))), ?_⟩
    try dsimp only [cxK]
    refine ⟨_, rfl, a, rfl, ⟨_, SqL.of ha⟩, ?_⟩
    have pp := prd_pos hp
    refine for_list (K := K) (a := a) (xs := ns.map V.int) (AmI H a ns) (.mk (Same.refl _) (by decide) (fun n h => nomatch h) (Int.le_refl _)) (fun i σ H2 _ h => ?_) (fun i y σ H2 hyi h => ?_) (fun σ H2 h => ?_)
    · obtain ⟨s2, _, _, _⟩ := h
      exact SqL.of (s2 _ _ ha)
    · obtain ⟨s2, p, d, l⟩ := h
      rename_i L
      rw [List.getElem?_map] at hyi
      obtain ⟨n, hn, rfl⟩ := Option.map_eq_some_iff.mp hyi
      have pn := hp n (List.mem_of_getElem? hn)
      have et : ns.take (i + 1) = ns.take i ++ [n] := by rw [List.take_add_one, hn]; rfl
      have pt := prd_take hp i
      have pt1 := prd_take hp (i + 1)
      have ept : prd (ns.take (i + 1)) = prd (ns.take i) * n := by rw [et, prd_app]; show _ * (n * 1) = _; rw [Int.mul_one]
      have p0 := prd_pos (ns := ns.take i) fun n hn => hp n (List.mem_of_mem_take hn)
      have mem : ∀ {L' : Int}, L ∣ L' → n ∣ L' → ∀ m ∈ ns.take (i + 1), m ∣ L' := fun h1 h2 m hm => by
        rw [et] at hm
        rcases List.mem_append.mp hm with hm | hm
        · exact Int.dvd_trans (d m hm) h1
        · rw [List.mem_singleton] at hm
          rw [hm]
          exact h2
      refine ⟨_, rfl, _, rfl, _, _, rfl, rfl, pn, rfl, _, rfl, ?_⟩
      rw [dec_ints]
      by_cases e : L % n = 0
      · refine iteN (by rw [decide_eq_true e]; rfl) (.mk s2 p (mem (Int.dvd_refl _) (Int.dvd_of_emod_eq_zero e)) ?_)
        rw [ept]
        exact Int.le_trans l (le_mulR (by omega) (by omega))
      · refine iteP (by rw [decide_eq_false e]; rfl) ?_
        obtain ⟨l1, l2, l3⟩ := lcm_all p pn
        have le : L * n ≤ prd (ns.take (i + 1)) := by rw [ept]; exact Int.mul_le_mul_of_nonneg_right l (by omega)
        have nle : n ≤ L * n := by rw [Int.mul_comm]; exact le_mulR (by omega) (by omega)
        refine ⟨_, rfl, _, rfl, L, n, rfl, p, pn, Nat.lt_of_le_of_lt (by omega) hb, Nat.lt_of_le_of_lt (by omega) hb, fun H3 s3 => ?_⟩
        exact .mk (s2.trans s3) l1 (mem (Int.dvd_mul_right ..) l2) (Int.le_trans l3 le)
    · obtain ⟨s2, p, d, l⟩ := h
      rw [List.length_map, List.take_length] at d l
      exact ⟨_, rfl, go _ H2 s2 p d l⟩
end
end Lw

namespace Lw
open PySem PySem.Spec PyProof.Rows L2 LwQ LwV
noncomputable abbrev Tb := List (List Int × Int)
noncomputable def kvI (x : List Int × Int) : List Key × V := (LwD.ik x.1, .int x.2)
noncomputable def tc (T : Tb) : Pl := T.map fun x => (x.1, (x.2 : Rat))
structure TB (many B : Nat) (T : Tb) : Prop where
  nd : (T.map (·.1)).Nodup
  each : ∀ x ∈ T, LwD.PwS many x.1 ∧ x.2.natAbs ≤ 2 ^ B
theorem tc_keys (T : Tb) : (tc T).map (·.1) = T.map (·.1) := by unfold tc; rw [List.map_map]; rfl
theorem tc_app (A B : Tb) : tc (A ++ B) = tc A ++ tc B := List.map_append
theorem keyI_ne {T : Tb} {ns : List Int} (h : ns ∉ T.map (·.1)) : ∀ p ∈ T.map kvI, p.1 ≠ LwD.ik ns := by
  intro p hp z
  obtain ⟨e, he, rfl⟩ := List.mem_map.mp hp
  exact h (List.mem_map.mpr ⟨e, he, ik_inj z⟩)
theorem TB.up {many B B' : Nat} {T : Tb} (h : TB many B T) (k : B ≤ B') : TB many B' T := ⟨h.nd, fun x hx => ⟨(h.each x hx).1, Nat.le_trans (h.each x hx).2 (Nat.pow_le_pow_right (by decide) k)⟩⟩
theorem tb_put {many B : Nat} {T : Tb} (h : TB many B T) {ns : List Int} {s : Int} (hn : LwD.PwS many ns) (hs : s.natAbs ≤ 2 ^ B) :
    ∃ (old : Int) (T' : Tb), (valV (T.map kvI) (LwD.ik ns)).getD (.int 0) = .int old ∧ putK (T.map kvI) (LwD.ik ns) (.int (old + s)) = T'.map kvI ∧ TB many (B + 1) T' ∧ T'.length ≤ T.length + 1 ∧ ∀ m, cf (tc T') m = cf (tc T) m + if ns = m then (s : Rat) else 0 := by
  have two : ∀ {a b : Int}, a.natAbs ≤ 2 ^ B → b.natAbs ≤ 2 ^ B → (a + b).natAbs ≤ 2 ^ (B + 1) := fun h1 h2 => by rw [Nat.pow_succ]; omega
  by_cases hin : ns ∈ T.map (·.1)
  · obtain ⟨x, hx, en⟩ := List.mem_map.mp hin
    obtain ⟨L, R, eT⟩ := List.append_of_mem hx
    have nd := h.nd
    rw [eT, List.map_append, List.map_cons] at nd
    have nL : ns ∉ L.map (·.1) := fun y => by
      rw [← en] at y
      exact (List.nodup_append.mp nd).2.2 _ y _ (List.mem_cons_self ..) rfl
    have nR : ns ∉ R.map (·.1) := fun y => by
      rw [← en] at y
      exact (List.nodup_cons.mp (List.nodup_append.mp nd).2.1).1 y
    have km : T.map kvI = L.map kvI ++ (LwD.ik ns, V.int x.2) :: R.map kvI := by
      rw [eT, List.map_append, List.map_cons, ← en]
      rfl
    refine ⟨x.2, L ++ (ns, x.2 + s) :: R, by rw [km, val_mid (keyI_ne nL)]; rfl, ?_, ⟨?_, fun y hy => ?_⟩, ?_, fun m => ?_⟩
    · rw [km, put_mid (keyI_ne nL) (keyI_ne nR), List.map_append, List.map_cons]
      rfl
    · rw [List.map_append, List.map_cons]
      rw [en] at nd
      exact nd
    · rcases List.mem_append.mp hy with hy | hy
      · exact (h.up (Nat.le_succ _)).each y (by rw [eT]; exact List.mem_append_left _ hy)
      · rcases List.mem_cons.mp hy with rfl | hy
        · exact ⟨hn, two (h.each x hx).2 hs⟩
        · exact (h.up (Nat.le_succ _)).each y (by rw [eT]; exact List.mem_append_right _ (List.mem_cons_of_mem _ hy))
    · rw [eT, List.length_append, List.length_append, List.length_cons, List.length_cons]
      omega
    · rw [eT, tc, tc, List.map_append, List.map_append, List.map_cons, List.map_cons, cf_app, cf_app, cf_cons, cf_cons]
      dsimp only
      rw [en, Rat.intCast_add]
      split <;> grind
  · refine ⟨0, T ++ [(ns, 0 + s)], by rw [val_out (keyI_ne hin)]; rfl, ?_, ⟨?_, fun y hy => ?_⟩, by simp, fun m => ?_⟩
    · rw [put_out (keyI_ne hin), List.map_append]
      rfl
    · rw [List.map_append, List.nodup_append]
      refine ⟨h.nd, by simp, fun a ha b hb => ?_⟩
      have : b = ns := by simpa using hb
      rintro rfl
      rw [this] at ha
      exact hin ha
    · rcases List.mem_append.mp hy with hy | hy
      · exact (h.up (Nat.le_succ _)).each y hy
      · rw [List.mem_singleton] at hy
        subst hy
        refine ⟨hn, ?_⟩
        show (0 + s).natAbs ≤ _
        rw [Int.zero_add]
        exact Nat.le_trans hs (Nat.pow_le_pow_right (by decide) (Nat.le_succ _))
    · rw [tc, List.map_append, cf_app]
      show cf (tc T) m + ((if ns = m then ((0 + s : Int) : Rat) else 0) + 0) = _
      rw [Int.zero_add]
      split <;> grind
structure TopV (H : Hp) (v : V) (x : List Int × Int) : Prop where
  ex : ∃ r b : Addr, v = .ref r ∧ H r = some (.tup [.ref b, .int x.2]) ∧ H b = some (.tup (x.1.map V.int))
theorem TopV.kp {H H' : Hp} {v : V} {x : List Int × Int} (h : TopV H v x) (k : Kp H H') : TopV H' v x := by
  obtain ⟨r, b, e1, e2, e3⟩ := h.ex
  exact ⟨r, b, e1, k.tup _ _ e2, k.tup _ _ e3⟩
theorem cut_from (xs : List V) (i : Nat) (h : i ≤ xs.length) : cutV xs (some (i : Int)) none = xs.drop i := by
  unfold cutV
  rw [HT.sIx_nat, HT.sIx_none, Nat.min_eq_left h]
  exact List.take_of_length_le (by rw [List.length_drop]; exact Nat.le_refl _)
theorem Paired.drop {α β : Type} {F : α → β → Prop} : ∀ {a : List α} {b : List β} (i : Nat), Paired F a b → Paired F (a.drop i) (b.drop i)
  | _, _, 0, h => h
  | _, _, _ + 1, .nil => .nil
  | _, _, i + 1, .cons _ t => Paired.drop i t
noncomputable def rowH (x : List Int × Int) : Tb → Tb
  | [] => []
  | _ :: L => (padd x.1 x.1, x.2 * x.2) :: L.map fun y => (padd x.1 y.1, 2 * x.2 * y.2)
theorem hs_row (x : List Int × Int) (L : Tb) : hs (tc (x :: L)) = tc (rowH x (x :: L)) ++ hs (tc L) := by
  show (padd x.1 x.1, (x.2 : Rat) * (x.2 : Rat)) :: (((tc L).map fun y => (padd x.1 y.1, 2 * (x.2 : Rat) * y.2)) ++ hs (tc L)) = (padd x.1 x.1, ((x.2 * x.2 : Int) : Rat)) :: (((L.map fun y => (padd x.1 y.1, 2 * x.2 * y.2)).map fun x => (x.1, (x.2 : Rat))) ++ hs (tc L))
  rw [Rat.intCast_mul]
  congr 2
  unfold tc
  rw [List.map_map, List.map_map]
  refine List.map_congr_left fun y _ => ?_
  show (padd x.1 y.1, 2 * (x.2 : Rat) * (y.2 : Rat)) = (padd x.1 y.1, ((2 * x.2 * y.2 : Int) : Rat))
  rw [Rat.intCast_mul, Rat.intCast_mul]
  rfl
theorem rowH_at {x y : List Int × Int} {L : Tb} {j : Nat} (h : (x :: L)[j]? = some y) : (rowH x (x :: L))[j]? = some (padd x.1 y.1, if j = 0 then x.2 * y.2 else 2 * x.2 * y.2) := by
  cases j with
  | zero => cases (Option.some.inj h); rfl
  | succ j =>
    show (L.map fun y => (padd x.1 y.1, 2 * x.2 * y.2))[j]? = _
    rw [List.getElem?_map, show L[j]? = some y from h]
    rfl
theorem rowH_len (x : List Int × Int) (L : Tb) : (rowH x (x :: L)).length = (x :: L).length := by
  show (L.map _).length + 1 = L.length + 1
  rw [List.length_map]
noncomputable def spSqd : Sp := fun vs H Q _ => ∃ (l : Addr) (many X : Nat) (ts : Tb) (xs : List V), vs = [.ref l] ∧ H l = some (.lst xs) ∧ Paired (TopV H) xs ts ∧ (∀ x ∈ ts, x.1.length = many ∧ (∀ n ∈ x.1, 0 ≤ n) ∧ x.1.sum ≤ 4 ∧ x.2.natAbs ≤ 2 ^ X) ∧ ts.length ≤ 30 ∧ X ≤ 5000 ∧ many ≤ 4 ∧
  ∀ (p : Addr) (T : Tb) (H' : Hp), H p = none → Same H H' → H' p = some (.dT (T.map kvI)) → TB many (2 * X + 1000) T → T.length ≤ 900 → (∀ m, cf (tc T) m = cf (hs (tc ts)) m) → Q (.ref p) H'
inductive QdI (H : Hp) (l p : Addr) (many X : Nat) (ts : Tb) (i : Nat) : L2.St → Hp → Prop where
  | mk {u2 u3 u4 u5 u6 u7 u8 u9 : Option V} {H' : Hp} {T : Tb} (s : Same H H') (e : H' p = some (.dT (T.map kvI))) (tb : TB many (2 * X + 1 + i * ts.length) T) (ln : T.length ≤ i * ts.length) (c : ∀ m, cf (tc T) m + cf (hs (tc (ts.drop i))) m = cf (hs (tc ts)) m) :
    QdI H l p many X ts i [some (.ref l), some (.ref p), u2, u3, u4, u5, u6, u7, u8, u9] H'
inductive QdJ (H : Hp) (l p b at' : Addr) (ss : List V) (many X N : Nat) (i : Nat) (x : List Int × Int) (R T0 : Tb) (j : Nat) : L2.St → Hp → Prop where
  | mk {u5 u6 u7 u8 u9 : Option V} {H' : Hp} {T : Tb} (s : Same H H') (es : H' at' = some (.lst ss)) (kb : H' b = some (.tup (x.1.map V.int))) (pr : Paired (TopV H') ss R) (e : H' p = some (.dT (T.map kvI))) (tb : TB many (2 * X + 1 + (N + j)) T) (ln : T.length ≤ N + j) (c : ∀ m, cf (tc T) m = cf (tc T0) m + cf (tc ((rowH x R).take j)) m) :
    QdJ H l p b at' ss many X N i x R T0 j [some (.ref l), some (.ref p), some (.int i), some (.ref b), some (.int x.2), u5, u6, u7, u8, u9] H'
section
variable {P : Program} {w : World} {K : PySem.W.Frag} {mg : Str → Option Value} {base : Heap} {f fd : _}
theorem scSqd : FnScope ["terms", "table", "at", "powers", "top", "behind", "more", "over", "both", "share"] ["terms"] (defScope sSqd) := ⟨rfl, rfl, rfl, by decide +kernel, rfl, by decide +kernel, by decide +kernel⟩
theorem ok_sqd (F : Fun K "squared" "squared" sSqd f fd) (T : Txt mg) : FnOk P w K mg base CX0 1 f fd ["terms"] spSqd := by
  refine F.ok scSqd (fun vs H Q E h => ?_) (fun cdv A outer s H vs Q E hr h => ?_)
  · obtain ⟨l, many, X, ts, xs, rfl, _⟩ := h
    rfl
  · obtain ⟨l, many, X, ts, xs, rfl, hl, hp, each, h30, hX, m4, go⟩ := h
    have hu : _ + 1 < cLine := Nat.lt_of_le_of_lt (Nat.add_le_add_left (by decide : 1 ≤ 64) _) hr.units
    refine ⟨_, pss_cons (ps_set (i := 1) scSqd.nd rfl (Or.inl rfl) pe_dnewT)
      (pss_cons (ps_for PassesOwn.never rfl (pi_enumL (by rfl) T.enum (pa_cons (pv 0) pa_nil)) (pg_tup rfl (pgs_cons (pg_name (i := 2) scSqd.nd rfl (Or.inl rfl)) (pgs_cons (pg_tup rfl (pgs_cons (pg_name (i := 3) scSqd.nd rfl (Or.inl rfl)) (pgs_cons (pg_name (i := 4) scSqd.nd rfl (Or.inl rfl)) pgs_nil))) pgs_nil)))
        (pss_one (ps_for PassesOwn.never rfl (pi_enumL (by rfl) T.enum (pa_cons (pe_slice sl_listF (pv 0) (po_some (pv 2)) po_none) pa_nil)) (pg_tup rfl (pgs_cons (pg_name (i := 5) scSqd.nd rfl (Or.inl rfl)) (pgs_cons (pg_tup rfl (pgs_cons (pg_name (i := 6) scSqd.nd rfl (Or.inl rfl)) (pgs_cons (pg_name (i := 7) scSqd.nd rfl (Or.inl rfl)) pgs_nil))) pgs_nil)))
          (pss_cons (ps_set (i := 8) scSqd.nd rfl (Or.inl rfl) (pe_callTy call_tuple_of (by rfl) T.tup boot_tuple (pa_cons
            (pe_compF (own := 2) (idx := []) (N := ["first", "second"]) rfl rfl rfl (by decide +kernel) (by decide +kernel) (fun _ _ h => nomatch h) (has_of rfl) rfl (fun _ _ _ h => nomatch h) (pi_zipT (by rfl) T.zip (pa_cons (pv 3) (pa_cons (pv 6) pa_nil)))
              (fun C fp s2 H2 => show PG (cxCompF _ ["first", "second"] _ _ C fp s2 H2) _ (gTup K 2 (gCons (gName 0) (gCons (gName 1) gNil))) from pg_tup (X := cxCompF _ ["first", "second"] _ _ C fp s2 H2) rfl (pgs_cons (pg_name (i := 0) (show List.Nodup (["first", "second"] : List Str) by decide +kernel) rfl (Or.inl rfl) (Or.inr rfl)) (pgs_cons (pg_name (i := 1) (show List.Nodup (["first", "second"] : List Str) by decide +kernel) rfl (Or.inl rfl) (Or.inr rfl)) pgs_nil)))
              (fun C fp s2 H2 => pe_op op_add (pv 0) (pv 1))) pa_nil)))
          (pss_cons (ps_set (i := 9) scSqd.nd rfl (Or.inl rfl) (pe_ifExp (pt_cmpR op_eq (pv 5) pe_int (nomark _)) (pe_op op_mulL (pv 4) (pv 7)) (pe_op op_mulL (pe_op op_mulL pe_int (pv 4)) (pv 7))))
          (pss_one (ps_dput hu (pv 1) (pv 8) (pe_op op_add (pe_dget2 hu (pv 1) (pv 8) pe_int ⟨rfl, rfl, rfl, rfl⟩) (pv 9)) rfl)))))))
      (pss_one (ps_ret (pv 1)))), ?_⟩
    try dsimp only [cxK]
    intro p np
    have s1 : Same H (upd H p (.dT [])) := same_upd _ np
    generalize hH1 : upd H p (.dT []) = H1 at s1
    have e1 : H1 p = some (.dT (([] : Tb).map kvI)) := hH1 ▸ upd_same
    have lx := Paired.length hp
    refine ⟨_, rfl, l, rfl, ⟨_, SqL.of (s1 _ _ hl)⟩, ?_⟩
    refine for_enumL (K := K) (a := l) (xs := xs) (QdI H l p many X ts) (.mk s1 e1 ⟨List.nodup_nil, fun x h => nomatch h⟩ (Nat.zero_le _) fun m => by show (0 : Rat) + _ = _; rw [List.drop_zero]; grind) (fun i σ H2 _ h => ?_) (fun i y q σ H2 hy hq h => ?_) (fun σ H2 h => ?_)
    · obtain ⟨s2, _, _, _, _⟩ := h
      exact SqL.of (s2 _ _ hl)
    · obtain ⟨s2, e2, tb, ln, c⟩ := h
      rename_i T0
      obtain ⟨x, hx, ⟨r, b, rfl, hr1, hb⟩⟩ := Paired.at hp hy
      have hi : i < ts.length := (List.getElem?_eq_some_iff.mp hx).1
      have s3 : Same H2 (upd H2 q (.tup [.int i, .ref r])) := same_upd _ hq
      generalize hH3 : upd H2 q (.tup [.int i, .ref r]) = H3 at s3
      have e3 : H3 q = some (.tup [.int i, .ref r]) := hH3 ▸ upd_same
      have s03 := s2.trans s3
      refine ⟨q, _, rfl, SqT.of e3, rfl, _, _, rfl, _, _, rfl, ⟨r, _, rfl, SqT.of (s03 _ _ hr1), rfl, _, _, rfl, _, _, rfl, rfl, rfl, ?_⟩⟩
      refine ⟨_, rfl, _, rfl, (i : Int), rfl, l, _, rfl, SqL.of (s03 _ _ hl), fun a2 H4 n4 s4 e4 => ⟨a2, rfl, ⟨_, SqL.of e4⟩, ?_⟩⟩
      rw [cut_from xs i (by omega)] at e4
      have ed : ts.drop i = x :: ts.drop (i + 1) := by
        obtain ⟨h1, h2⟩ := List.getElem?_eq_some_iff.mp hx
        rw [List.drop_eq_getElem_cons h1, h2]
      have s04 := s03.trans s4
      have ap : a2 ≠ p := fun z => by rw [z, s3 _ _ e2] at n4; cases n4
      have pd : Paired (TopV H4) (xs.drop i) (x :: ts.drop (i + 1)) := by
        rw [← ed]
        exact Paired.drop i (Paired.to (fun _ _ h => h.kp (Kp.of s04)) hp)
      have ex := each x (List.mem_of_getElem? hx)
      have ll : (ts.drop (i + 1)).length = ts.length - (i + 1) := List.length_drop ..
      have l9 : i * ts.length + ts.length ≤ 900 := by
        rw [← Nat.succ_mul]
        exact Nat.mul_le_mul (Nat.le_trans hi h30) h30
      refine for_enumL (K := K) (a := a2) (xs := xs.drop i) (QdJ H l p b a2 (xs.drop i) many X (i * ts.length) i x (x :: ts.drop (i + 1)) T0) (.mk s04 e4 (s04 _ _ hb) pd (s4 _ _ (s3 _ _ e2)) tb ln fun m => by show _ = _ + (0 : Rat); grind) (fun j σ H5 _ h => ?_) (fun j y5 q5 σ H5 hy5 hq5 h => ?_) (fun σ H5 h => ?_)
      · obtain ⟨_, es, _, _, _, _, _, _⟩ := h
        exact SqL.of es
      · obtain ⟨s5, es5, kb5, pr5, e5, tb5, ln5, c5⟩ := h
        rename_i T5
        obtain ⟨x5, hx5, ⟨r5, b5, rfl, hr5, hb5⟩⟩ := Paired.at pr5 hy5
        have s6 : Same H5 (upd H5 q5 (.tup [.int j, .ref r5])) := same_upd _ hq5
        generalize hH6 : upd H5 q5 (.tup [.int j, .ref r5]) = H6 at s6
        have e6 : H6 q5 = some (.tup [.int j, .ref r5]) := hH6 ▸ upd_same
        have x5m : x5 ∈ ts := by
          have : x5 ∈ ts.drop i := by rw [ed]; exact List.mem_of_getElem? hx5
          exact List.mem_of_mem_drop this
        have ex5 := each x5 x5m
        have hj : j < ts.length - i := by
          have := (List.getElem?_eq_some_iff.mp hx5).1
          rw [List.length_cons, ll] at this
          omega
        refine ⟨q5, _, rfl, SqT.of e6, rfl, _, _, rfl, _, _, rfl, ⟨r5, _, rfl, SqT.of (s6 _ _ hr5), rfl, _, _, rfl, _, _, rfl, rfl, rfl, ?_⟩⟩
        dsimp only [gName, tSeq, tAsg]
        refine dBoth (a := b) (b := b5) (as := x.1) (bs := x5.1) rfl rfl (s6 _ _ kb5) (s6 _ _ hb5) (by rw [ex5.1, ex.1]) (by rw [ex5.1]; exact m4) fun kb H7 n7 s7 e7 => ?_
        have s57 := s6.trans s7
        have bx : ∀ {a : Int}, a.natAbs ≤ 2 ^ X → a.natAbs < 2 ^ 100000 := fun h => bot_fit h (by omega)
        have sh : ((if j = 0 then x.2 * x5.2 else 2 * x.2 * x5.2) : Int).natAbs ≤ 2 ^ (2 * X + 1 + (i * ts.length + j)) := by
          have h1 : (x.2 * x5.2).natAbs ≤ 2 ^ (2 * X) := by
            rw [Int.natAbs_mul, Nat.two_mul, Nat.pow_add]
            exact Nat.mul_le_mul ex.2.2.2 ex5.2.2.2
          have h2 : (2 * x.2 * x5.2).natAbs ≤ 2 ^ (2 * X + 1) := by
            rw [Int.mul_assoc, Int.natAbs_mul, Nat.pow_succ]
            show 2 * _ ≤ _
            omega
          split
          · exact Nat.le_trans h1 (Nat.pow_le_pow_right (by decide) (by omega))
          · exact Nat.le_trans h2 (Nat.pow_le_pow_right (by decide) (by omega))
        have pw : LwD.PwS many (padd x.1 x5.1) := ⟨by unfold padd; rw [List.length_zipWith, ex.1, ex5.1]; omega, padd_nn ex.2.1 ex5.2.1, by rw [padd_sum (by rw [ex.1, ex5.1])]; have := ex.2.2.1; have := ex5.2.2.1; omega⟩
        obtain ⟨old, T', g1, g2, g3, g4, g5⟩ := tb_put tb5 pw sh
        have fin : ∀ u5 u6 u7 u8 : Option V, QdJ H l p b a2 (xs.drop i) many X (i * ts.length) i x (x :: ts.drop (i + 1)) T0 (j + 1) [some (.ref l), some (.ref p), some (.int i), some (.ref b), some (.int x.2), u5, u6, u7, u8, some (.int (if j = 0 then x.2 * x5.2 else 2 * x.2 * x5.2))] (upd H7 p (.dT (putK (T5.map kvI) (LwD.ik (padd x.1 x5.1)) (.int (old + if j = 0 then x.2 * x5.2 else 2 * x.2 * x5.2))))) := fun u5 u6 u7 u8 => by
          have k7 : Kp H5 (upd H7 p (.dT (putK (T5.map kvI) (LwD.ik (padd x.1 x5.1)) (.int (old + if j = 0 then x.2 * x5.2 else 2 * x.2 * x5.2))))) := (Kp.of s57).trans (Kp.upd (s57 _ _ e5) trivial)
          refine .mk (put_same (s5.trans s57) np) (by rw [upd_ne ap]; exact s57 _ _ es5) (k7.tup _ _ kb5) (Paired.to (fun _ _ h => h.kp k7) pr5) (by rw [upd_same, g2]) g3 (by omega) fun m => ?_
          rw [g5, c5, List.take_add_one, rowH_at hx5, tc_app, cf_app]
          show _ = cf (tc T0) m + (_ + ((if padd x.1 x5.1 = m then (((if j = 0 then x.2 * x5.2 else 2 * x.2 * x5.2) : Int) : Rat) else 0) + 0))
          grind
        have put : ∀ (σ : L2.St) (v : V), σ[1]? = some (some (.ref p)) → σ[8]? = some (some (.ref kb)) → σ[9]? = some (some (.int (if j = 0 then x.2 * x5.2 else 2 * x.2 * x5.2))) → ∀ D : Ends, (D.nx σ (upd H7 p (.dT (putK (T5.map kvI) (LwD.ik (padd x.1 x5.1)) (.int (old + if j = 0 then x.2 * x5.2 else 2 * x.2 * x5.2)))))) → sDPut (tVar 1) (tVar 8) (tOp (rI0 fun i j => V.int (i + j)) (tDGet2 (tVar 1) (tVar 8) (tC (.int 0))) (tVar 9)) D σ H7 := fun σ v q1 q2 q3 D hD => by
          have hk : H7 kb = some (.tup ((LwD.ik (padd x.1 x5.1)).map kV)) := by rw [LwD.ik_map]; exact e7
          refine ⟨_, q1, p, rfl, .inr ⟨_, .inl (s57 _ _ e5)⟩, _, q2, _, DGet.t (s57 _ _ e5) hk, _, q3, old, _, g1, rfl, _, q1, _, q2, p, _, rfl, DPut.t (s57 _ _ e5) hk ?_, hD⟩
          rw [List.length_map]
          exact Nat.lt_of_le_of_lt (show _ ≤ 900 by omega) (by decide)
        refine ⟨_, rfl, rfl, _, rfl, ?_⟩
        rw [dec_ints]
        by_cases j0 : j = 0
        · refine iteP (decide_eq_true (by omega)) ⟨_, rfl, _, rfl, _, _, rfl, rfl, ⟨bx ex.2.2.2, bx ex5.2.2.2⟩, ?_⟩
          dsimp only
          rw [show (x.2 * x5.2 : Int) = if j = 0 then x.2 * x5.2 else 2 * x.2 * x5.2 from (if_pos j0).symm]
          exact put _ .non rfl rfl rfl _ (fin _ _ _ _)
        · have b2 : (2 * x.2).natAbs < 2 ^ 100000 := by
            rw [Int.natAbs_mul]
            have : 2 * x.2.natAbs ≤ 2 ^ (X + 1) := by rw [Nat.pow_succ]; have := ex.2.2.2; omega
            exact Nat.lt_of_le_of_lt this (Nat.pow_lt_pow_right (by decide) (by omega))
          refine iteN (decide_eq_false (by omega)) ⟨_, rfl, _, _, rfl, rfl, ⟨by show 2 < _; exact Nat.lt_of_lt_of_le (show 2 < 2 ^ 2 by decide) (Nat.pow_le_pow_right (by decide) (by decide)), bx ex.2.2.2⟩, _, rfl, _, _, rfl, rfl, ⟨b2, bx ex5.2.2.2⟩, ?_⟩
          dsimp only
          rw [show (2 * x.2 * x5.2 : Int) = if j = 0 then x.2 * x5.2 else 2 * x.2 * x5.2 from (if_neg j0).symm]
          exact put _ .non rfl rfl rfl _ (fin _ _ _ _)
      · obtain ⟨s5, es5, kb5, pr5, e5, tb5, ln5, c5⟩ := h
        have el : (xs.drop i).length = (x :: ts.drop (i + 1)).length := Paired.length pd
        have el2 : (xs.drop i).length ≤ ts.length := by rw [List.length_drop]; omega
        refine .mk s5 e5 (tb5.up (by rw [Nat.succ_mul i]; omega)) (Nat.le_trans ln5 (by rw [Nat.succ_mul i]; omega)) fun m => ?_
        rw [c5, el, ← rowH_len, List.take_length, ← c m, ed, hs_row, cf_app]
        grind
    · obtain ⟨s2, e2, tb, ln, c⟩ := h
      have l9 : ts.length * ts.length ≤ 900 := Nat.mul_le_mul h30 h30
      rw [lx] at tb ln c
      refine ⟨_, rfl, go p _ H2 np s2 e2 (tb.up (by omega)) (by omega) fun m => ?_⟩
      rw [← c m, List.drop_length]
      show _ = _ + (0 : Rat)
      grind
end
end Lw

namespace LwV
theorem row_scale (c : Rat) (x : List Int × Rat) (m : List Int) : ∀ L : Pl, cf ((L.map fun y => (y.1, c * y.2)).map fun y => (padd x.1 y.1, 2 * (c * x.2) * y.2)) m = c * c * cf (L.map fun y => (padd x.1 y.1, 2 * x.2 * y.2)) m
  | [] => by show (0 : Rat) = c * c * 0; grind
  | y :: L => by
    simp only [List.map_cons, cf_cons]
    rw [row_scale c x m L]
    split <;> grind
theorem hs_scale (c : Rat) (m : List Int) : ∀ P : Pl, cf (hs (P.map fun x => (x.1, c * x.2))) m = c * c * cf (hs P) m
  | [] => by show (0 : Rat) = c * c * 0; grind
  | x :: L => by
    show cf ((padd x.1 x.1, c * x.2 * (c * x.2)) :: (((L.map fun y => (y.1, c * y.2)).map fun y => (padd x.1 y.1, 2 * (c * x.2) * y.2)) ++ hs (L.map fun x => (x.1, c * x.2)))) m = c * c * cf ((padd x.1 x.1, x.2 * x.2) :: ((L.map fun y => (padd x.1 y.1, 2 * x.2 * y.2)) ++ hs L)) m
    rw [cf_cons, cf_cons, cf_app, cf_app, row_scale, hs_scale c m L]
    split <;> grind
end LwV
namespace Lw
open PySem PySem.Spec PyProof.Rows L2 LwQ LwV
theorem keep3 {x y v : Option V} {r : L2.St} : Keep (none :: none :: none :: r) (x :: y :: v :: r) := fun i v h => by
  match i, h with
  | 0, h => cases h
  | 1, h => cases h
  | 2, h => cases h
  | _ + 3, h => exact h
theorem sub_of {cl cells : List (Str × Addr)} (h : ∀ y ∈ cl, cells.lookup y.1 = some y.2) : ∀ x c, cl.lookup x = some c → cells.lookup x = some c := fun x c e => h (x, c) (PySem.mem_of_lookup e)
theorem dcomp_items {d : Addr} {o : Obj} {T : Tb} {ks : List V} {σ0 : L2.St} {g : TG} {tk tv : TE} {Q : VK} {p : Addr} {H' H0 : Hp} (hks : LwD.Keyed H0 ks (T.map kvI)) (F : Int → Int) (nd : (T.map (·.1)).Nodup) (hz : T.length ≤ 1000) (n0 : H0 p = none) (s0 : Same H0 H') (e0 : H' p = some (.dT [])) (fr : H0 d = some (.frz o (.dT (T.map kvI))))
    (hs : ∀ x (b q : Addr) H2 (R : V → V → Hp → Prop), x ∈ T → Same H0 H2 → H2 q = some (.tup [.ref b, .int x.2]) → R (.ref b) (.int (F x.2)) H2 → g (.ref q) σ0 H2 fun σ4 H4 => Keep σ0 σ4 ∧ tk σ4 H4 fun y H5 => tv σ4 H5 fun v H6 => R y v H6)
    (hd : ∀ H2, Same H0 H2 → H2 p = some (.dT ((T.map fun x => (x.1, F x.2)).map kvI)) → Q (.ref p) H2) : DCompGoF σ0 (LwD.Iti d o (T.map kvI) ks) g tk tv Q p H' := by
  refine ⟨fun i m kvs H2 => m = T.length - i ∧ i ≤ T.length ∧ Same H0 H2 ∧ kvs = ((T.take i).map fun x => (x.1, F x.2)).map kvI ∧ H2 p = some (.dT kvs), ⟨_, rfl, Nat.zero_le _, s0, rfl, e0⟩, ?_⟩
  rintro i m kvs H2 ⟨hm, hi, s2, ek, e2⟩
  refine ⟨e2, ?_, ?_⟩
  · rw [ek, List.length_map, List.length_map, List.length_take]
    exact Nat.lt_of_le_of_lt (show _ ≤ 1000 by omega) (by decide)
  by_cases hlt : i < T.length
  · refine .inr ⟨⟨s2 _ _ fr, by rw [List.length_map]; exact hlt⟩, ?_⟩
    rintro _ _ ⟨q, k, v, hq, rfl, rfl, hk, hv⟩
    rw [List.getElem?_map] at hv
    obtain ⟨x, hx, rfl⟩ := Option.map_eq_some_iff.mp hv
    obtain ⟨b, ns, rfl, hb, hns⟩ := hks.2 i k (kvI x) hk (by rw [List.getElem?_map, hx]; rfl)
    have ens : x.1 = ns := ik_inj hns
    subst ens
    have s3 : Same H2 (upd H2 q (.tup [.ref b, .int x.2])) := same_upd _ hq
    refine hs x b q _ _ (List.mem_of_getElem? hx) (s2.trans s3) upd_same ?_
    refine ⟨b, LwD.ik x.1, rfl, by rw [LwD.ik_map]; exact s3 _ _ (s2 _ _ hb), s3 _ _ e2, _, ?_, rfl, hlt, put_same (s2.trans s3) n0, ?_, upd_same⟩
    · omega
    · rw [ek, put_out (keyI_ne ?_), List.take_add_one, hx, List.map_append, List.map_append]
      · rfl
      · rw [List.map_map]
        intro hin
        have hin' : x.1 ∈ (T.take i).map (·.1) := by
          obtain ⟨y, hy, ey⟩ := List.mem_map.mp hin
          exact List.mem_map.mpr ⟨y, hy, ey⟩
        rw [List.map_take] at hin'
        obtain ⟨j, hj⟩ := List.mem_iff_getElem?.mp hin'
        have hji : j < i := by
          have := (List.getElem?_eq_some_iff.mp hj).1
          rw [List.length_take] at this
          omega
        rw [List.getElem?_take_of_lt hji] at hj
        have g2 : (T.map (·.1))[i]? = some x.1 := by rw [List.getElem?_map, hx]; rfl
        have := (List.getElem?_inj (by rw [List.length_map]; omega) nd).mp (hj.trans g2.symm)
        omega
  · have ei : i = T.length := by omega
    subst ei
    rw [List.take_length] at ek
    exact .inl ⟨⟨s2 _ _ fr, by rw [List.length_map]⟩, hd H2 s2 (ek ▸ e2)⟩
noncomputable def spWSq (K : PySem.W.Frag) : Sp := fun vs H Q _ => ∃ (wa p : Addr) (many kw : Nat) (z : Sz) (ts : List Trm) (wt wb : Int), vs = [.ref wa, .ref p] ∧ At2 H wa wt wb ∧ 0 < wb ∧ wb.natAbs ≤ 2 ^ kw ∧ wt.natAbs ≤ 2 ^ 1000 ∧ Poly H p many z ts ∧ many ≤ 4 ∧ z.D ≤ 4 ∧ z.n ≤ 30 ∧ z.S ≤ 2000 ∧ z.v ≤ 2000 ∧ kw ≤ 1000 ∧
  ∀ (r a : Addr) (o : Obj) (U : Int) (T : Tb) (H' : Hp), H r = none → Same H H' → H' r = some (.tup [.int U, .ref a]) → H' a = some (.frz o (.dT (T.map kvI))) → 0 < U → U.natAbs ≤ 2 ^ (kw + 2 * z.S) → TB many 20000 T → T.length ≤ 900 → (∀ m, cf (tc T) m / (U : Rat) = (wt : Rat) / (wb : Rat) * cf (hs (tl ts)) m) → Q (.ref r) H'
theorem Poly.bots {H : Hp} {p : Addr} {many : Nat} {z : Sz} {ts : List Trm} (h : Poly H p many z ts) : (∀ n ∈ ts.map Trm.b, 0 < n) ∧ (prd (ts.map Trm.b)).natAbs ≤ 2 ^ z.S := by
  refine ⟨fun n hn => ?_, Nat.le_trans (prd_bits (ks := ts.map Trm.k) (by simp) fun i n k h1 h2 => ?_) (Nat.pow_le_pow_right (by decide) h.sum)⟩
  · obtain ⟨x, hx, rfl⟩ := List.mem_map.mp hn
    exact (h.each x hx).pos
  · rw [List.getElem?_map] at h1 h2
    obtain ⟨x, hx, rfl⟩ := Option.map_eq_some_iff.mp h1
    rw [hx] at h2
    cases h2
    have := h.each x (List.mem_of_getElem? hx)
    exact ⟨this.pos, this.sb⟩
section
variable {P : Program} {w : World} {K : PySem.W.Frag} {mg : Str → Option Value} {base : Heap} {f fd : _}
theorem scWSq : FnScope ["weight", "one", "bottom", "terms", "table"] ["weight", "one"] (defScope sWSq) := ⟨rfl, rfl, rfl, by decide +kernel, rfl, by decide +kernel, by decide +kernel⟩
theorem ok_wsq {fA fS : Addr} {fdA fdS : FuncData} (F : Fun K "weighted_square" "weighted_square" sWSq f fd) (T : Txt mg) (DA : Df K mg "all_multiple" sAllM ["numbers"] fA fdA) (GA : FnOk P w K mg base CX0 5 fA fdA ["numbers"] (spAllM K)) (DS : Df K mg "squared" sSqd ["terms"] fS fdS) (GS : FnOk P w K mg base CX0 1 fS fdS ["terms"] spSqd) : FnOk P w K mg base CX0 6 f fd ["weight", "one"] (spWSq K) := by
  refine F.ok scWSq (fun vs H Q E h => ?_) (fun cdv A outer s H vs Q E hr h => ?_)
  · obtain ⟨wa, p, many, kw, z, ts, wt, wb, rfl, _⟩ := h
    rfl
  · obtain ⟨wa, p, many, kw, z, ts, wt, wb, rfl, hw, pw, sw, tw, hp, m4, zD, zn, zS, zv, kw1, go⟩ := h
    have hr1 : Room 1 _ := hr.mono (by decide)
    have hu0 : _ < cLine := hr.units0
    refine ⟨_, pss_cons (ps_set (i := 2) scWSq.nd rfl (Or.inr rfl) (pe_call GA hr rfl DA.m DA.F.kp DA.b .nil pass0 (pa_cons
        (pe_compF (own := 3) (idx := []) (N := ["powers", "over", "under"]) rfl rfl rfl (by decide +kernel) (by decide +kernel) (fun _ _ h => nomatch h) (has_of rfl) rfl (fun _ _ _ h => nomatch h) (pi_tup (pe_ix ix_tup (pv 1) pe_int (fun _ _ => rfl)))
          (fun C fp s2 H2 => show PG (cxCompF _ ["powers", "over", "under"] _ _ C fp s2 H2) _ (gTup K 2 (gCons (gName 0) (gCons (gTup K 2 (gCons (gName 1) (gCons (gName 2) gNil))) gNil))) from pg_tup (X := cxCompF _ ["powers", "over", "under"] _ _ C fp s2 H2) rfl (pgs_cons (pg_name (i := 0) (show List.Nodup (["powers", "over", "under"] : List Str) by decide +kernel) rfl (Or.inl rfl) (Or.inr rfl)) (pgs_cons (pg_tup (X := cxCompF _ ["powers", "over", "under"] _ _ C fp s2 H2) rfl (pgs_cons (pg_name (i := 1) (show List.Nodup (["powers", "over", "under"] : List Str) by decide +kernel) rfl (Or.inl rfl) (Or.inr rfl)) (pgs_cons (pg_name (i := 2) (show List.Nodup (["powers", "over", "under"] : List Str) by decide +kernel) rfl (Or.inl rfl) (Or.inr rfl)) pgs_nil))) pgs_nil)))
          (fun C fp s2 H2 => pv 2)) pa_nil)))
      (pss_cons (ps_setComp (i := 3) scWSq.nd rfl (Or.inl rfl) (own := 3) (idx := [2]) (N := ["powers", "over", "under", "bottom"]) rfl rfl rfl (by decide +kernel) (by decide +kernel) (sub_of fun y hy => by cases hy with | head => rfl | tail _ h => cases h) (has_of rfl) rfl (one_idx rfl ⟨rfl, rfl, rfl, rfl⟩) (pi_tup (pe_ix ix_tup (pv 1) pe_int (fun _ _ => rfl)))
          (fun C fp s2 H2 => show PG (cxCompF _ ["powers", "over", "under", "bottom"] _ _ C fp s2 H2) _ (gTup K 2 (gCons (gName 0) (gCons (gTup K 2 (gCons (gName 1) (gCons (gName 2) gNil))) gNil))) from pg_tup (X := cxCompF _ ["powers", "over", "under", "bottom"] _ _ C fp s2 H2) rfl (pgs_cons (pg_name (i := 0) (show List.Nodup (["powers", "over", "under", "bottom"] : List Str) by decide +kernel) rfl (Or.inl rfl) (Or.inr rfl)) (pgs_cons (pg_tup (X := cxCompF _ ["powers", "over", "under", "bottom"] _ _ C fp s2 H2) rfl (pgs_cons (pg_name (i := 1) (show List.Nodup (["powers", "over", "under", "bottom"] : List Str) by decide +kernel) rfl (Or.inl rfl) (Or.inr rfl)) (pgs_cons (pg_name (i := 2) (show List.Nodup (["powers", "over", "under", "bottom"] : List Str) by decide +kernel) rfl (Or.inl rfl) (Or.inr rfl)) pgs_nil))) pgs_nil)))
          (fun C fp s2 H2 => pe_tupF (pa_cons (pv 0) (pa_cons (pe_op op_mulL (pv 1) (pe_op op_fdivL (pv 3) (pv 2))) pa_nil))))
      (pss_cons (ps_setDComp (i := 4) scWSq.nd rfl (Or.inl rfl) (own := 2) (idx := [0]) (N := ["powers", "top", "weight"]) hu0 rfl rfl rfl (by decide +kernel) (by decide +kernel) (sub_of fun y hy => by cases hy with | head => rfl | tail _ h => cases h) (has_of rfl) rfl (one_idx rfl ⟨rfl, rfl, rfl, rfl⟩) (LwD.pi_items (LwD.pe_frz (pe_call GS hr1 rfl DS.m DS.F.kp DS.b .nil pass0 (pa_cons (pv 3) pa_nil))))
          (fun C fp s2 H2 => show PG (cxCompF _ ["powers", "top", "weight"] _ _ C fp s2 H2) _ (gTup K 2 (gCons (gName 0) (gCons (gName 1) gNil))) from pg_tup (X := cxCompF _ ["powers", "top", "weight"] _ _ C fp s2 H2) rfl (pgs_cons (pg_name (i := 0) (show List.Nodup (["powers", "top", "weight"] : List Str) by decide +kernel) rfl (Or.inl rfl) (Or.inr rfl)) (pgs_cons (pg_name (i := 1) (show List.Nodup (["powers", "top", "weight"] : List Str) by decide +kernel) rfl (Or.inl rfl) (Or.inr rfl)) pgs_nil)))
          (fun C fp s2 H2 => pv 0)
          (fun C fp s2 H2 => pe_op op_mulL (pe_ix (show IxR (cxCompF _ ["powers", "top", "weight"] _ _ C fp s2 H2) (rIxT K) from ix_tup) (pv 2) pe_int (fun _ _ => rfl)) (pv 1)))
      (pss_one (ps_ret (pe_tupF (pa_cons (pe_op op_mulL (pe_op op_mulL (pe_ix ix_tup (pv 0) pe_int (fun _ _ => rfl)) (pv 2)) (pv 2)) (pa_cons (LwD.pe_frz (pv 4)) pa_nil))))))), ?_⟩
    try dsimp only [cxK]
    obtain ⟨q, oq, xs, e1, e2, e3, e4⟩ := hp.ex
    have lx := Paired.length e4
    have l30 : ts.length ≤ 30 := Nat.le_trans hp.few zn
    have l30x : xs.length < sizeLine := Nat.lt_of_le_of_lt (show xs.length ≤ 30 by omega) (by decide)
    obtain ⟨bp, bs⟩ := hp.bots
    -- the bottoms
    refine rvT rfl (SqT.of e1) rfl ⟨q, rfl, ⟨xs, .inl (.inr ⟨oq, e2⟩)⟩, fun l H1 n1 s1 h1 => ?_⟩
    refine comp_tupF (K := K) (a := q) (xs := xs) (CmI (fun i => ((ts.take i).map Trm.b).map V.int) l H) l30x ⟨s1, h1, rfl⟩ (fun i ys H2 h => ⟨.inl (.inr ⟨oq, h.s _ _ e2⟩), h.e⟩) ?_ ?_
    · rintro i m ys x H2 hx hm hy ⟨s2, h2, ey⟩
      obtain ⟨y, hy', ⟨r, b, c, rfl, t1, t2, t3⟩⟩ := Paired.at e4 hx
      refine ⟨r, _, rfl, SqT.of (s2 _ _ t1), rfl, _, _, rfl, _, _, rfl, ⟨c, _, rfl, SqT.of (s2 _ _ t3), rfl, _, _, rfl, _, _, rfl, rfl, rfl, keep3, _, rfl, ?_⟩⟩
      refine comp_next hx hm hy h2 ⟨put_same s2 n1, upd_same, ?_⟩
      rw [ey, List.take_add_one, hy', List.map_append, List.map_append]
      rfl
    rintro ys H2 hy ⟨s2, h2, ey⟩
    rw [lx, List.take_length] at ey
    refine ⟨l, ts.map Trm.b, rfl, ey ▸ h2, bp, Nat.lt_of_le_of_lt bs (Nat.pow_lt_pow_right (by decide) (by omega)), fun L H3 s3 pL dL lL => ?_⟩
    have s03 := s2.trans s3
    have Lb : L.natAbs ≤ 2 ^ z.S := Nat.le_trans (by omega) bs
    clear n1 s1 h1 hy
    -- the terms
    refine rvT rfl (SqT.of (s03 _ _ e1)) rfl ⟨q, rfl, ⟨xs, .inl (.inr ⟨oq, s03 _ _ e2⟩)⟩, fun l4 H4 n4 s4 h4 => ?_⟩
    refine comp_tupF (K := K) (a := q) (xs := xs) (fun i ys H5 => Same H3 H5 ∧ H5 l4 = some (.lst ys) ∧ Paired (TopV H5) ys ((ts.take i).map fun x => (x.ns, x.t * (L / x.b)))) l30x ⟨s4, h4, .nil⟩ (fun i ys H5 h => ⟨.inl (.inr ⟨oq, h.1 _ _ (s03 _ _ e2)⟩), h.2.1⟩) ?_ ?_
    · rintro i m ys x H5 hx hm hy ⟨s5, h5, ey⟩
      obtain ⟨y, hy', ⟨r, b, c, rfl, t1, t2, t3⟩⟩ := Paired.at e4 hx
      have s05 := s03.trans s5
      have ok := hp.each y (List.mem_of_getElem? hy')
      have ky : y.k ≤ z.S := Nat.le_trans (mem_le (List.mem_map_of_mem (List.mem_of_getElem? hy'))) hp.sum
      refine ⟨r, _, rfl, SqT.of (s05 _ _ t1), rfl, _, _, rfl, _, _, rfl, ⟨c, _, rfl, SqT.of (s05 _ _ t3), rfl, _, _, rfl, _, _, rfl, rfl, rfl, keep3, ?_⟩⟩
      refine ⟨_, rfl, _, rfl, _, rfl, _, rfl, _, _, rfl, rfl, ⟨ok.pos, bot_fit ok.sb (by omega)⟩, _, _, rfl, rfl, ⟨abs_up (top_fit ok.st ok.sb (by omega)) (by decide), abs_div (bot_fit Lb (by omega)) ok.pos⟩, (by show 2 ≤ sizeLine; decide), fun r6 H6 n6 s6 e6 => ?_⟩
      have k6 : Kp H5 (upd H6 l4 (.lst (ys ++ [.ref r6]))) := (Kp.of s6).trans (Kp.upd (s6 _ _ h5) trivial)
      refine comp_next hx hm hy (s6 _ _ h5) ⟨put_same (s5.trans s6) n4, upd_same, ?_⟩
      rw [List.take_add_one, hy', List.map_append]
      refine Paired.app (Paired.to (fun _ _ h => h.kp k6) ey) (.cons ⟨r6, b, rfl, (Kp.upd (s6 _ _ h5) trivial).tup _ _ e6, k6.tup _ _ (s05 _ _ t2)⟩ .nil)
    rintro ys5 H5 hy5 ⟨s5, h5, py5⟩
    rw [lx, List.take_length] at py5
    clear n4 s4 h4 hy5 ey h2
    have s05 := s03.trans s5
    -- their square
    have each : ∀ x ∈ (ts.map fun x => (x.ns, x.t * (L / x.b)) : Tb), x.1.length = many ∧ (∀ n ∈ x.1, 0 ≤ n) ∧ x.1.sum ≤ 4 ∧ x.2.natAbs ≤ 2 ^ (z.v + z.S) := fun x hx => by
      obtain ⟨y, hy, rfl⟩ := List.mem_map.mp hx
      have ok := hp.each y hy
      refine ⟨ok.len, ok.nn, by have := ok.deg; show y.ns.sum ≤ 4; omega, ?_⟩
      have e : L / y.b * y.b = L := Int.ediv_mul_cancel (dL y.b (List.mem_map_of_mem hy))
      have e' : (L / y.b).natAbs * y.b.natAbs = L.natAbs := by rw [← Int.natAbs_mul, e]
      show (y.t * (L / y.b)).natAbs ≤ _
      rw [Int.natAbs_mul, Nat.pow_add]
      calc y.t.natAbs * (L / y.b).natAbs ≤ 2 ^ z.v * y.b.natAbs * (L / y.b).natAbs := Nat.mul_le_mul_right _ ok.st
        _ = 2 ^ z.v * L.natAbs := by rw [Nat.mul_assoc, Nat.mul_comm y.b.natAbs, e']
        _ ≤ 2 ^ z.v * 2 ^ z.S := Nat.mul_le_mul_left _ Lb
    refine ⟨_, rfl, l4, many, z.v + z.S, _, _, rfl, h5, py5, each, by rw [List.length_map]; exact l30, by omega, m4, fun d T H6 n6 s6 e6 tb tl9 cT => ?_⟩
    refine ⟨d, _, rfl, e6, fun o7 => ?_⟩
    have s7 : Same H5 (upd H6 d (.frz o7 (.dT (T.map kvI)))) := put_same s6 n6
    generalize hH7 : upd H6 d (.frz o7 (.dT (T.map kvI))) = H7 at s7
    have e7 : H7 d = some (.frz o7 (.dT (T.map kvI))) := hH7 ▸ upd_same
    refine ⟨d, o7, _, rfl, e7, fun p hp => by obtain ⟨x, _, rfl⟩ := List.mem_map.mp hp; exact ⟨x.1, rfl⟩, fun ks hks p8 H8 n8 s8 e8 => ?_⟩
    have s07 := s05.trans s7
    refine dcomp_items hks (fun t => wt * t) tb.nd (by omega) n8 s8 e8 e7 (fun x b q2 H9 R hx s9 hq2 hR => ?_) fun H9 s9 e9 => ?_
    · refine ⟨q2, _, rfl, SqT.of hq2, rfl, _, _, rfl, _, _, rfl, rfl, keep2, _, rfl, ?_⟩
      refine rvT rfl (SqT.of (s9 _ _ (s07 _ _ hw))) rfl ⟨_, rfl, _, _, rfl, rfl, ⟨bot_fit tw (by decide), bot_fit (tb.each x hx).2 (by omega)⟩, hR⟩
    · have s09 := s07.trans s9
      have L1 : L.natAbs < 2 ^ 100000 := bot_fit Lb (by omega)
      have wL : (wb * L).natAbs ≤ 2 ^ (kw + z.S) := by rw [Int.natAbs_mul, Nat.pow_add]; exact Nat.mul_le_mul sw Lb
      refine rvT rfl (SqT.of (s09 _ _ hw)) rfl ⟨_, rfl, _, _, rfl, rfl, ⟨bot_fit sw (by omega), L1⟩, _, rfl, _, _, rfl, rfl, ⟨bot_fit wL (by omega), L1⟩, _, rfl, p8, _, rfl, e9, fun o10 => ⟨(by show 2 ≤ sizeLine; decide), fun r H11 n11 s11 e11 => ?_⟩⟩
      have s10 : Same H7 (upd H9 p8 (.frz o10 (.dT ((T.map fun x => (x.1, wt * x.2)).map kvI)))) := put_same s9 n8
      have s010 := (s07.trans s10)
      have TBm : (T.map fun x => (x.1, wt * x.2)).map (·.1) = T.map (·.1) := by rw [List.map_map]; rfl
      refine go r p8 o10 (wb * L * L) (T.map fun x => (x.1, wt * x.2)) H11 (s010.free n11) (s010.trans s11) e11 (s11 _ _ upd_same) (Int.mul_pos (Int.mul_pos pw pL) pL) ?_ ⟨by rw [TBm]; exact tb.nd, fun x hx => ?_⟩ (by rw [List.length_map]; exact tl9) fun m => ?_
      · rw [Int.natAbs_mul, show kw + 2 * z.S = kw + z.S + z.S by omega, Nat.pow_add 2 (kw + z.S)]
        exact Nat.mul_le_mul wL Lb
      · obtain ⟨y, hy, rfl⟩ := List.mem_map.mp hx
        refine ⟨(tb.each y hy).1, ?_⟩
        show (wt * y.2).natAbs ≤ _
        rw [Int.natAbs_mul]
        refine Nat.le_trans (Nat.mul_le_mul tw (tb.each y hy).2) ?_
        rw [← Nat.pow_add]
        exact Nat.pow_le_pow_right (by decide) (by omega)
      · have q1 : tc (T.map fun x => (x.1, wt * x.2)) = (tc T).map fun x => (x.1, (wt : Rat) * x.2) := by
          unfold tc
          rw [List.map_map, List.map_map]
          refine List.map_congr_left fun x _ => ?_
          show (x.1, ((wt * x.2 : Int) : Rat)) = (x.1, (wt : Rat) * (x.2 : Rat))
          rw [Rat.intCast_mul]
        have q2 : tc (ts.map fun x => (x.ns, x.t * (L / x.b))) = (tl ts).map fun x => (x.1, (L : Rat) * x.2) := by
          unfold tc tl
          rw [List.map_map, List.map_map]
          refine List.map_congr_left fun x hx => ?_
          show (x.ns, ((x.t * (L / x.b) : Int) : Rat)) = (x.ns, (L : Rat) * ((x.t : Rat) / (x.b : Rat)))
          congr 1
          have ok := hp.each x hx
          have e : L / x.b * x.b = L := Int.ediv_mul_cancel (dL x.b (List.mem_map_of_mem hx))
          have e' : ((L / x.b : Int) : Rat) * (x.b : Rat) = (L : Rat) := by rw [← Rat.intCast_mul, e]
          have h2 : (x.b : Rat) ≠ 0 := by simpa using (show x.b ≠ 0 by have := ok.pos; omega)
          rw [Rat.intCast_mul, ← e']
          generalize ((L / x.b : Int) : Rat) = y at *
          grind
        have L0 : (L : Rat) ≠ 0 := by simpa using (show L ≠ 0 by omega)
        have W0 : (wb : Rat) ≠ 0 := by simpa using (show wb ≠ 0 by omega)
        rw [q1, cf_map, cT, q2, hs_scale, Rat.intCast_mul, Rat.intCast_mul]
        generalize cf (hs (tl ts)) m = C
        grind
end
end Lw

namespace Lw
open PySem PySem.Spec PyProof.Rows L2 LwQ LwV
theorem Poly.ents {H : Hp} {p : Addr} {many : Nat} {z : Sz} {ts : List Trm} (h : Poly H p many z ts) : ∃ (q : Addr) (o : Obj) (xs : List V) (E : List Ent), H p = some (.tup [.int many, .ref q]) ∧ H q = some (.frz o (.tup xs)) ∧ o.dict = none ∧ LwD.PairsIn H xs (E.map Ent.kv) ∧ DB H many z E ∧ pl E = tl ts := by
  obtain ⟨q, o, xs, e1, e2, e3, e4⟩ := h.ex
  have key : ∀ {xs : List V} {ts : List Trm}, Paired (TrmV H) xs ts → (∀ x ∈ ts, TmOk many z.D z.v x) → ∃ E : List Ent, LwD.PairsIn H xs (E.map Ent.kv) ∧ (∀ e ∈ E, EntOk H many z.D z.v e) ∧ pl E = tl ts ∧ E.map Ent.ns = ts.map Trm.ns ∧ E.map Ent.k = ts.map Trm.k := by
    intro xs ts hp
    induction hp with
    | nil => exact fun _ => ⟨[], .nil, (fun e h => nomatch h), rfl, rfl, rfl⟩
    | @cons v x vs xs' h t ih =>
      intro each
      obtain ⟨E, a1, a2, a3, a4, a5⟩ := ih fun y hy => each y (by simp [hy])
      obtain ⟨r, b, c, rfl, t1, t2, t3⟩ := h.ex
      have ok := each x (by simp)
      refine ⟨⟨x.ns, c, x.t, x.b, x.k⟩ :: E, .cons ⟨r, b, rfl, .inl t1, by rw [show (Ent.kv ⟨x.ns, c, x.t, x.b, x.k⟩).1 = LwD.ik x.ns from rfl, LwD.ik_map]; exact t2⟩ a1, fun e he => ?_, ?_, ?_, ?_⟩
      · rcases List.mem_cons.mp he with rfl | he
        · exact ⟨ok.len, ok.nn, ok.deg, t3, ok.pos, ok.nz, ok.sb, ok.st⟩
        · exact a2 e he
      · show _ :: pl E = _ :: tl xs'
        rw [a3]
        rfl
      · rw [List.map_cons, List.map_cons, a4]
      · rw [List.map_cons, List.map_cons, a5]
  obtain ⟨E, a1, a2, a3, a4, a5⟩ := key e4 h.each
  refine ⟨q, o, xs, E, e1, e2, e3, a1, ⟨by rw [a4]; exact h.nd, a2, by rw [a5]; exact h.sum, ?_⟩, a3⟩
  have : E.length = ts.length := by
    have := congrArg List.length a4
    rwa [List.length_map, List.length_map] at this
  rw [this]
  exact h.few
theorem kvs_nodup {E : List Ent} (h : (E.map Ent.ns).Nodup) : ((E.map Ent.kv).map (·.1)).Nodup := by
  rw [List.map_map]
  have h' := List.pairwise_map.mp h
  exact List.pairwise_map.mpr (h'.imp fun {a b} n z => n (ik_inj z))
theorem frz_new {H H1 : Hp} {p : Addr} {many : Nat} {z : Sz} {E : List Ent} {o : Obj} (n : H p = none) (s : Same H H1) (db : DB H1 many z E) (e : H1 p = some (.dT (E.map Ent.kv))) : Same H (upd H1 p (.frz o (.dT (E.map Ent.kv)))) ∧ FQ (upd H1 p (.frz o (.dT (E.map Ent.kv)))) p many z E :=
  ⟨put_same s n, ⟨o, upd_same⟩, db.kp (Kp.upd e trivial)⟩
noncomputable abbrev Sh := Int × Tb
structure ShV (H : Hp) (v : V) (s : Sh) : Prop where
  ex : ∃ (r a : Addr) (o : Obj), v = .ref r ∧ H r = some (.tup [.int s.1, .ref a]) ∧ H a = some (.frz o (.dT (s.2.map kvI)))
theorem ShV.kp {H H' : Hp} {v : V} {s : Sh} (h : ShV H v s) (k : Kp H H') : ShV H' v s := by
  obtain ⟨r, a, o, e1, e2, e3⟩ := h.ex
  exact ⟨r, a, o, e1, k.tup _ _ e2, k.frz _ _ _ e3⟩
structure ShOk (many : Nat) (s : Sh) : Prop where
  pos : 0 < s.1
  tb : TB many 20000 s.2
  few : s.2.length ≤ 900
noncomputable def shv : List Sh → List Int → Rat
  | [], _ => 0
  | s :: L, m => cf (tc s.2) m / (s.1 : Rat) + shv L m
theorem tb_val {many B : Nat} {T : Tb} (h : TB many B T) (m : List Int) : ∃ c : Int, (valV (T.map kvI) (LwD.ik m)).getD (.int 0) = .int c ∧ (c : Rat) = cf (tc T) m ∧ c.natAbs ≤ 2 ^ B := by
  by_cases hin : m ∈ T.map (·.1)
  · obtain ⟨x, hx, en⟩ := List.mem_map.mp hin
    have hv : valV (T.map kvI) (LwD.ik m) = some (.int x.2) := by
      obtain ⟨L, R, eT⟩ := List.append_of_mem hx
      have nd := h.nd
      rw [eT, List.map_append, List.map_cons] at nd
      rw [eT, List.map_append, List.map_cons]
      show valV (L.map kvI ++ (LwD.ik x.1, V.int x.2) :: R.map kvI) _ = _
      rw [en]
      exact val_mid (keyI_ne fun y => by rw [← en] at y; exact (List.nodup_append.mp nd).2.2 _ y _ (List.mem_cons_self ..) rfl)
    refine ⟨x.2, by rw [hv]; rfl, ?_, (h.each x hx).2⟩
    rw [← en]
    exact (cf_one (P := tc T) (by rw [tc_keys]; exact h.nd) (x := (x.1, (x.2 : Rat))) (List.mem_map_of_mem hx)).symm
  · refine ⟨0, by rw [val_out (keyI_ne hin)]; rfl, ?_, Nat.zero_le _⟩
    rw [cf_out fun x hx e => hin (by rw [← tc_keys]; exact List.mem_map.mpr ⟨x, hx, e⟩)]
    rfl
noncomputable def tops (L : Int) (m : List Int) : List Sh → List Int → Prop
  | [], cs => cs = []
  | s :: r, cs => ∃ c c', cs = c' :: c ∧ (∃ v : Int, c' = v * (L / s.1) ∧ (v : Rat) = cf (tc s.2) m ∧ v.natAbs ≤ 2 ^ 20000) ∧ tops L m r c
theorem tops_sum {L : Int} {m : List Int} (pL : 0 < L) : ∀ {shs : List Sh} {cs : List Int}, (∀ s ∈ shs, 0 < s.1 ∧ s.1 ∣ L) → tops L m shs cs → (cs.sum : Rat) / (L : Rat) = shv shs m
  | [], _, _, rfl => by show ((0 : Int) : Rat) / _ = 0; grind
  | s :: r, _, h, ⟨c, c', ec, ⟨v, ev, hv, _⟩, ht⟩ => by
    subst ev ec
    have ih := tops_sum pL (fun x hx => h x (by simp [hx])) ht
    obtain ⟨p, d⟩ := h s (by simp)
    have e : L / s.1 * s.1 = L := Int.ediv_mul_cancel d
    have e' : ((L / s.1 : Int) : Rat) * (s.1 : Rat) = (L : Rat) := by rw [← Rat.intCast_mul, e]
    have h1 : (s.1 : Rat) ≠ 0 := by simpa using (show s.1 ≠ 0 by omega)
    have h2 : (L : Rat) ≠ 0 := by simpa using (show L ≠ 0 by omega)
    show ((v * (L / s.1) + c.sum : Int) : Rat) / (L : Rat) = cf (tc s.2) m / (s.1 : Rat) + shv r m
    rw [Rat.intCast_add, Rat.intCast_mul, ← hv, ← ih]
    generalize ((L / s.1 : Int) : Rat) = y at *
    grind
theorem tops_bits {L : Int} {m : List Int} (hL : L.natAbs ≤ 2 ^ 7900) : ∀ {shs : List Sh} {cs : List Int}, (∀ s ∈ shs, 0 < s.1) → tops L m shs cs → cs.sum.natAbs ≤ shs.length * 2 ^ 27900
  | [], _, _, rfl => by simp
  | s :: r, _, h, ⟨c, c', ec, ⟨v, ev, hv, hb⟩, ht⟩ => by
    subst ev ec
    have ih := tops_bits hL (fun x hx => h x (by simp [hx])) ht
    have h1 : (L / s.1).natAbs ≤ 2 ^ 7900 := Nat.le_trans (LwM.ediv_abs L s.1 (h s (by simp))) hL
    have h2 : (v * (L / s.1)).natAbs ≤ 2 ^ 27900 := by
      rw [Int.natAbs_mul, show (27900 : Nat) = 20000 + 7900 from rfl, Nat.pow_add]
      exact Nat.mul_le_mul hb h1
    show (v * (L / s.1) + c.sum).natAbs ≤ (r.length + 1) * 2 ^ 27900
    rw [Nat.succ_mul]
    generalize 2 ^ 27900 = G at *
    omega
theorem tops_app {L : Int} {m : List Int} : ∀ {A B : List Sh} {a b : List Int}, tops L m A a → tops L m B b → tops L m (A ++ B) (a ++ b)
  | [], _, _, _, rfl, hb => hb
  | _ :: A, _, _, _, ⟨c, c', rfl, hv, ht⟩, hb => ⟨c ++ _, c', rfl, hv, tops_app ht hb⟩
theorem put_keys (l : List (List Key × V)) (k : List Key) (v : V) : (∀ x ∈ l.map (·.1), x ∈ (putK l k v).map (·.1)) ∧ k ∈ (putK l k v).map (·.1) ∧ ∀ x ∈ (putK l k v).map (·.1), x ∈ l.map (·.1) ∨ x = k := by
  unfold putK
  split
  · rename_i h
    have e : (l.map fun kv => if kv.1 = k then (kv.1, v) else kv).map (·.1) = l.map (·.1) := by
      rw [List.map_map]
      refine List.map_congr_left fun x _ => ?_
      show (if x.1 = k then (x.1, v) else x).1 = x.1
      split <;> rfl
    rw [e]
    obtain ⟨p, hp, ek⟩ := List.any_eq_true.mp h
    exact ⟨fun x hx => hx, List.mem_map.mpr ⟨p, hp, of_decide_eq_true ek⟩, fun x hx => .inl hx⟩
  · rw [List.map_append]
    exact ⟨fun x hx => List.mem_append_left _ hx, by simp, fun x hx => (List.mem_append.mp hx).imp id fun h => by simpa using h⟩
theorem putAll_keys : ∀ (more l : List (List Key × V)), (∀ x ∈ l.map (·.1), x ∈ (LwD.putAll l more).map (·.1)) ∧ (∀ x ∈ more.map (·.1), x ∈ (LwD.putAll l more).map (·.1)) ∧ (∀ x ∈ (LwD.putAll l more).map (·.1), x ∈ l.map (·.1) ∨ x ∈ more.map (·.1)) ∧ (LwD.putAll l more).length ≤ l.length + more.length
  | [], l => ⟨fun x h => h, (fun x h => nomatch h), fun x h => .inl h, Nat.le_refl _⟩
  | p :: r, l => by
    obtain ⟨a1, a2, a3, a4⟩ := putAll_keys r (putK l p.1 p.2)
    obtain ⟨b1, b2, b3⟩ := put_keys l p.1 p.2
    have b4 := length_putK l p.1 p.2
    refine ⟨fun x h => a1 x (b1 x h), fun x h => ?_, fun x h => ?_, ?_⟩
    · rw [List.map_cons] at h
      rcases List.mem_cons.mp h with rfl | h
      · exact a1 _ b2
      · exact a2 x h
    · rw [List.map_cons]
      rcases a3 x h with h | h
      · rcases b3 x h with h | rfl
        · exact .inl h
        · exact .inr (List.mem_cons_self ..)
      · exact .inr (List.mem_cons_of_mem _ h)
    · rw [List.length_cons]
      show (LwD.putAll (putK l p.1 p.2) r).length ≤ _
      omega
noncomputable def spCome : Sp := fun vs H Q _ => ∃ (p ls : Addr) (many : Nat) (z : Sz) (ts : List Trm) (xs : List V) (shs : List Sh), vs = [.ref p, .ref ls] ∧ Poly H p many z ts ∧ H ls = some (.lst xs) ∧ Paired (ShV H) xs shs ∧ (∀ s ∈ shs, ShOk many s) ∧ (prd (shs.map (·.1))).natAbs ≤ 2 ^ 7800 ∧ shs.length ≤ 20 ∧ 1 ≤ many ∧ many ≤ 4 ∧ z.D ≤ 8 ∧ z.S ≤ 7900 ∧ z.v ≤ 4000 ∧ z.n ≤ 1000 ∧
  ∀ (b : Bool) (H' : Hp), Same H H' → (b = true ↔ ∀ m, shv shs m = cf (tl ts) m) → Q (.bl b) H'
end Lw

namespace Lw
open PySem PySem.Spec PyProof.Rows L2 LwQ LwV
noncomputable def Ngt (K : PySem.W.Frag) (mg : Str → Option Value) : Prop := ∃ a, mg "NOUGHT" = some (.ref a) ∧ ∀ H, SqT K H a (([0, 1] : List Int).map V.int)
inductive AsI (H H4 : Hp) (p ls wd ad : Addr) (L : Int) (many : Nat) (E : List Ent) (shs : List Sh) (i : Nat) : L2.St → Hp → Prop where
  | mk {u5 u6 u7 u8 u9 u10 : Option V} {H' : Hp} {kvs : List (List Key × V)} (s : Same H H') (k : Kp H4 H') (e : H' ad = some (.dT kvs)) (ky : ∀ q ∈ kvs, LwD.KeyS many q.1) (kE : ∀ n ∈ E.map Ent.ns, LwD.ik n ∈ kvs.map (·.1)) (kT : ∀ s ∈ shs.take i, ∀ n ∈ s.2.map (·.1), LwD.ik n ∈ kvs.map (·.1)) (ln : kvs.length ≤ 1000 + 900 * i) :
    AsI H H4 p ls wd ad L many E shs i [some (.ref p), some (.ref ls), some (.int L), some (.ref wd), some (.ref ad), u5, u6, u7, u8, u9, u10] H'
inductive CkI (H H5 : Hp) (p ls wd ad : Addr) (L : Int) (E : List Ent) (shs : List Sh) (kvs : List (List Key × V)) (i : Nat) : L2.St → Hp → Prop where
  | mk {u5 u6 u7 u8 u9 u10 : Option V} {H' : Hp} (s : Same H H') (k : Same H5 H') (ok : ∀ q ∈ kvs.take i, ∀ m, q.1 = LwD.ik m → shv shs m = cf (pl E) m) : CkI H H5 p ls wd ad L E shs kvs i [some (.ref p), some (.ref ls), some (.int L), some (.ref wd), some (.ref ad), u5, u6, u7, u8, u9, u10] H'
section
variable {P : Program} {w : World} {K : PySem.W.Frag} {mg : Str → Option Value} {base : Heap} {f fd : _}
theorem scCome : FnScope ["one", "shares", "bottom", "wanted", "asked", "under", "table", "powers", "total", "top", "beneath"] ["one", "shares"] (defScope sCome) := ⟨rfl, rfl, rfl, by decide +kernel, rfl, by decide +kernel, by decide +kernel⟩
theorem ok_come {fA : Addr} {fdA : FuncData} (F : Fun K "come_to" "come_to" sCome f fd) (T : Txt mg) (N : Ngt K mg) (DA : Df K mg "all_multiple" sAllM ["numbers"] fA fdA) (GA : FnOk P w K mg base CX0 5 fA fdA ["numbers"] (spAllM K)) : FnOk P w K mg base CX0 6 f fd ["one", "shares"] spCome := by
  obtain ⟨nA, hnA, hN⟩ := N
  refine F.ok scCome (fun vs H Q E h => ?_) (fun cdv A outer s H vs Q E hr h => ?_)
  · obtain ⟨p, ls, many, z, ts, xs, shs, rfl, _⟩ := h
    rfl
  · obtain ⟨p, ls, many, z, ts, xs, shs, rfl, hp, hls, hsh, sok, hb, h20, m1, m4, zD, zS, zv, zn, go⟩ := h
    have hu : _ + 1 < cLine := Nat.lt_of_le_of_lt (Nat.add_le_add_left (by decide : 1 ≤ 64) _) hr.units
    have hu2 : _ + 2 < cLine := Nat.lt_of_le_of_lt (Nat.add_le_add_left (by decide : 2 ≤ 64) _) hr.units
    refine ⟨_, pss_cons (ps_set (i := 2) scCome.nd rfl (Or.inr rfl) (pe_call GA hr rfl DA.m DA.F.kp DA.b .nil pass0 (pa_cons
        (pe_compF (own := 2) (idx := []) (N := ["under", "table"]) rfl rfl rfl (by decide +kernel) (by decide +kernel) (fun _ _ h => nomatch h) (has_of rfl) rfl (fun _ _ _ h => nomatch h) (pi_list (pv 1))
          (fun C fp s2 H2 => show PG (cxCompF _ ["under", "table"] _ _ C fp s2 H2) _ (gTup K 2 (gCons (gName 0) (gCons (gName 1) gNil))) from pg_tup (X := cxCompF _ ["under", "table"] _ _ C fp s2 H2) rfl (pgs_cons (pg_name (i := 0) (show List.Nodup (["under", "table"] : List Str) by decide +kernel) rfl (Or.inl rfl) (Or.inr rfl)) (pgs_cons (pg_name (i := 1) (show List.Nodup (["under", "table"] : List Str) by decide +kernel) rfl (Or.inl rfl) (Or.inr rfl)) pgs_nil)))
          (fun C fp s2 H2 => pv 0)) pa_nil)))
      (pss_cons (ps_set (i := 3) scCome.nd rfl (Or.inl rfl) (LwD.pe_frz (pe_callTy (LwD.call_dictT rfl hu2) (by rfl) T.dct boot_dict (pa_cons (pe_ix ix_tup (pv 0) pe_int (fun _ _ => rfl)) pa_nil))))
      (pss_cons (ps_set (i := 4) scCome.nd rfl (Or.inl rfl) (pe_callTy LwD.call_dictS (by rfl) T.dct boot_dict (pa_cons (pv 3) pa_nil)))
      (pss_cons (ps_for PassesOwn.never rfl (pi_list (pv 1)) (pg_tup rfl (pgs_cons (pg_name (i := 5) scCome.nd rfl (Or.inl rfl)) (pgs_cons (pg_name (i := 6) scCome.nd rfl (Or.inl rfl)) pgs_nil)))
        (pss_one (ps_expr (pe_bm PySem.F.plainAttrs_dict PySem.F.slot_dict_update PySem.F.type_dict_update (LwD.mt_update hu) (pv 4) (pa_cons (pv 6) pa_nil)))))
      (pss_cons (ps_for PassesOwn.never rfl (LwD.pi_keys (LwD.pe_frz (pv 4))) (pg_name (i := 7) scCome.nd rfl (Or.inr rfl))
        (pss_cons (ps_set (i := 8) scCome.nd rfl (Or.inl rfl) (pe_callB (call_sumL rfl) (by rfl) T.sum boot_sum (pa_cons
          (pe_compF (own := 2) (idx := [7, 2]) (N := ["under", "table", "powers", "bottom"]) rfl rfl rfl (by decide +kernel) (by decide +kernel) (sub_of fun y hy => by cases hy with | head => rfl | tail _ h => cases h with | head => rfl | tail _ h => cases h) (has_of rfl) rfl (two_idx rfl rfl ⟨rfl, rfl, rfl, rfl⟩ ⟨rfl, rfl, rfl, rfl⟩) (pi_list (pv 1))
            (fun C fp s2 H2 => show PG (cxCompF _ ["under", "table", "powers", "bottom"] _ _ C fp s2 H2) _ (gTup K 2 (gCons (gName 0) (gCons (gName 1) gNil))) from pg_tup (X := cxCompF _ ["under", "table", "powers", "bottom"] _ _ C fp s2 H2) rfl (pgs_cons (pg_name (i := 0) (show List.Nodup (["under", "table", "powers", "bottom"] : List Str) by decide +kernel) rfl (Or.inl rfl) (Or.inr rfl)) (pgs_cons (pg_name (i := 1) (show List.Nodup (["under", "table", "powers", "bottom"] : List Str) by decide +kernel) rfl (Or.inl rfl) (Or.inr rfl)) pgs_nil)))
            (fun C fp s2 H2 => pe_op op_mulL (pe_dget2 hu (pv 1) (pv 2) pe_int ⟨rfl, rfl, rfl, rfl⟩) (pe_op op_fdivL (pv 3) (pv 0)))) pa_nil)))
        (pss_cons (ps_asg (pe_dget2 hu (pv 3) (pv 7) (pe_glob (v := .ref nA) (by rfl) hnA rfl) ⟨rfl, rfl, rfl, rfl⟩) (pg_tup rfl (pgs_cons (pg_name (i := 9) scCome.nd rfl (Or.inl rfl)) (pgs_cons (pg_name (i := 10) scCome.nd rfl (Or.inl rfl)) pgs_nil))))
        (pss_one (ps_if (pt_cmpR op_ne (pe_op op_mulL (pv 8) (pv 10)) (pe_op op_mulL (pv 9) (pv 2)) (nomark _)) (pss_one (ps_ret pe_bl)) pss_nil)))))
      (pss_one (ps_ret pe_bl)))))), ?_⟩
    try dsimp only [cxK]
    have lx := Paired.length hsh
    have l20 : xs.length < sizeLine := Nat.lt_of_le_of_lt (show xs.length ≤ 20 by omega) (by decide)
    have pos : ∀ n ∈ shs.map (·.1), 0 < n := fun n hn => by
      obtain ⟨x, hx, rfl⟩ := List.mem_map.mp hn
      exact (sok x hx).pos
    -- one bottom
    refine ⟨_, rfl, ls, rfl, ⟨xs, SqL.of hls⟩, fun l H1 n1 s1 h1 => ?_⟩
    refine comp_listF (K := K) (a := ls) (xs := xs) (CmI (fun i => ((shs.take i).map (·.1)).map V.int) l H) l20 ⟨s1, h1, rfl⟩ (fun i ys H2 h => ⟨SqL.of (h.s _ _ hls), h.e⟩) ?_ ?_
    · rintro i m ys x H2 hx hm hy ⟨s2, h2, ey⟩
      obtain ⟨y, hy', ⟨r, a, o, rfl, t1, t2⟩⟩ := Paired.at hsh hx
      refine ⟨r, _, rfl, SqT.of (s2 _ _ t1), rfl, _, _, rfl, _, _, rfl, rfl, keep2, _, rfl, ?_⟩
      refine comp_next hx hm hy h2 ⟨put_same s2 n1, upd_same, ?_⟩
      rw [ey, List.take_add_one, hy', List.map_append, List.map_append]
      rfl
    rintro ys H2 hy ⟨s2, h2, ey⟩
    rw [lx, List.take_length] at ey
    refine ⟨l, shs.map (·.1), rfl, ey ▸ h2, pos, Nat.lt_of_le_of_lt hb (Nat.pow_lt_pow_right (by decide) (by decide)), fun L H3 s3 pL dL lL => ?_⟩
    have s03 := s2.trans s3
    have Lb : L.natAbs ≤ 2 ^ 7800 := Nat.le_trans (by omega) hb
    clear n1 s1 h1 hy ey h2
    -- what is wanted
    obtain ⟨q, oq, tx, EE, e1, e2, e3, hpi, db, epl⟩ := (hp.kp (Kp.of s03)).ents
    refine rvT rfl (SqT.of e1) rfl ⟨q, oq, tx, _, rfl, e2, e3, hpi, kvs_nodup db.nd, fun wd H4 n4 s4 e4 => ⟨wd, _, rfl, e4, fun o5 => ?_⟩⟩
    obtain ⟨s5, FW⟩ := frz_new (o := o5) n4 s4 (db.kp (Kp.of s4)) e4
    generalize upd H4 wd (.frz o5 (.dT (EE.map Ent.kv))) = H5 at s5 FW
    -- what is asked
    refine ⟨_, rfl, wd, many, _, rfl, FW.rd, m1, m4, FW.db.keyS zD, fun ad H6 n6 s6 e6 => ?_⟩
    have s06 := s03.trans (s5.trans s6)
    have FW6 := FW.kp (Kp.of s6)
    have few := db.few
    refine ⟨_, rfl, ls, rfl, ⟨xs, SqL.of (s06 _ _ hls)⟩, ?_⟩
    have n06 : H ad = none := (s03.trans s5).free n6
    refine for_list (K := K) (a := ls) (xs := xs) (AsI H H6 p ls wd ad L many EE shs) (.mk s06 (Kp.of (Same.refl _)) e6 (FW.db.keyS zD) (fun n hn => ?_) (fun s h => nomatch h) (by rw [List.length_map]; omega)) (fun i σ H7 _ h => ?_) (fun i x σ H7 hx h => ?_) (fun σ H7 h => ?_)
    · obtain ⟨e, he, rfl⟩ := List.mem_map.mp hn
      exact List.mem_map.mpr ⟨e.kv, List.mem_map_of_mem he, rfl⟩
    · obtain ⟨s7, _, _, _, _, _, _⟩ := h
      exact SqL.of (s7 _ _ hls)
    · obtain ⟨s7, k7, e7, ky, kE, kT, ln⟩ := h
      rename_i kvs
      obtain ⟨y, hy', ⟨r, a, o, rfl, t1, t2⟩⟩ := Paired.at hsh hx
      have ok := sok y (List.mem_of_getElem? hy')
      have hi : i < shs.length := (List.getElem?_eq_some_iff.mp hy').1
      have fw := ok.few
      have ne : ad ≠ a := fun zz => by rw [zz, s7 _ _ t2] at e7; cases e7
      obtain ⟨a1, a2, a3, a4⟩ := putAll_keys (y.2.map kvI) kvs
      rw [List.length_map] at a4
      have kyT : ∀ q ∈ y.2.map kvI, LwD.KeyS many q.1 := fun q hq => by
        obtain ⟨x, hx, rfl⟩ := List.mem_map.mp hq
        exact ⟨x.1, rfl, (ok.tb.each x hx).1⟩
      refine ⟨r, _, rfl, SqT.of (s7 _ _ t1), rfl, _, _, rfl, _, _, rfl, rfl, ?_⟩
      refine ⟨_, rfl, .inr (.inr (.inl ⟨rfl, .inr ⟨_, e7⟩⟩)), _, rfl, ad, a, many, kvs, _, rfl, rfl, e7, .inr ⟨o, s7 _ _ t2⟩, ne, m1, m4, kyT, ?_, ?_⟩
      · rw [List.length_map]
        exact Nat.le_trans (show _ ≤ 20000 by omega) (by decide)
      · refine .mk (put_same s7 n06) (k7.trans (Kp.upd e7 trivial)) upd_same (fun q hq => ?_) (fun n hn => a1 _ (kE n hn)) (fun s hs n hn => ?_) (by omega)
        · rcases a3 q.1 (List.mem_map_of_mem hq) with h | h
          · obtain ⟨q', hq', eq⟩ := List.mem_map.mp h
            rw [← eq]
            exact ky q' hq'
          · obtain ⟨q', hq', eq⟩ := List.mem_map.mp h
            rw [← eq]
            exact kyT q' hq'
        · rw [List.take_add_one, hy'] at hs
          rcases List.mem_append.mp hs with hs | hs
          · exact a1 _ (kT s hs n hn)
          · have : s = y := by simpa using hs
            subst this
            obtain ⟨x, hx, rfl⟩ := List.mem_map.mp hn
            exact a2 _ (by rw [List.map_map]; exact List.mem_map.mpr ⟨x, hx, rfl⟩)
    obtain ⟨s7, k7, e7, ky, kE, kT, ln⟩ := h
    rename_i kvs
    rw [lx, List.take_length] at kT
    clear ln
    refine ⟨_, rfl, ad, kvs, rfl, e7, fun o8 => ⟨ad, o8, kvs, rfl, upd_same, fun q hq => (ky q hq).elim fun ns h => ⟨ns, h.1⟩, fun ks hks => ?_⟩⟩
    have s8 : Same H (upd H7 ad (.frz o8 (.dT kvs))) := put_same s7 n06
    have FW8 : FQ (upd H7 ad (.frz o8 (.dT kvs))) wd many z EE := FW6.kp (k7.trans (Kp.upd e7 trivial))
    have e8 : (upd H7 ad (.frz o8 (.dT kvs))) ad = some (.frz o8 (.dT kvs)) := upd_same
    generalize upd H7 ad (.frz o8 (.dT kvs)) = H8 at *
    have lk : ks.length = kvs.length := hks.1
    refine LwD.for_keys (CkI H H8 p ls wd ad L EE shs kvs) (.mk s8 (Same.refl _) (fun q h => nomatch h)) (fun i σ H9 h => ?_) (fun i x σ H9 hx h => ?_) (fun σ H9 h => ?_)
    · obtain ⟨_, k9, _⟩ := h
      exact k9 _ _ e8
    · obtain ⟨s9, k9, ok9⟩ := h
      have hi : i < kvs.length := by rw [← lk]; exact (List.getElem?_eq_some_iff.mp hx).1
      obtain ⟨kv, hkv⟩ : ∃ kv, kvs[i]? = some kv := ⟨kvs[i], by simp [hi]⟩
      obtain ⟨b, ns, rfl, hb8, hns⟩ := hks.2 i x kv hx hkv
      have hb9 := k9 _ _ hb8
      -- the total
      refine ⟨_, rfl, ls, rfl, ⟨xs, SqL.of (s9 _ _ hls)⟩, fun l10 H10 n10 s10 h10 => ?_⟩
      refine comp_listF (K := K) (a := ls) (xs := xs) (fun i ys H11 => Same H9 H11 ∧ H11 l10 = some (.lst ys) ∧ ∃ cs : List Int, ys = cs.map V.int ∧ tops L ns (shs.take i) cs) l20 ⟨s10, h10, [], rfl, rfl⟩ (fun i ys H11 h => ⟨SqL.of (h.1 _ _ (s9 _ _ hls)), h.2.1⟩) ?_ ?_
      · rintro i m ys x H11 hx hm hy ⟨s11, h11, cs, ey, ht⟩
        obtain ⟨y, hy', ⟨r, a, o, rfl, t1, t2⟩⟩ := Paired.at hsh hx
        have s011 := s9.trans s11
        have ok := sok y (List.mem_of_getElem? hy')
        obtain ⟨c, c1, c2, c3⟩ := tb_val ok.tb ns
        have rd : Rd H11 a (.dT (y.2.map kvI)) := .inr ⟨o, s011 _ _ t2⟩
        have dv : y.1 ∣ L := dL y.1 (List.mem_map_of_mem (List.mem_of_getElem? hy'))
        have yL : y.1.natAbs ≤ 2 ^ 7800 := Nat.le_trans (by have := Int.le_of_dvd pL dv; have := ok.pos; omega) Lb
        have dL9 : (L / y.1).natAbs ≤ 2 ^ 7800 := Nat.le_trans (LwM.ediv_abs L y.1 ok.pos) Lb
        refine ⟨r, _, rfl, SqT.of (s011 _ _ t1), rfl, _, _, rfl, _, _, rfl, rfl, keep2, ?_⟩
        refine ⟨_, rfl, a, rfl, .inr ⟨_, rd⟩, _, rfl, valV (y.2.map kvI) (LwD.ik ns), .inr ⟨_, LwD.ik ns, b, rd, rfl, by rw [LwD.ik_map]; exact s11 _ _ hb9, rfl⟩, _, rfl, _, rfl, _, _, rfl, rfl, ⟨ok.pos, bot_fit yL (by decide)⟩, c, _, c1, rfl, ⟨bot_fit c3 (by decide), bot_fit dL9 (by decide)⟩, ?_⟩
        refine comp_next hx hm hy h11 ⟨put_same s11 n10, upd_same, cs ++ [c * (L / y.1)], ?_, ?_⟩
        · rw [ey, List.map_append]
          rfl
        · rw [List.take_add_one, hy']
          exact tops_app ht ⟨[], _, rfl, ⟨c, rfl, c2, c3⟩, rfl⟩
      rintro ys H11 hy ⟨s11, h11, cs, ey, ht⟩
      rw [lx, List.take_length] at ht
      have sq := tops_sum pL (fun s hs => ⟨(sok s hs).pos, dL s.1 (List.mem_map_of_mem hs)⟩) ht
      have sb := tops_bits (Nat.le_trans Lb (Nat.pow_le_pow_right (by decide) (by decide))) (fun s hs => (sok s hs).pos) ht
      have sb' : cs.sum.natAbs < 2 ^ 100000 := by
        refine Nat.lt_of_le_of_lt (Nat.le_trans sb (Nat.mul_le_mul_right _ (show shs.length ≤ 2 ^ 5 by omega))) ?_
        rw [← Nat.pow_add]
        exact Nat.pow_lt_pow_right (by decide) (by decide)
      refine ⟨l10, cs, rfl, SqL.of (ey ▸ h11), ?_⟩
      have s811 := k9.trans s11
      have s011 := s9.trans s11
      have FW11 := FW8.kp (Kp.of s811)
      have hb11 := s11 _ _ hb9
      clear n10 s10 h10 hy ht sb h11 ey
      -- held against what is wanted
      have ex : ∃ (t bt : Int) (a' : Addr) (o : Option V), 0 < bt ∧ t.natAbs < 2 ^ 50000 ∧ bt.natAbs < 2 ^ 50000 ∧ (t : Rat) / (bt : Rat) = cf (pl EE) ns ∧ DGet H11 wd (.ref b) o ∧ o.getD (.ref nA) = .ref a' ∧ SqT K H11 a' [.int t, .int bt] := by
        by_cases hin : ns ∈ EE.map Ent.ns
        · obtain ⟨e, he, rfl⟩ := List.mem_map.mp hin
          have kE := FW11.db.each e he
          have ke := FW11.db.k he
          exact ⟨e.t, e.b, e.c, _, kE.pos, top_fit kE.st kE.sb (by omega), bot_fit kE.sb (by omega), (FW11.db.cf he).symm, FW11.get he hb11, rfl, SqT.of kE.at'⟩
        · refine ⟨0, 1, nA, none, by decide, by show 0 < _; exact Nat.pow_pos (by decide), by show 1 < _; exact Nat.one_lt_pow (by decide) (by decide), ?_, .inr ⟨_, LwD.ik ns, b, FW11.rd, rfl, by rw [LwD.ik_map]; exact hb11, (val_out (key_ne hin)).symm⟩, rfl, hN H11⟩
          rw [cf_out fun x hx e => hin (by rw [← pl_keys]; exact List.mem_map.mpr ⟨x, hx, e⟩)]
          show ((0 : Int) : Rat) / _ = 0
          grind
      obtain ⟨t, bt, a', o, pb, tb, bb, ev, g, eo, hq⟩ := ex
      refine ⟨_, rfl, wd, rfl, .inr ⟨_, FW11.rd⟩, _, rfl, o, g, a', _, eo, hq, rfl, _, _, rfl, _, _, rfl, rfl, ?_⟩
      refine ⟨_, rfl, _, rfl, _, _, rfl, rfl, ⟨sb', abs_up bb (by decide)⟩, _, rfl, _, rfl, _, _, rfl, rfl, ⟨abs_up tb (by decide), bot_fit Lb (by decide)⟩, rfl, _, rfl, ?_⟩
      rw [dec_ints]
      have eqv : cs.sum * bt = t * L ↔ shv shs ns = cf (pl EE) ns := by
        rw [← sq, ← ev]
        exact frac_eq pL pb
      by_cases e : cs.sum * bt = t * L
      · refine iteN (by rw [decide_eq_true e]; rfl) (.mk s011 s811 fun q hq m hm => ?_)
        rw [List.take_add_one, hkv] at hq
        rcases List.mem_append.mp hq with hq | hq
        · exact ok9 q hq m hm
        · have : q = kv := by simpa using hq
          subst this
          rw [← ik_inj (hns.symm.trans hm)]
          exact eqv.mp e
      · refine iteP (by rw [decide_eq_false e]; rfl) (go false H11 s011 ⟨(fun h => nomatch h), fun h => absurd ?_ e⟩)
        rw [eqv, h ns, epl]
    · obtain ⟨s9, k9, ok9⟩ := h
      rw [lk, List.take_length] at ok9
      refine go true H9 s9 ⟨fun _ m => ?_, fun _ => rfl⟩
      rw [← epl]
      by_cases hm : LwD.ik m ∈ kvs.map (·.1)
      · obtain ⟨q, hq, eq⟩ := List.mem_map.mp hm
        exact ok9 q hq m eq
      · have c1 : cf (pl EE) m = 0 := cf_out fun x hx e => hm (kE m (by rw [← pl_keys]; exact List.mem_map.mpr ⟨x, hx, e⟩))
        have c2 : ∀ l : List Sh, (∀ s ∈ l, s ∈ shs) → shv l m = 0 := by
          intro l
          induction l with
          | nil => exact fun _ => rfl
          | cons s r ih =>
            intro hl
            have : cf (tc s.2) m = 0 := cf_out fun x hx e => hm (kT s (hl s (by simp)) m (by rw [← tc_keys]; exact List.mem_map.mpr ⟨x, hx, e⟩))
            show cf (tc s.2) m / _ + shv r m = 0
            rw [this, ih fun y hy => hl y (by simp [hy])]
            grind
        rw [c1, c2 shs fun _ h => h]
end
end Lw

namespace Lw
open PySem PySem.Spec PyProof.Rows L2 LwQ LwV
theorem pe_compIN {X : Cx} {N : List Str} {elt target iter c : Expr} {scope : Scope} {pos : Pos} {wi : TI} {g : TG} {tt : TT} {te : TE} (hc : X.calm = true)
    (hk : scope.kind = .function) (hfree : ∀ x ∈ scope.names, x.2 ≠ .free) (hcell : ∀ x ∈ scope.names, x.2 ≠ .cell) (hnames : ∀ x ∈ scope.names, x.2 = .local → scope.names.lookup x.1 = some .local)
    (hi : PI X target iter wi) (hg : ∀ C fp s2 H2, PG (cxComp X N scope C fp s2 H2) target g) (ht : ∀ C fp s2 H2, PT (cxComp X N scope C fp s2 H2) c tt) (he : ∀ C fp s2 H2, PE (cxComp X N scope C fp s2 H2) elt te)
    (hs : ∀ x, foldedSetIterable iter X.env x = pure x := by intro _; rfl) : PE X (.ListComp elt [⟨target, iter, [c], 0⟩] scope pos) (tCompI N.length wi g tt te) :=
  pe_compI hc hk (fun x => ⟨fun z => hcell _ (PySem.mem_of_lookup z) rfl, fun z => hfree _ (PySem.mem_of_lookup z) rfl⟩) hfree hcell hnames hi hg ht he hs
structure Sqr where
  t : Int
  b : Int
  kw : Nat
  z : Sz
  ts : List Trm
structure SqP (H : Hp) (many : Nat) (v : V) (s : Sqr) : Prop where
  ex : ∃ r wa p : Addr, v = .ref r ∧ H r = some (.tup [.ref wa, .ref p]) ∧ At2 H wa s.t s.b ∧ Poly H p many s.z s.ts
theorem SqP.kp {H H' : Hp} {many : Nat} {v : V} {s : Sqr} (h : SqP H many v s) (k : Kp H H') : SqP H' many v s := by
  obtain ⟨r, wa, p, e1, e2, e3, e4⟩ := h.ex
  exact ⟨r, wa, p, e1, k.tup _ _ e2, k.tup _ _ e3, e4.kp k⟩
structure SqrOk (s : Sqr) : Prop where
  pos : 0 < s.b
  low : Int.gcd s.t s.b = 1
  sb : s.b.natAbs ≤ 2 ^ s.kw
  st : s.t.natAbs ≤ 2 ^ 1000
  kw : s.kw ≤ 1000
  D : s.z.D ≤ 4
  n : s.z.n ≤ 30
  S : s.z.S ≤ 2000
  v : s.z.v ≤ 2000
noncomputable def Sqr.g (s : Sqr) : Nat := s.kw + 2 * s.z.S
noncomputable def Sqr.pr (s : Sqr) : Rat × Pl := ((s.t : Rat) / (s.b : Rat), tl s.ts)
noncomputable def Bear (L : List Sqr) (P : Pl) : Prop := (∀ s ∈ L, 0 ≤ s.t) ∧ ∀ m, sqs (L.map Sqr.pr) m = cf P m
noncomputable def spAre : Sp := fun vs H Q _ => ∃ (p ls : Addr) (many : Nat) (z : Sz) (ts : List Trm) (xs : List V) (L : List Sqr), vs = [.ref p, .ref ls] ∧ Poly H p many z ts ∧ H ls = some (.lst xs) ∧ Paired (SqP H many) xs L ∧ (∀ s ∈ L, SqrOk s) ∧ (L.map Sqr.g).sum ≤ 7800 ∧ L.length ≤ 20 ∧ 1 ≤ many ∧ many ≤ 4 ∧ z.D ≤ 8 ∧ z.S ≤ 7900 ∧ z.v ≤ 4000 ∧ z.n ≤ 1000 ∧
  ∀ (b : Bool) (H' : Hp), Same H H' → (b = true ↔ Bear L (tl ts)) → Q (.bl b) H'
theorem sum_take {L : List Sqr} {i : Nat} {s : Sqr} (h : L[i]? = some s) : ((L.take (i + 1)).map Sqr.g).sum = ((L.take i).map Sqr.g).sum + s.g := by
  rw [List.take_add_one, h, List.map_append, List.sum_append]
  rfl
theorem shv_app : ∀ (A B : List Sh) (m : List Int), shv (A ++ B) m = shv A m + shv B m
  | [], B, m => by show shv B m = 0 + shv B m; grind
  | s :: A, B, m => by show _ + shv (A ++ B) m = (_ + shv A m) + shv B m; rw [shv_app A B m]; grind
structure ArW (H : Hp) (many : Nat) (p : Addr) (L : List Sqr) (i m : Nat) (ys : List V) (H' : Hp) : Prop where
  hm : m = L.length - i
  hi : i ≤ L.length
  s : Same H H'
  e : H' p = some (.lst ys)
  ex : ∃ shs : List Sh, Paired (ShV H') ys shs ∧ (∀ s ∈ shs, ShOk many s) ∧ (prd (shs.map (·.1))).natAbs ≤ 2 ^ ((L.take i).map Sqr.g).sum ∧ shs.length ≤ i ∧ ∀ m, shv shs m = sqs ((L.take i).map Sqr.pr) m
section
variable {P : Program} {w : World} {K : PySem.W.Frag} {mg : Str → Option Value} {base : Heap} {f fd : _}
theorem scAre : FnScope ["one", "some"] ["one", "some"] (defScope sAre) := ⟨rfl, rfl, rfl, by decide +kernel, rfl, by decide +kernel, by decide +kernel⟩
theorem ok_are {fC fW : Addr} {fdC fdW : FuncData} (F : Fun K "are_squares" "are_squares" sAre f fd) (T : Txt mg) (N : Ngt K mg) (DC : Df K mg "come_to" sCome ["one", "shares"] fC fdC) (GC : FnOk P w K mg base CX0 6 fC fdC ["one", "shares"] spCome) (DW : Df K mg "weighted_square" sWSq ["weight", "one"] fW fdW) (GW : FnOk P w K mg base CX0 6 fW fdW ["weight", "one"] (spWSq K)) : FnOk P w K mg base CX0 7 f fd ["one", "some"] spAre := by
  obtain ⟨nA, hnA, hN⟩ := N
  refine F.ok scAre (fun vs H Q E h => ?_) (fun cdv A outer s H vs Q E hr h => ?_)
  · obtain ⟨p, ls, many, z, ts, xs, L, rfl, _⟩ := h
    rfl
  · obtain ⟨p, ls, many, z, ts, xs, L, rfl, hp, hls, hL, lok, hg, h20, m1, m4, zD, zS, zv, zn, go⟩ := h
    refine ⟨_, pss_cons (ps_if (pt_val (pe_callB (call_any rfl) (by rfl) T.any boot_any (pa_cons
        (pe_compF (own := 2) (idx := []) (N := ["weight", "root"]) rfl rfl rfl (by decide +kernel) (by decide +kernel) (fun _ _ h => nomatch h) (has_of rfl) rfl (fun _ _ _ h => nomatch h) (pi_list (pv 1))
          (fun C fp s2 H2 => show PG (cxCompF _ ["weight", "root"] _ _ C fp s2 H2) _ (gTup K 2 (gCons (gName 0) (gCons (gName 1) gNil))) from pg_tup (X := cxCompF _ ["weight", "root"] _ _ C fp s2 H2) rfl (pgs_cons (pg_name (i := 0) (show List.Nodup (["weight", "root"] : List Str) by decide +kernel) rfl (Or.inl rfl) (Or.inr rfl)) (pgs_cons (pg_name (i := 1) (show List.Nodup (["weight", "root"] : List Str) by decide +kernel) rfl (Or.inl rfl) (Or.inr rfl)) pgs_nil)))
          (fun C fp s2 H2 => pe_cmpR (show OpR (cxCompF _ ["weight", "root"] _ _ C fp s2 H2) (compareOp .Lt) _ from op_lt) (pe_ix (show IxR (cxCompF _ ["weight", "root"] _ _ C fp s2 H2) (rIxT K) from ix_tup) (pv 0) pe_int (fun _ _ => rfl)) pe_int (nomark _))) pa_nil))) (pss_one (ps_ret pe_bl)) pss_nil)
      (pss_one (ps_ret (pe_call GC hr rfl DC.m DC.F.kp DC.b .nil pass0 (pa_cons (pv 0) (pa_cons
        (pe_compIN (N := ["weight", "root"]) rfl rfl (by decide +kernel) (by decide +kernel) (by decide +kernel) (pi_list (pv 1))
          (fun C fp s2 H2 => show PG (cxComp _ ["weight", "root"] _ C fp s2 H2) _ (gTup K 2 (gCons (gName 0) (gCons (gName 1) gNil))) from pg_tup (X := cxComp _ ["weight", "root"] _ C fp s2 H2) rfl (pgs_cons (pg_name (i := 0) (show List.Nodup (["weight", "root"] : List Str) by decide +kernel) rfl (Or.inl rfl) (Or.inl rfl)) (pgs_cons (pg_name (i := 1) (show List.Nodup (["weight", "root"] : List Str) by decide +kernel) rfl (Or.inl rfl) (Or.inl rfl)) pgs_nil)))
          (fun C fp s2 H2 => pt_cmpR (show OpR (cxComp _ ["weight", "root"] _ C fp s2 H2) (compareOp .NotEq) (LwT.rOrdT K LwT.lexNe) from LwT.op_neT hr.units0) (pv 0) (pe_glob (v := .ref nA) (by rfl) hnA rfl) (nomark _))
          (fun C fp s2 H2 => pe_call GW hr rfl DW.m DW.F.kp DW.b .nil pass0 (pa_cons (pv 0) (pa_cons (pv 1) pa_nil)))) pa_nil))))), ?_⟩
    try dsimp only [cxK]
    have lx := Paired.length hL
    have l20 : xs.length < sizeLine := Nat.lt_of_le_of_lt (show xs.length ≤ 20 by omega) (by decide)
    refine ⟨_, rfl, ls, rfl, ⟨xs, SqL.of hls⟩, fun l H1 n1 s1 h1 => ?_⟩
    refine comp_listF (K := K) (a := ls) (xs := xs) (CmI (fun i => ((L.take i).map fun s => decide (s.t < 0)).map V.bl) l H) l20 ⟨s1, h1, rfl⟩ (fun i ys H2 h => ⟨SqL.of (h.s _ _ hls), h.e⟩) ?_ ?_
    · rintro i m ys x H2 hx hm hy ⟨s2, h2, ey⟩
      obtain ⟨y, hy', ⟨r, wa, p', rfl, t1, t2, t3⟩⟩ := Paired.at hL hx
      refine ⟨r, _, rfl, SqT.of (s2 _ _ t1), rfl, _, _, rfl, _, _, rfl, rfl, keep2, ?_⟩
      refine rvT rfl (SqT.of (s2 _ _ t2)) rfl ⟨_, _, rfl, rfl, ?_⟩
      refine comp_next hx hm hy h2 ⟨put_same s2 n1, upd_same, ?_⟩
      rw [ey, List.take_add_one, hy', List.map_append, List.map_append]
      rfl
    rintro ys H2 hy ⟨s2, h2, ey⟩
    rw [lx, List.take_length] at ey
    refine ⟨l, _, rfl, SqL.of (ey ▸ h2), _, rfl, ?_⟩
    clear n1 s1 h1 hy ey h2
    by_cases neg : ((L.map fun s => decide (s.t < 0)).any id) = true
    · refine iteP neg (go false H2 s2 ⟨(fun h => nomatch h), fun h => ?_⟩)
      rw [List.any_map] at neg
      obtain ⟨s, hs, e⟩ := List.any_eq_true.mp neg
      have := of_decide_eq_true e
      have := h.1 s hs
      omega
    have nn : ∀ s ∈ L, 0 ≤ s.t := fun s hs => by
      refine Classical.byContradiction fun n => neg ?_
      rw [List.any_map]
      exact List.any_eq_true.mpr ⟨s, hs, decide_eq_true (by omega)⟩
    refine iteN (by simpa using neg) ?_
    refine ⟨_, rfl, _, rfl, ls, rfl, ⟨xs, SqL.of (s2 _ _ hls)⟩, fun l3 H3 n3 s3 h3 => ?_⟩
    refine ⟨ArW H2 many l3 L, ⟨_, rfl, Nat.zero_le _, s3, h3, [], .nil, (fun s h => nomatch h), Nat.le_refl _, Nat.le_refl _, fun m => rfl⟩, ?_⟩
    rintro i m ys H4 ⟨hm, hi, s4, e4, shs, ps, oks, bs, ln, cs⟩
    have ly := Paired.length ps
    refine ⟨e4, Nat.lt_of_le_of_lt (show ys.length ≤ 20 by omega) (by decide), ?_⟩
    have s04 := s2.trans s4
    by_cases hlt : i < L.length
    · have hix : i < xs.length := by omega
      refine .inr ⟨⟨xs, xs[i], SqL.of (s04 _ _ hls), by simp [hix]⟩, ?_⟩
      rintro x H4 ⟨rfl, hx⟩
      have hx := hx xs (SqL.of (s04 _ _ hls))
      obtain ⟨y, hy', ⟨r, wa, p', rfl, t1, t2, t3⟩⟩ := Paired.at hL hx
      have ok := lok y (List.mem_of_getElem? hy')
      have st := sum_take hy'
      refine ⟨r, _, rfl, SqT.of (s04 _ _ t1), rfl, _, _, rfl, _, _, rfl, rfl, ?_⟩
      refine ⟨_, rfl, wa, nA, [y.t, y.b], [0, 1], rfl, rfl, SqT.of (s04 _ _ t2), hN _, _, rfl, ?_⟩
      by_cases t0 : y.t = 0
      · have b1 : y.b = 1 := by
          have := ok.low
          rw [t0, Int.gcd_zero_left] at this
          have := ok.pos
          omega
        refine iteN (by rw [show LwT.lexNe [y.t, y.b] [0, 1] = _ from LwT.lexNe_eq [y.t, y.b] [0, 1], t0, b1]; rfl) ⟨L.length - (i + 1), by omega, rfl, hlt, s4, e4, shs, ps, oks, Nat.le_trans bs (Nat.pow_le_pow_right (by decide) (by omega)), by omega, fun m => ?_⟩
        rw [cs, List.take_add_one, hy', List.map_append, sqs_app]
        show _ = _ + ((y.t : Rat) / (y.b : Rat) * _ + 0)
        rw [t0]
        show _ = _ + (((0 : Int) : Rat) / _ * _ + 0)
        grind
      · refine iteP (by rw [show LwT.lexNe [y.t, y.b] [0, 1] = _ from LwT.lexNe_eq [y.t, y.b] [0, 1]]; simp [t0]) ?_
        refine ⟨_, rfl, _, rfl, wa, p', many, y.kw, y.z, y.ts, y.t, y.b, rfl, s04 _ _ t2, ok.pos, ok.sb, ok.st, t3.kp (Kp.of s04), m4, ok.D, ok.n, ok.S, ok.v, ok.kw, fun r5 a5 o5 U T5 H5 n5 s5 e5 e6 pU bU tb tl9 cT => ?_⟩
        have k5 : Kp H4 (upd H5 l3 (.lst (ys ++ [.ref r5]))) := (Kp.of s5).trans (Kp.upd (s5 _ _ e4) trivial)
        have k6 : Kp H5 (upd H5 l3 (.lst (ys ++ [.ref r5]))) := Kp.upd (s5 _ _ e4) trivial
        refine ⟨s5 _ _ e4, L.length - (i + 1), by omega, rfl, hlt, put_same (s4.trans s5) n3, upd_same, shs ++ [(U, T5)], Paired.app (Paired.to (fun _ _ h => h.kp k5) ps) (.cons ⟨r5, a5, o5, rfl, k6.tup _ _ e5, k6.frz _ _ _ e6⟩ .nil), fun s hs => ?_, ?_, by rw [List.length_append]; exact Nat.succ_le_succ ln, fun m => ?_⟩
        · rcases List.mem_append.mp hs with hs | hs
          · exact oks s hs
          · rw [List.mem_singleton] at hs
            subst hs
            exact ⟨pU, tb, tl9⟩
        · rw [List.map_append, prd_app, Int.natAbs_mul, st, Nat.pow_add]
          refine Nat.mul_le_mul bs ?_
          show (U * 1).natAbs ≤ 2 ^ (y.kw + 2 * y.z.S)
          rw [Int.mul_one]
          exact bU
        · rw [shv_app, cs, List.take_add_one, hy', List.map_append, sqs_app]
          show _ + (cf (tc T5) m / (U : Rat) + 0) = _ + ((y.t : Rat) / (y.b : Rat) * cf (hs (tl y.ts)) m + 0)
          rw [cT]
    · have ei : i = L.length := by omega
      refine .inl ⟨⟨xs, SqL.of (s04 _ _ hls), by omega⟩, ?_⟩
      rw [ei, List.take_length] at bs cs
      refine ⟨p, l3, many, z, ts, ys, shs, rfl, hp.kp (Kp.of s04), e4, ps, oks, Nat.le_trans bs (Nat.pow_le_pow_right (by decide) hg), by omega, m1, m4, zD, zS, zv, zn, fun b H5 s5 hb => ?_⟩
      refine go b H5 (s04.trans s5) (hb.trans ⟨fun h => ⟨nn, fun m => by rw [← cs]; exact h m⟩, fun h m => by rw [cs]; exact h.2 m⟩)
end
end Lw

namespace Lw
open PySem PySem.Spec PyProof.Rows L2 LwQ LwV
theorem Tape.ne {cl : Addr} {H : Hp} {tp : Addr} {B : Int} (T : Tape cl H tp B) {d : Addr} {o : HO} (e : H d = some o) (ho : ∀ xs, o ≠ .lst xs) : d ≠ tp ∧ d ≠ cl := by
  obtain ⟨ns, spot, rest, left, h1, h2, _⟩ := T
  refine ⟨fun z => ?_, fun z => ?_⟩
  · rw [z, h1] at e; cases e; exact ho _ rfl
  · rw [z, h2] at e; cases e; exact ho _ rfl
theorem Tape.off {cl : Addr} {H : Hp} {tp : Addr} {B : Int} (T : Tape cl H tp B) {d : Addr} (e : H d = none) : d ≠ tp ∧ d ≠ cl := by
  obtain ⟨ns, spot, rest, left, h1, h2, _⟩ := T
  refine ⟨fun z => ?_, fun z => ?_⟩
  · rw [z, h1] at e; cases e
  · rw [z, h2] at e; cases e
theorem Tape.upd {cl : Addr} {H : Hp} {tp : Addr} {B B' : Int} (T : Tape cl H tp B) {l : Addr} (o : HO) (h1 : l ≠ tp) (h2 : l ≠ cl) (hB : B ≤ B') : Tape cl (upd H l o) tp B' := by
  obtain ⟨ns, spot, rest, left, e1, e2, e3, e4, e5⟩ := T
  exact ⟨ns, spot, rest, left, by rw [upd_ne (Ne.symm h1)]; exact e1, by rw [upd_ne (Ne.symm h2)]; exact e2, e3, e4, by omega⟩
theorem but_put {p l : Addr} {H H' : Hp} {o : HO} (b : But p H H') (n : H l = none) : But p H (upd H' l o) := fun c u h hc => by
  rw [upd_ne (ne_of_none h n)]
  exact b c u h hc
theorem Tape.aside {cl : Addr} {H H' : Hp} {tp d : Addr} {B : Int} (T : Tape cl H tp B) (b : But d H H') (h1 : d ≠ tp) (h2 : d ≠ cl) : Tape cl H' tp B := by
  obtain ⟨ns, spot, rest, left, e1, e2, e3⟩ := T
  exact ⟨ns, spot, rest, left, b _ _ e1 (Ne.symm h1), b _ _ e2 (Ne.symm h2), e3⟩
theorem at_mem {ns : List Int} {i : Int} (h0 : 0 ≤ i) (h1 : i < ns.length) : ∃ c : Int, atI (ns.map V.int) i = some (.int c) ∧ c ∈ ns := by
  obtain ⟨j, rfl⟩ := Int.eq_ofNat_of_zero_le h0
  have hj : j < ns.length := by omega
  exact ⟨ns[j], atI_nat (by simp [hj]), List.getElem_mem hj⟩
theorem at_get {ns : List Int} {i : Int} (h0 : 0 ≤ i) (h1 : i < ns.length) : ∃ c : Int, atI (ns.map V.int) i = some (.int c) ∧ ns[i.toNat]? = some c := by
  obtain ⟨j, rfl⟩ := Int.eq_ofNat_of_zero_le h0
  have hj : j < ns.length := by omega
  exact ⟨ns[j], atI_nat (by simp [hj]), by simp [hj]⟩
theorem sum_set : ∀ {ns : List Int} {j : Nat} {c : Int}, ns[j]? = some c → (ns.set j (c + 1)).sum = ns.sum + 1
  | [], j, c, h => by simp at h
  | n :: r, 0, c, h => by
    simp only [List.getElem?_cons_zero, Option.some.injEq] at h
    rw [List.set_cons_zero, List.sum_cons, List.sum_cons, h]
    omega
  | n :: r, j + 1, c, h => by
    have ih := sum_set (ns := r) (j := j) (c := c) (by simpa using h)
    rw [List.set_cons_succ, List.sum_cons, List.sum_cons, ih]
    omega
noncomputable abbrev z4 : Sz := ⟨4, 44, 56, 4⟩
noncomputable def spFound : Sp := fun vs H Q _ => ∃ (tp : Addr) (many : Nat) (B : Int), vs = [.ref tp, .int many] ∧ 1 ≤ many ∧ many ≤ 4 ∧ ∃ cl, Tape cl H tp B ∧ B < 2 ^ 30 ∧
  ∀ (d : Addr) (E : List Ent) (H' : Hp), H d = none → But tp H H' → Tape cl H' tp (B + 50) → H' d = some (.dT (E.map Ent.kv)) → DB H' many z4 E → Q (.ref d) H'
inductive DrI (H : Hp) (cl tp d : Addr) (many : Nat) (B : Int) (i : Nat) : L2.St → Hp → Prop where
  | mk {u v x y : Option V} {H' : Hp} {E : List Ent} (b : But tp H H') (T : Tape cl H' tp (B + 1 + 11 * i)) (e : H' d = some (.dT (E.map Ent.kv))) (db : DB H' many ⟨4, 40 + i, 14 * i, i⟩ E) : DrI H cl tp d many B i [some (.ref tp), some (.int many), some (.ref d), u, v, x, y] H'
inductive DrJ (H : Hp) (cl tp d l : Addr) (many i : Nat) (B : Int) (E : List Ent) (j : Nat) : L2.St → Hp → Prop where
  | mk {x y : Option V} {H' : Hp} {ns : List Int} (b : But tp H H') (T : Tape cl H' tp (B + 1 + 11 * i + 1 + j)) (e : H' d = some (.dT (E.map Ent.kv))) (db : DB H' many ⟨4, 40 + i, 14 * i, i⟩ E) (el : H' l = some (.lst (ns.map V.int))) (ln : ns.length = many) (nn : ∀ n ∈ ns, 0 ≤ n) (sm : ns.sum = j) :
    DrJ H cl tp d l many i B E j [some (.ref tp), some (.int many), some (.ref d), some (.int (0 + (i : Int))), some (.ref l), x, y] H'
section
variable {P : Program} {w : World} {K : PySem.W.Frag} {mg : Str → Option Value} {base : Heap} {f fd : _}
theorem scDrawn : FnScope ["tape", "many", "found", "k", "powers", "turn", "letter"] ["tape", "many"] (defScope sDrawn) := ⟨rfl, rfl, rfl, by decide +kernel, rfl, by decide +kernel, by decide +kernel⟩
theorem ok_found {fD fP fN : Addr} {fdD fdP fdN : FuncData} (F : Fun K "_law_drawn" "_law_drawn" sDrawn f fd) (T : Txt mg) (DD : Df K mg "_law_draw" sDraw ["tape", "many"] fD fdD) (GD : FnOk P w K mg base CX0 1 fD fdD ["tape", "many"] spDraw) (DP : Df K mg "_law_put" sPut ["found", "powers", "number"] fP fdP) (GP : FnOk P w K mg base CX0 2 fP fdP ["found", "powers", "number"] spPut)
    (DN : Df K mg "_law_number" sNumber ["tape"] fN fdN) (GN : FnOk P w K mg base CX0 2 fN fdN ["tape"] (spDrawn 6 (2 ^ 38))) : FnOk P w K mg base CX0 3 f fd ["tape", "many"] spFound := by
  refine F.ok scDrawn (fun vs H Q E h => ?_) (fun cdv A outer s H vs Q E hr h => ?_)
  · obtain ⟨tp, many, B, rfl, _⟩ := h
    rfl
  · obtain ⟨tp, many, B, rfl, m1, m4, cl, hT, hB, go⟩ := h
    have hr1 : Room 1 _ := hr.mono (by decide)
    refine ⟨_, pss_cons (ps_set (i := 2) scDrawn.nd rfl (Or.inl rfl) (pe_dnewT)) (pss_cons (ps_for PassesOwn.never rfl (pi_range1 (by rfl) T.rng (pa_cons (pe_op op_add pe_int (pe_call GD hr1 rfl DD.m DD.F.kp DD.b .nil pass0 (pa_cons (pv 0) (pa_cons pe_int pa_nil)))) pa_nil)) (pg_name (i := 3) scDrawn.nd rfl (Or.inl rfl)) (pss_cons (ps_set (i := 4) scDrawn.nd rfl (Or.inl rfl) (pe_op op_rep (pe_lstF (pa_cons pe_int pa_nil)) (pv 1))) (pss_cons (ps_for PassesOwn.never rfl (pi_range1 (by rfl) T.rng (pa_cons (pe_call GD hr1 rfl DD.m DD.F.kp DD.b .nil pass0 (pa_cons (pv 0) (pa_cons pe_int pa_nil))) pa_nil)) (pg_name (i := 5) scDrawn.nd rfl (Or.inl rfl)) (pss_cons (ps_set (i := 6) scDrawn.nd rfl (Or.inl rfl) (pe_call GD hr1 rfl DD.m DD.F.kp DD.b .nil pass0 (pa_cons (pv 0) (pa_cons (pv 1) pa_nil)))) (pss_one (ps_asg (pe_op op_add (pe_ix ix_list (pv 4) (pv 6) (fun _ _ => rfl)) pe_int) (pg_sub (pv 4) (pv 6) set_list))))) (pss_one (ps_expr (pe_call GP hr rfl DP.m DP.F.kp DP.b .nil pass0 (pa_cons (pv 2) (pa_cons (pe_callTy call_tuple_of (by rfl) T.tup boot_tuple (pa_cons (pv 4) pa_nil)) (pa_cons (pe_call GN hr rfl DN.m DN.F.kp DN.b .nil pass0 (pa_cons (pv 0) pa_nil)) pa_nil))))))))) (pss_one (ps_ret (pv 2)))), ?_⟩
    try dsimp only [cxK]
    intro d nd
    have od := hT.off nd
    have T0 : Tape cl (upd H d (.dT [])) tp B := hT.upd _ od.1 od.2 (Int.le_refl _)
    refine dDraw rfl T0 (by omega) (by decide) (by decide) fun c H1 c0 c1 T1 b1 => ⟨_, _, rfl, rfl, _, rfl, by omega, by omega, ?_⟩
    have B1 : But tp H H1 := (but_put (But.refl tp H) nd).trans b1
    have p30 : (2 : Int) ^ 30 + 300 < 2 ^ 37 := by decide
    have cn : (1 + c).toNat ≤ 4 := by omega
    refine for_range (DrI H cl tp d many B) (.mk (E := []) B1 (T1.mono (Same.refl _) (by omega)) (b1 _ _ upd_same od.1) ⟨List.nodup_nil, (fun e h => nomatch h), Nat.le_refl _, Nat.le_refl _⟩) (fun i σ H2 hi h => ?_) (fun σ H2 h => ?_)
    · obtain ⟨b2, T2, e2, db⟩ := h
      rename_i E2
      have hi4 : i < 4 := by omega
      refine ⟨(by show 1 ≤ sizeLine; decide), fun z0 H3 n3 s3 e3 => ⟨_, rfl, z0, many, [.int 0], rfl, rfl, e3, by omega, by omega, ?_, fun l nl => ?_⟩⟩
      · show 1 * (many : Int).toNat ≤ sizeLine
        exact Nat.le_trans (show 1 * (many : Int).toNat ≤ 4 by omega) (by decide)
      have T3 := T2.mono s3 (Int.le_refl _)
      have B3 : But tp H H3 := b2.trans (But.of s3)
      have lo := T3.off nl
      have hnl : H l = none := none_of_but B3 nl lo.1
      have hl0 : (List.replicate (many : Int).toNat [V.int 0]).flatten = (List.replicate many (0 : Int)).map V.int := by simp
      rw [hl0]
      have s4 : Same H3 (upd H3 l (.lst ((List.replicate many (0 : Int)).map V.int))) := same_upd _ nl
      have e4 : (upd H3 l (.lst ((List.replicate many (0 : Int)).map V.int))) l = some (.lst ((List.replicate many (0 : Int)).map V.int)) := upd_same
      generalize upd H3 l (.lst ((List.replicate many (0 : Int)).map V.int)) = H4 at s4 e4
      have s24 := s3.trans s4
      have T4 := T3.mono s4 (Int.le_refl _)
      refine dDraw rfl T4 (by omega) (by decide) (by decide) fun n H5 n0 n1 T5 b5 => ⟨n, rfl, by omega, by omega, ?_⟩
      have dn := T4.ne (s24 _ _ e2) (fun _ z => by cases z)
      refine for_range (DrJ H cl tp d l many i B E2) (.mk (b2.trans ((But.of s24).trans b5)) (T5.mono (Same.refl _) (by omega)) (b5 _ _ (s24 _ _ e2) dn.1) (db.kp ((Kp.of s24).trans (Kp.butT b5 T4))) (b5 _ _ e4 lo.1) (by simp) (fun n hn => by rw [(List.mem_replicate.mp hn).2]; exact Int.le_refl _) (by simp)) (fun j σ H6 hj h => ?_) (fun σ H6 h => ?_)
      · obtain ⟨b6, T6, e6, db6, el, ln, hns, hsm⟩ := h
        rename_i ns
        refine ⟨_, rfl, _, rfl, tp, many, _, rfl, cl, T6, by omega, by omega, by omega, fun r' H9 r0' r1' T9 b9 => ?_⟩
        have e9 := b9 _ _ el lo.1
        obtain ⟨c', hc', hcm⟩ := at_get (ns := ns) r0' (by rw [ln]; exact r1')
        have dn6 := T6.ne e6 (fun _ z => by cases z)
        have ld : d ≠ l := fun z => by rw [z, el] at e6; cases e6
        refine ⟨_, rfl, _, rfl, l, _, r', _, rfl, rfl, SqL.of e9, hc', _, _, rfl, rfl, _, rfl, _, rfl, l, _, r', r'.toNat, rfl, rfl, e9, ?_, ?_⟩
        · unfold ixN
          rw [if_pos r0', if_pos (by rw [List.length_map, ln]; exact r1')]
        · refine .mk (ns := ns.set r'.toNat (c' + 1)) (but_put (b6.trans b9) hnl) (T9.upd _ lo.1 lo.2 (by omega)) (by rw [upd_ne ld]; exact b9 _ _ e6 dn6.1) (db6.kp ((Kp.butT b9 T6).trans (Kp.upd e9 trivial))) (by rw [upd_same, List.map_set]) (by rw [List.length_set]; exact ln) (fun n hn => ?_) ?_
          · rcases List.mem_or_eq_of_mem_set hn with hn | rfl
            · exact hns n hn
            · have := hns c' (List.mem_of_getElem? hcm)
              omega
          · rw [sum_set hcm, hsm]
            omega
      · obtain ⟨b6, T6, e6, db6, el, ln, hns, hsm⟩ := h
        rename_i ns
        refine ⟨_, rfl, _, rfl, l, _, rfl, .inl ⟨SqL.of el, fun b nb => ?_⟩⟩
        have sb : Same H6 (upd H6 b (.tup (ns.map V.int))) := same_upd _ nb
        have eb : (upd H6 b (.tup (ns.map V.int))) b = some (.tup (ns.map V.int)) := upd_same
        generalize upd H6 b (.tup (ns.map V.int)) = H7 at sb eb
        have T7 := T6.mono sb (Int.le_refl _)
        have bo := T6.off nb
        have dn7 := T7.ne (sb _ _ e6) (fun _ z => by cases z)
        refine ⟨_, rfl, tp, _, rfl, cl, T7, by omega, fun r t b' H8 fr e8 rne T8 b8 nw => ?_⟩
        have k8 := (Kp.of sb).trans (Kp.butT b8 T7)
        have d8 := b8 _ _ (sb _ _ e6) dn7.1
        have nn : (n.toNat : Int) ≤ 4 := by omega
        have pb : (1 : Nat) ≤ b'.natAbs := by have := fr.pos; omega
        refine ⟨d, b, r, ns, t, b', many, 14, _, _, rfl, d8, db6.kp k8, by show 14 * i + 14 ≤ 7900; omega, by show 40 + i ≤ 4000; omega, by show i ≤ 1000; omega, b8 _ _ eb bo.1, ln, hns, by show ns.sum ≤ ((4 : Nat) : Int); omega, e8, fr.pos, Nat.le_of_lt fr.sb, ?_, fun E' H9 b9 e9 db9 _ => ?_⟩
        · refine Nat.le_trans (Nat.le_of_lt fr.st) (Nat.le_trans (Nat.pow_le_pow_right (by decide) (show 40 ≤ 40 + i by omega)) ?_)
          exact Nat.le_mul_of_pos_right _ (by omega)
        · have dn8 := T8.ne d8 (fun _ z => by cases z)
          refine .mk (fun c o hc hn => ?_) ((T8.aside b9 dn8.1 dn8.2).mono (Same.refl _) (by omega)) e9 db9
          exact b9 _ _ (b8 _ _ (sb _ _ (b6 _ _ hc hn)) hn) (fun z => by rw [z, nd] at hc; cases hc)
    · obtain ⟨b2, T2, e2, db⟩ := h
      exact ⟨_, rfl, go d _ H2 nd b2 (T2.mono (Same.refl _) (by omega)) e2 (db.up (Nat.le_refl _) (by show 40 + (1 + c).toNat ≤ 44; omega) (by show 14 * (1 + c).toNat ≤ 56; omega) cn)⟩
end
end Lw

namespace Lw
open PySem PySem.Spec PyProof.Rows L2 LwQ LwV
noncomputable def kLst : Kd → Bool
  | .lst => true
  | _ => false
theorem isi_lst : Isi "list" kLst := fun K k => by cases k <;> rfl
noncomputable def spNumA : Sp := fun vs H Q _ => ∃ (a : Addr) (t b : Int), vs = [.ref a] ∧ At2 H a t b ∧ 0 < b ∧ Int.gcd t b = 1 ∧ b.natAbs < 2 ^ 8000 ∧ ∀ H', Same H H' → Q (.bl true) H'
structure SqB (s : Sqr) : Prop where
  pos : 0 < s.b
  low : Int.gcd s.t s.b = 1
  sb : s.b.natAbs ≤ 2 ^ s.kw
  st : s.t.natAbs ≤ 2 ^ 60 * s.b.natAbs
  kw : s.kw ≤ 100
  D : s.z.D ≤ 4
  n1 : 1 ≤ s.z.n
  n : s.z.n ≤ 8
  S : s.z.S ≤ 200
  v : s.z.v ≤ 60
theorem SqB.ok {s : Sqr} (h : SqB s) : SqrOk s := by
  refine ⟨h.pos, h.low, h.sb, ?_, by have := h.kw; omega, h.D, by have := h.n; omega, by have := h.S; omega, by have := h.v; omega⟩
  refine Nat.le_trans h.st (Nat.le_trans (Nat.mul_le_mul_left _ h.sb) ?_)
  rw [← Nat.pow_add]
  exact Nat.pow_le_pow_right (by decide) (by have := h.kw; omega)
noncomputable def Sqr.gb (s : Sqr) : Nat := 2 * (s.z.n * s.z.S) + s.z.n * (s.z.n + 1) / 2 * s.kw
theorem SqB.n36 {s : Sqr} (h : SqB s) : s.z.n * (s.z.n + 1) / 2 ≤ 36 := by
  have : s.z.n * (s.z.n + 1) ≤ 8 * 9 := Nat.mul_le_mul h.n (Nat.succ_le_succ h.n)
  omega
theorem SqB.n64 {s : Sqr} (h : SqB s) : s.z.n * s.z.n ≤ 64 := Nat.mul_le_mul h.n h.n
theorem SqB.gle {s : Sqr} (h : SqB s) : s.g ≤ s.gb := by
  have a := Nat.mul_le_mul_right s.z.S h.n1
  have b : 1 ≤ s.z.n * (s.z.n + 1) / 2 := by
    have : 1 * 2 ≤ s.z.n * (s.z.n + 1) := Nat.mul_le_mul h.n1 (Nat.succ_le_succ h.n1)
    omega
  have c := Nat.mul_le_mul_right s.kw b
  unfold Sqr.g Sqr.gb
  omega
theorem gb_take {L : List Sqr} {i : Nat} {s : Sqr} (h : L[i]? = some s) : ((L.take (i + 1)).map Sqr.gb).sum = ((L.take i).map Sqr.gb).sum + s.gb := by
  rw [List.take_add_one, h, List.map_append, List.sum_append]
  rfl
theorem gb_le (L : List Sqr) (i : Nat) : ((L.take i).map Sqr.gb).sum ≤ (L.map Sqr.gb).sum := by
  conv => rhs; rw [← List.take_append_drop i L, List.map_append, List.sum_append]
  exact Nat.le_add_right ..
theorem g_le : ∀ {L : List Sqr}, (∀ s ∈ L, SqB s) → (L.map Sqr.g).sum ≤ (L.map Sqr.gb).sum
  | [], _ => Nat.le_refl _
  | s :: L, h => by
    have := g_le (L := L) fun x hx => h x (by simp [hx])
    have := (h s (by simp)).gle
    rw [List.map_cons, List.map_cons, List.sum_cons, List.sum_cons]
    omega
noncomputable def spBorne : Sp := fun vs H Q _ => ∃ (d ls : Addr) (many : Nat) (z : Sz) (E1 : List Ent) (xs : List V) (L : List Sqr), vs = [.ref d, .int many, .ref ls] ∧ FQ H d many z E1 ∧ H ls = some (.lst xs) ∧ Paired (SqP H many) xs L ∧ (∀ s ∈ L, SqB s) ∧ (L.map Sqr.gb).sum ≤ 7900 ∧ L.length ≤ 20 ∧ 1 ≤ many ∧ many ≤ 4 ∧ z.S ≤ 7900 ∧ z.v ≤ 4000 ∧
  ∀ (b : Bool) (H' : Hp), Same H H' → (b = true ↔ Bear L (pl E1)) → Q (.bl b) H'
inductive BoI (H : Hp) (d ls : Addr) (many : Nat) (L : List Sqr) (i : Nat) : L2.St → Hp → Prop where
  | mk {u4 u5 u6 : Option V} {H' : Hp} {td : Addr} {E' : List Ent} (s : Same H H') (fq : FQ H' td many ⟨8, 300 + 36 * i, ((L.take i).map Sqr.gb).sum, 36 * i⟩ E') (nn : ∀ s ∈ L.take i, 0 ≤ s.t) (c : ∀ m, cf (pl E') m = sqs ((L.take i).map Sqr.pr) m) : BoI H d ls many L i [some (.ref d), some (.int many), some (.ref ls), some (.ref td), u4, u5, u6] H'
section
variable {P : Program} {w : World} {K : PySem.W.Frag} {mg : Str → Option Value} {base : Heap} {f fd : _}
theorem scNum : FnScope ["thing", "one"] ["thing"] (defScope sNum) := ⟨rfl, rfl, rfl, by decide +kernel, rfl, by decide +kernel, by decide +kernel⟩
theorem ok_numA {fL : Addr} {fdL : FuncData} (F : Fun K "_law_is_number" "_law_is_number" sNum f fd) (T : Txt mg) (DL : Df K mg "_law_low" sLow ["top", "bottom"] fL fdL) (GL : FnOk P w K mg base CX0 1 fL fdL ["top", "bottom"] spLow) : FnOk P w K mg base CX0 2 f fd ["thing"] spNumA := by
  refine F.ok scNum (fun vs H Q E h => ?_) (fun cdv A outer s H vs Q E hr h => ?_)
  · obtain ⟨a, t, b, rfl, _⟩ := h
    rfl
  · obtain ⟨a, t, b, rfl, ha, pb, lw, sb, q⟩ := h
    have hu := hr.units0
    refine ⟨_, pss_cons (ps_if (PW.pt (pw_or (pt_not (pt_val (pe_isi isi_tup T.isi T.tup boot_tuple (pv 0)))) (pw_or1 (pt_cmpR op_ne (pe_callB call_len_seq (by rfl) T.len PySem.boot_len (pa_cons (pv 0) pa_nil)) pe_int (nomark _))))) (pss_one (ps_ret pe_bl)) pss_nil)
      (pss_cons (ps_for PassesOwn.never rfl (pi_tup (pv 0)) (pg_name (i := 1) scNum.nd rfl (Or.inl rfl))
        (pss_one (ps_if (PW.pt (pw_or (pt_not (pt_val (pe_isi isi_int T.isi T.int boot_int (pv 1)))) (pw_or1 (pt_val (pe_isi isi_bool T.isi T.bool boot_bool (pv 1)))))) (pss_one (ps_ret pe_bl)) pss_nil)))
      (pss_one (ps_ret (pe_and (pe_cmpR op_gt (pe_ix ix_tup (pv 0) pe_int (fun _ _ => rfl)) pe_int (nomark _))
        (pe_one (pe_cmpR (op_eqT hu) (pe_call GL hr rfl DL.m DL.F.kp DL.b .nil pass0 (pa_cons (pe_ix ix_tup (pv 0) pe_int (fun _ _ => rfl)) (pa_cons (pe_ix ix_tup (pv 0) pe_int (fun _ _ => rfl)) pa_nil))) (pv 0) (nomark _))))))), ?_⟩
    try dsimp only [cxK]
    have hs := SqT.of (K := K) ha
    refine ⟨_, rfl, rfl, .tup, .tup ha, _, rfl, iteF ?_⟩
    refine ⟨_, rfl, a, _, rfl, .inr hs, rfl, _, rfl, iteF ?_⟩
    refine ⟨_, rfl, a, rfl, ⟨_, hs⟩, for_tup (K := K) (a := a) (xs := [.int t, .int b]) (fun i σ H1 => H1 = H ∧ ∃ v, σ = [some (.ref a), v]) ⟨rfl, _, rfl⟩ (fun i σ H1 _ h => by obtain ⟨rfl, _⟩ := h; exact hs) ?_ ?_⟩
    · rintro i z σ H1 hz ⟨rfl, v, rfl⟩
      obtain ⟨n, rfl⟩ : ∃ n, z = .int n := by
        match i, hz with
        | 0, hz => cases hz; exact ⟨_, rfl⟩
        | 1, hz => cases hz; exact ⟨_, rfl⟩
        | _ + 2, hz => cases hz
      refine ⟨_, rfl, rfl, .int, .int n, _, rfl, iteF ⟨_, rfl, rfl, .int, .int n, _, rfl, iteF ?_⟩⟩
      exact ⟨rfl, _, rfl⟩
    · rintro σ H1 ⟨rfl, v, rfl⟩
      refine (rvT rfl hs rfl ⟨_, _, rfl, rfl, _, rfl, iteP (decide_eq_true pb) ?_⟩)
      refine (rvT rfl hs rfl (rvT rfl hs rfl ⟨t, b, rfl, by omega, .inl sb, fun p H' n s1 e1 => ?_⟩))
      refine ⟨_, rfl, p, a, [lowT t b, lowB t b], [t, b], rfl, rfl, SqT.of e1, sqT_same s1 hs, ?_⟩
      have e : [lowT t b, lowB t b] = [t, b] := by
        obtain ⟨z1, z2⟩ := (LwM.low_same t b pb).mpr lw
        rw [(low_pos pb).1, (low_pos pb).2, z1, z2]
      rw [decide_eq_true e]
      exact q H' s1
theorem scBorne : FnScope ["one", "many", "some", "total", "row", "line", "square"] ["one", "many", "some"] (defScope sBorne) := ⟨rfl, rfl, rfl, by decide +kernel, rfl, by decide +kernel, by decide +kernel⟩
theorem ok_borne {fN fP fA fS fM : Addr} {fdN fdP fdA fdS fdM : FuncData} (F : Fun K "_law_borne" "_law_borne" sBorne f fd) (T : Txt mg) (DN : Df K mg "_law_is_number" sNum ["thing"] fN fdN) (GN : FnOk P w K mg base CX0 2 fN fdN ["thing"] spNumA) (DP : Df K mg "_law_product" sProd ["one", "other"] fP fdP) (GP : FnOk P w K mg base CX0 3 fP fdP ["one", "other"] spSq)
    (DA : Df K mg "_law_added" sAdded ["one", "other"] fA fdA) (GA : FnOk P w K mg base CX0 3 fA fdA ["one", "other"] spAdded) (DS : Df K mg "_law_scaled" sScaled ["one", "number"] fS fdS) (GS : FnOk P w K mg base CX0 2 fS fdS ["one", "number"] spScaled) (DM : Df K mg "_law_same" sSame ["one", "other"] fM fdM) (GM : FnOk P w K mg base CX0 2 fM fdM ["one", "other"] spSame) : FnOk P w K mg base CX0 4 f fd ["one", "many", "some"] spBorne := by
  refine F.ok scBorne (fun vs H Q E h => ?_) (fun cdv A outer s H vs Q E hr h => ?_)
  · obtain ⟨d, ls, many, z, E1, xs, L, rfl, _⟩ := h
    rfl
  · obtain ⟨d, ls, many, z, E1, xs, L, rfl, hd, hls, hL, lok, hg, h20, m1, m4, zS, zv, go⟩ := h
    have hr2 : Room 2 _ := hr.mono (by decide)
    have hu2 : _ + 2 < cLine := Nat.lt_of_le_of_lt (Nat.add_le_add_left (by decide : 2 ≤ 64) _) hr.units
    refine ⟨_, pss_cons (ps_if (pt_not (pt_val (pe_isi isi_lst T.isi T.lst boot_list (pv 2)))) (pss_one (ps_ret pe_bl)) pss_nil)
      (pss_cons (ps_set (i := 3) scBorne.nd rfl (Or.inl rfl) (LwD.pe_frz pe_dnewT))
      (pss_cons (ps_for PassesOwn.never rfl (pi_list (pv 2)) (pg_name (i := 4) scBorne.nd rfl (Or.inl rfl))
        (pss_cons (ps_if (PW.pt (pw_or (pt_not (pt_val (pe_isi isi_tup T.isi T.tup boot_tuple (pv 4)))) (pw_or (pt_cmpR op_ne (pe_callB call_len_seq (by rfl) T.len PySem.boot_len (pa_cons (pv 4) pa_nil)) pe_int (nomark _)) (pw_or1 (pt_cmpR op_ne (pe_ix ix_tup (pe_ix ix_tup (pv 4) pe_int (fun _ _ => rfl)) pe_int (fun _ _ => rfl)) (pv 1) (nomark _)))))) (pss_one (ps_ret pe_bl)) pss_nil)
        (pss_cons (ps_if (PW.pt (pw_or (pt_not (pt_val (pe_call GN hr2 rfl DN.m DN.F.kp DN.b .nil pass0 (pa_cons (pe_ix ix_tup (pv 4) pe_int (fun _ _ => rfl)) pa_nil)))) (pw_or1 (pt_cmpR op_lt (pe_ix ix_tup (pe_ix ix_tup (pv 4) pe_int (fun _ _ => rfl)) pe_int (fun _ _ => rfl)) pe_int (nomark _))))) (pss_one (ps_ret pe_bl)) pss_nil)
        (pss_cons (ps_set (i := 5) scBorne.nd rfl (Or.inl rfl) (LwD.pe_frz (pe_callTy (LwD.call_dictT rfl hu2) (by rfl) T.dct boot_dict (pa_cons (pe_ix ix_tup (pe_ix ix_tup (pv 4) pe_int (fun _ _ => rfl)) pe_int (fun _ _ => rfl)) pa_nil))))
        (pss_cons (ps_set (i := 6) scBorne.nd rfl (Or.inl rfl) (LwD.pe_frz (pe_call GP hr rfl DP.m DP.F.kp DP.b .nil pass0 (pa_cons (pv 5) (pa_cons (pv 5) pa_nil)))))
        (pss_one (ps_set (i := 3) scBorne.nd rfl (Or.inl rfl) (LwD.pe_frz (pe_call GA hr rfl DA.m DA.F.kp DA.b .nil pass0 (pa_cons (pv 3) (pa_cons (LwD.pe_frz (pe_call GS hr2 rfl DS.m DS.F.kp DS.b .nil pass0 (pa_cons (pv 6) (pa_cons (pe_ix ix_tup (pv 4) pe_int (fun _ _ => rfl)) pa_nil)))) pa_nil)))))))))))
      (pss_one (ps_ret (pe_call GM hr2 rfl DM.m DM.F.kp DM.b .nil pass0 (pa_cons (pv 3) (pa_cons (pv 0) pa_nil))))))), ?_⟩
    try dsimp only [cxK]
    have lx := Paired.length hL
    refine ⟨_, rfl, rfl, .lst, .lst hls, _, rfl, iteF ?_⟩
    intro t0 nt0
    refine ⟨t0, [], rfl, upd_same, fun o0 => ?_⟩
    have e0 : (upd H t0 (.dT [])) t0 = some (.dT (([] : List Ent).map Ent.kv)) := upd_same
    obtain ⟨s1, F1⟩ : Same H (upd (upd H t0 (.dT [])) t0 (.frz o0 (.dT []))) ∧ FQ (upd (upd H t0 (.dT [])) t0 (.frz o0 (.dT []))) t0 many ⟨8, 300, 0, 0⟩ [] := frz_new (E := []) nt0 (same_upd _ nt0) ⟨List.nodup_nil, (fun e h => nomatch h), Nat.le_refl _, Nat.le_refl _⟩ e0
    generalize upd (upd H t0 (.dT [])) t0 (.frz o0 (.dT [])) = H1 at s1 F1
    refine ⟨_, rfl, ls, rfl, ⟨xs, SqL.of (s1 _ _ hls)⟩, ?_⟩
    refine for_list (K := K) (a := ls) (xs := xs) (BoI H d ls many L) (.mk s1 F1 (fun s h => nomatch h) fun m => rfl) (fun i σ H2 _ h => ?_) (fun i x σ H2 hx h => ?_) (fun σ H2 h => ?_)
    · obtain ⟨s2, _, _, _⟩ := h
      exact SqL.of (s2 _ _ hls)
    · obtain ⟨s2, F2, nn, c2⟩ := h
      rename_i td E2
      obtain ⟨y, hy', ⟨r, wa, p', rfl, t1, t2, t3⟩⟩ := Paired.at hL hx
      have yM := List.mem_of_getElem? hy'
      have ok := lok y yM
      have hi : i < L.length := (List.getElem?_eq_some_iff.mp hy').1
      have gt := gb_take hy'
      have gl := gb_le L (i + 1)
      have n36 := ok.n36
      have n64 := ok.n64
      have okv := ok.v
      have okw := ok.kw
      obtain ⟨q, oq, tx, EE, e1, e2, e3, hpi, db, epl⟩ := (t3.kp (Kp.of s2)).ents
      have r2 := SqT.of (K := K) (s2 _ _ t1)
      refine ⟨_, rfl, rfl, .tup, .tup (s2 _ _ t1), _, rfl, iteF ?_⟩
      refine ⟨_, rfl, r, _, rfl, .inr r2, rfl, _, rfl, iteF ?_⟩
      refine ⟨_, rfl, r, _, _, _, rfl, rfl, r2, rfl, p', _, _, _, rfl, rfl, SqT.of e1, rfl, _, rfl, rfl, _, rfl, iteN (by rw [dec_ints]; simp) ?_⟩
      refine rvT rfl r2 rfl ⟨wa, y.t, y.b, rfl, s2 _ _ t2, ok.pos, ok.low, bot_fit ok.sb (by omega), fun H3 s3 => ⟨_, rfl, iteF ?_⟩⟩
      have s03 := s2.trans s3
      have r3 := SqT.of (K := K) (s03 _ _ t1)
      refine ⟨_, rfl, r, _, _, _, rfl, rfl, r3, rfl, wa, _, _, _, rfl, rfl, SqT.of (s03 _ _ t2), rfl, _, _, rfl, rfl, _, rfl, ?_⟩
      by_cases neg : y.t < 0
      · refine iteP (decide_eq_true neg) (go false H3 s03 ⟨(fun h => nomatch h), fun h => ?_⟩)
        have := h.1 y yM
        omega
      refine iteN (decide_eq_false neg) ?_
      have hpi3 : LwD.PairsIn H3 tx (EE.map Ent.kv) := Paired.to (fun v x h => by
        obtain ⟨r, b, h1, h2, h3⟩ := h
        exact ⟨r, b, h1, Rd.same h2 s3, s3 _ _ h3⟩) hpi
      refine ⟨_, rfl, r, _, _, _, rfl, rfl, r3, rfl, p', _, _, _, rfl, rfl, SqT.of (s3 _ _ e1), rfl, q, oq, tx, _, rfl, s3 _ _ e2, e3, hpi3, kvs_nodup db.nd, fun ld H4 n4 s4 e4 => ⟨ld, _, rfl, e4, fun o4 => ?_⟩⟩
      obtain ⟨s5, F5⟩ := frz_new (o := o4) n4 s4 (db.kp (Kp.of (s3.trans s4))) e4
      generalize upd H4 ld (.frz o4 (.dT (EE.map Ent.kv))) = H5 at s5 F5
      have gb7 : 2 * (y.z.n * y.z.S) ≤ 7900 := by
        have : 2 * (y.z.n * y.z.S) ≤ y.gb := Nat.le_add_right ..
        omega
      refine ⟨_, rfl, _, rfl, ld, many, y.z, EE, rfl, F5, m4, gb7, by omega, by have := ok.n; omega, fun sd E6 H6 n6 s6 e6 db6 c6 => ⟨sd, _, rfl, e6, fun o6 => ?_⟩⟩
      obtain ⟨s7, F7⟩ := frz_new (o := o6) n6 s6 db6 e6
      generalize upd H6 sd (.frz o6 (.dT (E6.map Ent.kv))) = H7 at s7 F7
      have s07 := s03.trans (s5.trans s7)
      refine ⟨_, rfl, _, rfl, rvT rfl (SqT.of (s07 _ _ t1)) rfl ⟨sd, wa, many, y.kw, 60, _, E6, y.t, y.b, rfl, F7, s07 _ _ t2, ok.pos, ok.sb, ok.st, gb7, by show 2 * y.z.v + y.z.n * y.z.n ≤ 4000; omega, by show y.z.n * (y.z.n + 1) / 2 ≤ 1000; omega, by omega, by decide, fun wd E8 H8 n8 s8 e8 db8 c8 _ => ⟨wd, _, rfl, e8, fun o8 => ?_⟩⟩⟩
      obtain ⟨s9, F9⟩ := frz_new (o := o8) n8 s8 db8 e8
      generalize upd H8 wd (.frz o8 (.dT (E8.map Ent.kv))) = H9 at s9 F9
      have s29 := s3.trans (s5.trans (s7.trans s9))
      have yg : 2 * (y.z.n * y.z.S) + y.z.n * (y.z.n + 1) / 2 * y.kw = y.gb := rfl
      refine ⟨td, wd, many, _, _, E2, E8, rfl, F2.kp (Kp.of s29), F9, m1, m4, ?_, ?_, (by show 8 ≤ 8; decide), ?_, ?_, ?_, fun nd E10 H10 n10 s10 e10 db10 c10 => ⟨nd, _, rfl, e10, fun o10 => ?_⟩⟩
      · have := ok.D; show 2 * y.z.D ≤ 8; omega
      · show 2 * y.z.v + y.z.n * y.z.n + 60 ≤ 300 + 36 * i; omega
      · show _ + (2 * (y.z.n * y.z.S) + y.z.n * (y.z.n + 1) / 2 * y.kw) ≤ 7900; rw [yg]; show ((L.take i).map Sqr.gb).sum + y.gb ≤ 7900; omega
      · show 300 + 36 * i + y.z.n * (y.z.n + 1) / 2 ≤ 4000; omega
      · show 36 * i + y.z.n * (y.z.n + 1) / 2 ≤ 1000; omega
      obtain ⟨s11, F11⟩ := frz_new (o := o10) n10 s10 db10 e10
      generalize upd H10 nd (.frz o10 (.dT (E10.map Ent.kv))) = H11 at s11 F11
      refine .mk (s2.trans (s29.trans s11)) ⟨F11.fr, F11.db.up (Nat.le_refl _) ?_ ?_ ?_⟩ (fun s hs => ?_) fun m => ?_
      · show 300 + 36 * i + y.z.n * (y.z.n + 1) / 2 ≤ 300 + 36 * (i + 1); omega
      · rw [gt]; exact Nat.le_refl _
      · show 36 * i + y.z.n * (y.z.n + 1) / 2 ≤ 36 * (i + 1); omega
      · rw [List.take_add_one, hy'] at hs
        rcases List.mem_append.mp hs with hs | hs
        · exact nn s hs
        · have : s = y := by simpa using hs
          rw [this]
          omega
      · rw [c10, c2, c8, c6, List.take_add_one, hy', List.map_append, sqs_app, epl]
        show _ + _ = _ + ((y.t : Rat) / (y.b : Rat) * cf (hs (tl y.ts)) m + 0)
        grind
    · obtain ⟨s2, F2, nn, c2⟩ := h
      rw [lx, List.take_length] at F2 nn c2
      refine ⟨_, rfl, _, rfl, _, d, many, _, z, _, E1, rfl, F2, hd.kp (Kp.of s2), hg, by show 300 + 36 * L.length ≤ 4000; omega, by show 36 * L.length ≤ 1000; omega, zS, zv, fun b H3 s3 hb => ?_⟩
      refine go b H3 (s2.trans s3) (hb.trans ⟨fun h => ⟨nn, fun m => by rw [← c2]; exact h m⟩, fun h m => by rw [c2]; exact h.2 m⟩)
end
end Lw

namespace Lw
open PySem PySem.Spec PyProof.Rows L2 LwQ LwV
theorem vals_same : ∀ {xs : List V} {us ws : List Value}, (∀ x ∈ xs, ∃ p, x = .ref p) → Vals xs us → Vals xs ws → us = ws
  | _, _, _, _, .nil, .nil => rfl
  | _, _, _, h, .cons h1 t1, .cons h2 t2 => by
    obtain ⟨p, e⟩ := h _ (List.mem_cons_self ..)
    subst e
    cases h1
    cases h2
    rw [vals_same (fun x hx => h x (List.mem_cons_of_mem _ hx)) t1 t2]
section
variable {X : Cx}
noncomputable def rNeS : R2 := fun x y H Q => ∃ (a b : Addr) (xs : List V), x = .ref a ∧ y = .ref b ∧ H a = some (.lst xs) ∧ H b = some (.lst xs) ∧ (∀ x ∈ xs, ∃ p, x = .ref p) ∧ Q (.bl false) H
theorem op_neS (hu : X.A.units < cLine) : OpR X (compareOp .NotEq) rNeS := by
  intro pins s σ H x y v u Q I rx ry h
  obtain ⟨a, b, xs, rfl, rfl, ha, hb, hx, q⟩ := h
  cases rx
  cases ry
  obtain ⟨i1, v1, p1, _⟩ := I.list (SqL.of ha)
  obtain ⟨i2, v2, p2, _⟩ := I.list (SqL.of hb)
  have e := vals_same hx v1 v2
  subst e
  refine SeqAt.RcNeAt.lists (e := fun _ => true) p1.isList p2.isList rfl hu (fun j h1 h2 => SeqAt.EqAt.same _) _ _ _ _ ?_
  have : (!(List.range i1.toArray.size).all fun _ => true) = false := by simp
  rw [this]
  exact ⟨.bl false, H, I, rfl, q⟩
end
structure Lnr where
  t : Int
  b : Int
  kw : Nat
  z : Sz
  E : List Ent
structure LnP (H : Hp) (many : Nat) (v : V) (s : Lnr) : Prop where
  ex : ∃ r wa d : Addr, v = .ref r ∧ H r = some (.tup [.ref wa, .ref d]) ∧ At2 H wa s.t s.b ∧ FQ H d many s.z s.E
theorem LnP.kp {H H' : Hp} {many : Nat} {v : V} {s : Lnr} (h : LnP H many v s) (k : Kp H H') : LnP H' many v s := by
  obtain ⟨r, wa, p, e1, e2, e3, e4⟩ := h.ex
  exact ⟨r, wa, p, e1, k.tup _ _ e2, k.tup _ _ e3, e4.kp k⟩
structure LnB (s : Lnr) : Prop where
  pos : 0 < s.b
  sb : s.b.natAbs ≤ 2 ^ s.kw
  st : s.t.natAbs ≤ 2 ^ 60 * s.b.natAbs
  kw : s.kw ≤ 100
  D : s.z.D ≤ 4
  n1 : 1 ≤ s.z.n
  n : s.z.n ≤ 8
  S : s.z.S ≤ 200
  v : s.z.v ≤ 60
noncomputable def Lnr.gb (s : Lnr) : Nat := 2 * (s.z.n * s.z.S) + s.z.n * (s.z.n + 1) / 2 * s.kw
noncomputable def Lnr.pr (s : Lnr) : Rat × Pl := ((s.t : Rat) / (s.b : Rat), pl s.E)
noncomputable def BearL (L : List Lnr) (P : Pl) : Prop := (∀ s ∈ L, 0 ≤ s.t) ∧ ∀ m, sqs (L.map Lnr.pr) m = cf P m
structure Hnd (s : Sqr) (l : Lnr) : Prop where
  t : s.t = lowT l.t l.b
  b : s.b = lowB l.t l.b
  kw : s.kw = l.kw
  z : s.z = l.z
  p : (tl s.ts).Perm (pl l.E)
theorem low_weight {l : Lnr} (h : LnB l) : 0 < lowB l.t l.b ∧ Int.gcd (lowT l.t l.b) (lowB l.t l.b) = 1 ∧ (lowB l.t l.b).natAbs ≤ 2 ^ l.kw ∧ (lowT l.t l.b).natAbs ≤ 2 ^ 60 * (lowB l.t l.b).natAbs ∧ (0 ≤ lowT l.t l.b ↔ 0 ≤ l.t) := by
  have g1 := LwM.gcd_pos l.t l.b h.pos
  have d1 : (Int.gcd l.t l.b : Int) ∣ l.t := Int.gcd_dvd_left ..
  have e1 : l.t / (Int.gcd l.t l.b : Int) * (Int.gcd l.t l.b : Int) = l.t := Int.ediv_mul_cancel d1
  have sg : 0 ≤ lowT l.t l.b ↔ 0 ≤ l.t := by
    rw [low_posT h.pos]
    generalize l.t / (Int.gcd l.t l.b : Int) = t' at e1
    generalize (Int.gcd l.t l.b : Int) = g at *
    constructor
    · intro h
      rw [← e1]
      exact Int.mul_nonneg h (by omega)
    · intro h
      refine Classical.byContradiction fun n => ?_
      have : t' * g < 0 := Int.mul_neg_of_neg_of_pos (by omega) (by omega)
      omega
  by_cases t0 : l.t = 0
  · have e : lowT l.t l.b = 0 ∧ lowB l.t l.b = 1 := by
      rw [low_posT h.pos, low_posB h.pos, t0, Int.gcd_zero_left]
      refine ⟨by simp, ?_⟩
      rw [show ((l.b.natAbs : Nat) : Int) = l.b by have := h.pos; omega]
      exact Int.ediv_self (by have := h.pos; omega)
    rw [e.1, e.2]
    refine ⟨by decide, by decide, Nat.one_le_two_pow, by simp, ?_⟩
    rw [t0]
  · obtain ⟨a1, a2, a3, a4, a5⟩ := low_all h.pos t0 h.sb h.st
    exact ⟨a1, a3, a4, a5, sg⟩
theorem Hnd.sqb {s : Sqr} {l : Lnr} (h : Hnd s l) (b : LnB l) : SqB s := by
  obtain ⟨a1, a2, a3, a4, a5⟩ := low_weight b
  exact ⟨by rw [h.b]; exact a1, by rw [h.t, h.b]; exact a2, by rw [h.b, h.kw]; exact a3, by rw [h.t, h.b]; exact a4, by rw [h.kw]; exact b.kw, by rw [h.z]; exact b.D, by rw [h.z]; exact b.n1, by rw [h.z]; exact b.n, by rw [h.z]; exact b.S, by rw [h.z]; exact b.v⟩
theorem hnd_gb : ∀ {L' : List Sqr} {L : List Lnr}, Paired Hnd L' L → L'.map Sqr.gb = L.map Lnr.gb
  | _, _, .nil => rfl
  | _, _, .cons h t => by
    rw [List.map_cons, List.map_cons, hnd_gb t]
    congr 1
    unfold Sqr.gb Lnr.gb
    rw [h.kw, h.z]
theorem hnd_sqs : ∀ {L' : List Sqr} {L : List Lnr}, Paired Hnd L' L → (∀ l ∈ L, LnB l) → (∀ m, sqs (L'.map Sqr.pr) m = sqs (L.map Lnr.pr) m) ∧ ((∀ s ∈ L', 0 ≤ s.t) ↔ ∀ l ∈ L, 0 ≤ l.t) ∧ ∀ s ∈ L', SqB s
  | _, _, .nil, _ => ⟨fun _ => rfl, ⟨(fun _ l h => nomatch h), fun _ s h => nomatch h⟩, fun s h => nomatch h⟩
  | _, _, .cons (l₁ := L1) (l₂ := L2) h t, hb => by
    rename_i s l
    obtain ⟨a1, a2, a3⟩ := hnd_sqs t fun x hx => hb x (List.mem_cons_of_mem _ hx)
    have bl := hb l (List.mem_cons_self ..)
    obtain ⟨_, _, _, _, sg⟩ := low_weight bl
    refine ⟨fun m => ?_, ⟨fun k x hx => ?_, fun k x hx => ?_⟩, fun x hx => ?_⟩
    · show (s.t : Rat) / (s.b : Rat) * cf (hs (tl s.ts)) m + sqs (L1.map Sqr.pr) m = (l.t : Rat) / (l.b : Rat) * cf (hs (pl l.E)) m + sqs (L2.map Lnr.pr) m
      rw [a1, hs_perm h.p, h.t, h.b, low_val bl.pos]
    · rcases List.mem_cons.mp hx with rfl | hx
      · have := k s (List.mem_cons_self ..)
        rw [h.t] at this
        exact sg.mp this
      · exact a2.mp (fun y hy => k y (List.mem_cons_of_mem _ hy)) x hx
    · rcases List.mem_cons.mp hx with rfl | hx
      · rw [h.t]
        exact sg.mpr (k l (List.mem_cons_self ..))
      · exact a2.mpr (fun y hy => k y (List.mem_cons_of_mem _ hy)) x hx
    · rcases List.mem_cons.mp hx with rfl | hx
      · exact h.sqb bl
      · exact a3 x hx
theorem bear_iff {L' : List Sqr} {L : List Lnr} (h : Paired Hnd L' L) (hb : ∀ l ∈ L, LnB l) {P P' : Pl} (hP : ∀ m, cf P m = cf P' m) : Bear L' P ↔ BearL L P' := by
  obtain ⟨a1, a2, _⟩ := hnd_sqs h hb
  unfold Bear BearL
  rw [a2]
  exact ⟨fun k => ⟨k.1, fun m => by rw [← a1, ← hP]; exact k.2 m⟩, fun k => ⟨k.1, fun m => by rw [a1, hP]; exact k.2 m⟩⟩
end Lw

namespace Lw
open PySem PySem.Spec PyProof.Rows L2 LwQ LwV
noncomputable def spTold : Sp := fun vs H Q _ => ∃ (d ls : Addr) (due : V) (many : Nat) (z : Sz) (E1 : List Ent) (xs : List V) (L : List Lnr), vs = [.ref d, .int many, .ref ls, due] ∧ FQ H d many z E1 ∧ H ls = some (.lst xs) ∧ Paired (LnP H many) xs L ∧ (∀ s ∈ L, LnB s) ∧ (L.map Lnr.gb).sum ≤ 7800 ∧ L.length ≤ 20 ∧ 1 ≤ many ∧ many ≤ 4 ∧ z.D ≤ 8 ∧ z.S ≤ 7900 ∧ z.v ≤ 4000 ∧ z.n ≤ 63 ∧
  (due = .non ∨ ∃ b0, due = .bl b0 ∧ (b0 = true ↔ BearL L (pl E1))) ∧ ∀ H', Same H H' → Q (.bl true) H'
inductive ToI (H : Hp) (d ls l : Addr) (many : Nat) (due : V) (L : List Lnr) (i : Nat) : L2.St → Hp → Prop where
  | mk {u5 u6 u7 u8 : Option V} {H' : Hp} {ys : List V} {L' : List Sqr} (s : Same H H') (e : H' l = some (.lst ys)) (p : Paired (SqP H' many) ys L') (h : Paired Hnd L' (L.take i)) : ToI H d ls l many due L i [some (.ref d), some (.int many), some (.ref ls), some due, some (.ref l), u5, u6, u7, u8] H'
theorem refs_of {H : Hp} {many : Nat} : ∀ {ys : List V} {L : List Sqr}, Paired (SqP H many) ys L → ∀ x ∈ ys, ∃ p, x = .ref p
  | _, _, .nil, _, h => nomatch h
  | _, _, .cons h t, x, hx => by
    rcases List.mem_cons.mp hx with rfl | hx
    · obtain ⟨r, _, _, e, _⟩ := h.ex
      exact ⟨r, e⟩
    · exact refs_of t x hx
theorem bool_eq {a b : Bool} {p : Prop} (h1 : a = true ↔ p) (h2 : b = true ↔ p) : decide (V.bl a = V.bl b) = true := by
  have : a = b := by
    cases a <;> cases b
    · rfl
    · exact absurd (h1.mpr (h2.mp rfl)) (by decide)
    · exact absurd (h2.mpr (h1.mp rfl)) (by decide)
    · rfl
  rw [this]
  simp
section
variable {P : Program} {w : World} {K : PySem.W.Frag} {mg : Str → Option Value} {base : Heap} {f fd : _}
theorem scTold : FnScope ["one", "many", "some", "due", "handed", "weight", "line", "seen", "found"] ["one", "many", "some", "due"] (defScope sTold) := ⟨rfl, rfl, rfl, by decide +kernel, rfl, by decide +kernel, by decide +kernel⟩
theorem ok_told {fL fM fA fB : Addr} {fdL fdM fdA fdB : FuncData} (F : Fun K "_law_told" "_law_told" sTold f fd) (T : Txt mg) (DL : Df K mg "_law_low" sLow ["top", "bottom"] fL fdL) (GL : FnOk P w K mg base CX0 1 fL fdL ["top", "bottom"] spLow) (DM : Df K mg "_law_sum" sLSum ["many", "one"] fM fdM) (GM : FnOk P w K mg base CX0 2 fM fdM ["many", "one"] spLSum)
    (DA : Df K mg "are_squares" sAre ["one", "some"] fA fdA) (GA : FnOk P w K mg base CX0 7 fA fdA ["one", "some"] spAre) (DB' : Df K mg "_law_borne" sBorne ["one", "many", "some"] fB fdB) (GB : FnOk P w K mg base CX0 4 fB fdB ["one", "many", "some"] spBorne) : FnOk P w K mg base CX0 8 f fd ["one", "many", "some", "due"] spTold := by
  refine F.ok scTold (fun vs H Q E h => ?_) (fun cdv A outer s H vs Q E hr h => ?_)
  · obtain ⟨d, ls, due, many, z, E1, xs, L, rfl, _⟩ := h
    rfl
  · obtain ⟨d, ls, due, many, z, E1, xs, L, rfl, hd, hls, hL, lok, hg, h20, m1, m4, zD, zS, zv, zn, hdue, go⟩ := h
    have hr1 : Room 1 _ := hr.mono (by decide)
    have hr2 : Room 2 _ := hr.mono (by decide)
    have hr4 : Room 4 _ := hr.mono (by decide)
    refine ⟨_, pss_cons (ps_set (i := 4) scTold.nd rfl (Or.inl rfl) (pe_lstF pa_nil))
      (pss_cons (ps_for PassesOwn.never rfl (pi_list (pv 2)) (pg_tup rfl (pgs_cons (pg_name (i := 5) scTold.nd rfl (Or.inl rfl)) (pgs_cons (pg_name (i := 6) scTold.nd rfl (Or.inl rfl)) pgs_nil)))
        (pss_cons (ps_set (i := 5) scTold.nd rfl (Or.inl rfl) (pe_call GL hr1 rfl DL.m DL.F.kp DL.b .nil pass0 (pa_cons (pe_ix ix_tup (pv 5) pe_int (fun _ _ => rfl)) (pa_cons (pe_ix ix_tup (pv 5) pe_int (fun _ _ => rfl)) pa_nil))))
        (pss_one (ps_expr (pe_bm PySem.F.plainAttrs_list PySem.F.slot_list_append PySem.F.type_list_append mt_append (pv 4) (pa_cons (pe_tupF (pa_cons (pv 5) (pa_cons (pe_call GM hr2 rfl DM.m DM.F.kp DM.b .nil pass0 (pa_cons (pv 1) (pa_cons (pv 6) pa_nil))) pa_nil))) pa_nil))))))
      (pss_cons (ps_set (i := 7) scTold.nd rfl (Or.inl rfl) (pe_callTy call_listF (by rfl) T.lst boot_list (pa_cons (pv 4) pa_nil)))
      (pss_cons (ps_set (i := 8) scTold.nd rfl (Or.inl rfl) (pe_call GA hr rfl DA.m DA.F.kp DA.b .nil pass0 (pa_cons (pe_call GM hr2 rfl DM.m DM.F.kp DM.b .nil pass0 (pa_cons (pv 1) (pa_cons (pv 0) pa_nil))) (pa_cons (pv 4) pa_nil))))
      (pss_cons (ps_if (PW.pt (pw_or (pt_not (pt_val (pe_isi isi_bool T.isi T.bool boot_bool (pv 8)))) (pw_or1 (pt_cmpR (op_neS hr.units0) (pv 4) (pv 7) (nomark _))))) (pss_one (ps_ret pe_bl)) pss_nil)
      (pss_cons (ps_if (pt_cmp (pc_isN (pv 3))) (pss_one (ps_set (i := 3) scTold.nd rfl (Or.inl rfl) (pe_call GB hr4 rfl DB'.m DB'.F.kp DB'.b .nil pass0 (pa_cons (pv 0) (pa_cons (pv 1) (pa_cons (pv 4) pa_nil)))))) pss_nil)
      (pss_one (ps_ret (pe_cmpR op_eq (pv 8) (pv 3) (nomark _))))))))), ?_⟩
    try dsimp only [cxK]
    have lx := Paired.length hL
    refine ⟨(by show 0 ≤ sizeLine; decide), fun l H1 n1 s1 e1 => ?_⟩
    refine ⟨_, rfl, ls, rfl, ⟨xs, SqL.of (s1 _ _ hls)⟩, ?_⟩
    refine for_list (K := K) (a := ls) (xs := xs) (ToI H d ls l many due L) (.mk s1 e1 .nil .nil) (fun i σ H2 _ h => ?_) (fun i x σ H2 hx h => ?_) (fun σ H2 h => ?_)
    · obtain ⟨s2, _, _, _⟩ := h
      exact SqL.of (s2 _ _ hls)
    · obtain ⟨s2, e2, p2, h2⟩ := h
      rename_i ys L'
      obtain ⟨y, hy', ⟨r, wa, ld, rfl, t1, t2, t3⟩⟩ := Paired.at hL hx
      have ok := lok y (List.mem_of_getElem? hy')
      have hi : i < L.length := (List.getElem?_eq_some_iff.mp hy').1
      refine ⟨r, _, rfl, SqT.of (s2 _ _ t1), rfl, _, _, rfl, _, _, rfl, rfl, ?_⟩
      refine rvT rfl (SqT.of (s2 _ _ t2)) rfl (rvT rfl (SqT.of (s2 _ _ t2)) rfl ⟨y.t, y.b, rfl, by have := ok.pos; omega, .inl (bot_fit ok.sb (by have := ok.kw; omega)), fun wa3 H3 n3 s3 e3 => ?_⟩)
      have s03 := s2.trans s3
      have F3 := t3.kp (Kp.of s03)
      refine ⟨_, rfl, .inl ⟨rfl, _, SqL.of (s3 _ _ e2)⟩, _, rfl, _, rfl, _, rfl, ld, many, y.z, y.E, rfl, F3.rd, F3.db, m1, by have := ok.n; omega, by have := ok.S; omega, fun p4 ts H4 n4 s4 P4 perm => ⟨(by show 2 ≤ sizeLine; decide), fun q H5 n5 s5 e5 => ?_⟩⟩
      have s25 := s3.trans (s4.trans s5)
      have e25 := s25 _ _ e2
      have ly := Paired.length p2
      have lh := Paired.length h2
      rw [List.length_take] at lh
      refine ⟨l, _, _, rfl, rfl, e25, Nat.lt_of_le_of_lt (show ys.length ≤ 20 by omega) (by decide), ?_⟩
      have k5 : Kp H5 (upd H5 l (.lst (ys ++ [.ref q]))) := Kp.upd e25 trivial
      refine .mk (L' := L' ++ [⟨lowT y.t y.b, lowB y.t y.b, y.kw, y.z, ts⟩]) (put_same (s2.trans s25) n1) upd_same (Paired.app (Paired.to (fun _ _ h => h.kp ((Kp.of s25).trans k5)) p2) (.cons ⟨q, wa3, p4, rfl, k5.tup _ _ e5, k5.tup _ _ (s5 _ _ (s4 _ _ e3)), P4.kp ((Kp.of s5).trans k5)⟩ .nil)) ?_
      rw [List.take_add_one, hy']
      exact Paired.app h2 (.cons ⟨rfl, rfl, rfl, rfl, perm⟩ .nil)
    · obtain ⟨s2, e2, p2, h2⟩ := h
      rename_i ys L'
      rw [lx, List.take_length] at h2
      have lh := Paired.length h2
      obtain ⟨_, _, sqb⟩ := hnd_sqs h2 lok
      have gsum : (L'.map Sqr.gb).sum ≤ 7800 := by rw [hnd_gb h2]; exact hg
      refine ⟨_, rfl, l, ys, rfl, .inl (SqL.of e2), fun l3 H3 n3 s3 e3 => ?_⟩
      have F3 := hd.kp (Kp.of (s2.trans s3))
      refine ⟨_, rfl, _, rfl, d, many, z, E1, rfl, F3.rd, F3.db, m1, zn, zS, fun p4 ts H4 n4 s4 P4 perm => ?_⟩
      have s34 := s3.trans s4
      refine ⟨_, rfl, p4, l, many, z, ts, ys, L', rfl, P4, s34 _ _ e2, Paired.to (fun _ _ h => h.kp (Kp.of s34)) p2, fun s hs => (sqb s hs).ok, Nat.le_trans (g_le sqb) gsum, by omega, m1, m4, zD, zS, zv, by omega, fun b H5 s5 hb => ?_⟩
      have s35 := s34.trans s5
      have s05 := s2.trans s35
      have hb2 : b = true ↔ BearL L (pl E1) := hb.trans (bear_iff h2 lok fun m => cf_perm perm m)
      refine ⟨_, rfl, rfl, .bl, .bl b, _, rfl, iteF ?_⟩
      refine ⟨_, rfl, _, rfl, l, l3, ys, rfl, rfl, s35 _ _ e2, s5 _ _ (s4 _ _ e3), refs_of p2, _, rfl, iteF ?_⟩
      rcases hdue with rfl | ⟨b0, rfl, hb0⟩
      · refine ⟨_, rfl, _, rfl, iteT ?_⟩
        refine ⟨_, rfl, _, rfl, _, rfl, d, l, many, z, E1, ys, L', rfl, hd.kp (Kp.of s05), s35 _ _ e2, Paired.to (fun _ _ h => h.kp (Kp.of s35)) p2, sqb, by omega, by omega, m1, m4, zS, zv, fun b1 H6 s6 hb1 => ?_⟩
        have hb3 : b1 = true ↔ BearL L (pl E1) := hb1.trans (bear_iff h2 lok fun m => rfl)
        refine ⟨_, rfl, _, rfl, rfl, ?_⟩
        rw [bool_eq hb2 hb3]
        exact go H6 (s05.trans s6)
      · refine ⟨_, rfl, _, rfl, iteF ?_⟩
        refine ⟨_, rfl, _, rfl, rfl, ?_⟩
        rw [bool_eq hb2 hb0]
        exact go H5 s05
end
end Lw

namespace Lw
open PySem PySem.Spec PyProof.Rows L2 LwQ LwV
theorem low_wt {t b : Int} {v k : Nat} (hb : 0 < b) (sb : b.natAbs ≤ 2 ^ k) (st : t.natAbs ≤ 2 ^ v * b.natAbs) : 0 < lowB t b ∧ (lowB t b).natAbs ≤ 2 ^ k ∧ (lowT t b).natAbs ≤ 2 ^ v * (lowB t b).natAbs ∧ (0 ≤ t → 0 ≤ lowT t b) := by
  have g1 := LwM.gcd_pos t b hb
  have sg : 0 ≤ t → 0 ≤ lowT t b := fun h => by
    rw [low_posT hb]
    exact Int.ediv_nonneg h (by omega)
  by_cases t0 : t = 0
  · have e : lowT t b = 0 ∧ lowB t b = 1 := by
      rw [low_posT hb, low_posB hb, t0, Int.gcd_zero_left]
      refine ⟨by simp, ?_⟩
      rw [show ((b.natAbs : Nat) : Int) = b by omega]
      exact Int.ediv_self (by omega)
    rw [e.1, e.2]
    exact ⟨by decide, Nat.one_le_two_pow, by simp, fun _ => by decide⟩
  · obtain ⟨a1, _, _, a4, a5⟩ := low_all hb t0 sb st
    exact ⟨a1, a4, a5, sg⟩
structure L4 (k : Nat) (s : Lnr) : Prop where
  pos : 0 < s.b
  sb : s.b.natAbs ≤ 2 ^ s.kw
  st : s.t.natAbs ≤ 2 ^ 50 * s.b.natAbs
  kw : s.kw ≤ k
  z : s.z = z4
theorem L4.up {k k' : Nat} {s : Lnr} (h : L4 k s) (l : k ≤ k') : L4 k' s := ⟨h.pos, h.sb, h.st, Nat.le_trans h.kw l, h.z⟩
theorem L4.lnb {k : Nat} {s : Lnr} (h : L4 k s) (l : k ≤ 100) : LnB s := by
  have z := h.z
  exact ⟨h.pos, h.sb, up_ratio h.st (by decide), Nat.le_trans h.kw l, by rw [z]; decide, by rw [z]; decide, by rw [z]; decide, by rw [z]; decide, by rw [z]; decide⟩
theorem L4.gb {k : Nat} {s : Lnr} (h : L4 k s) : s.gb ≤ 448 + 10 * k := by
  unfold Lnr.gb
  rw [h.z]
  have := h.kw
  show 2 * (4 * 56) + 4 * (4 + 1) / 2 * s.kw ≤ _
  omega
theorem gb_sum {k : Nat} : ∀ {L : List Lnr}, (∀ s ∈ L, L4 k s) → (L.map Lnr.gb).sum ≤ L.length * (448 + 10 * k)
  | [], _ => Nat.zero_le _
  | s :: L, h => by
    have := gb_sum (L := L) fun x hx => h x (by simp [hx])
    have := (h s (by simp)).gb
    rw [List.map_cons, List.sum_cons, List.length_cons, Nat.succ_mul]
    omega
structure Like (L L' : List Lnr) : Prop where
  nn : (∀ s ∈ L, 0 ≤ s.t) → ∀ s ∈ L', 0 ≤ s.t
  eq : ∀ m, sqs (L'.map Lnr.pr) m = sqs (L.map Lnr.pr) m
noncomputable def spOther : Sp := fun vs H Q _ => ∃ (tp ls : Addr) (many : Nat) (B : Int) (xs : List V) (L : List Lnr), vs = [.ref tp, .int many, .ref ls] ∧ ls ≠ tp ∧ H ls = some (.lst xs) ∧ Paired (LnP H many) xs L ∧ (∀ s ∈ L, L4 14 s) ∧ L.length ≤ 4 ∧ 1 ≤ many ∧ many ≤ 4 ∧ ∃ cl, Tape cl H tp B ∧ B < 2 ^ 29 ∧
  ∀ (p : Addr) (ys : List V) (L' : List Lnr) (H' : Hp), H p = none → But tp H H' → Tape cl H' tp (B + 100) → H' p = some (.lst ys) → Paired (LnP H' many) ys L' → (∀ s ∈ L', L4 17 s) → L'.length ≤ 9 → L.length ≤ L'.length → Like L L' → Q (.ref p) H'
inductive OtI (H : Hp) (cl tp ls : Addr) (many : Nat) (B : Int) (L : List Lnr) (i : Nat) : L2.St → Hp → Prop where
  | mk {u4 u5 u6 u7 u8 : Option V} {H' : Hp} {p : Addr} {ys : List V} {L' : List Lnr} (n : H p = none) (b : But tp H H') (T : Tape cl H' tp (B + 2 * i)) (e : H' p = some (.lst ys)) (pr : Paired (LnP H' many) ys L') (ok : ∀ s ∈ L', L4 17 s) (l2 : L'.length ≤ 2 * i) (l1 : i ≤ L'.length) (lk : Like (L.take i) L') : OtI H cl tp ls many B L i [some (.ref tp), some (.int many), some (.ref ls), some (.ref p), u4, u5, u6, u7, u8] H'
inductive OtJ (H H2 : Hp) (cl tp ls p wa : Addr) (many : Nat) (B : Int) (y : Lnr) : L2.St → Hp → Prop where
  | mk {u6 u7 u8 : Option V} {H' : Hp} {d : Addr} {E : List Ent} (b : But tp H2 H') (T : Tape cl H' tp B) (F : FQ H' d many z4 E) (c : ∀ m, cf (hs (pl E)) m = cf (hs (pl y.E)) m) : OtJ H H2 cl tp ls p wa many B y [some (.ref tp), some (.int many), some (.ref ls), some (.ref p), some (.ref wa), some (.ref d), u6, u7, u8] H'
theorem like_app {A A' C C' : List Lnr} (h : Like A A') (k : Like C C') : Like (A ++ C) (A' ++ C') :=
  ⟨fun nn s hs => (List.mem_append.mp hs).elim (h.nn (fun x hx => nn x (List.mem_append_left _ hx)) s) (k.nn (fun x hx => nn x (List.mem_append_right _ hx)) s), fun m => by rw [List.map_append, List.map_append, sqs_app, sqs_app, h.eq, k.eq]⟩
theorem sqs_perm {L M : List (Rat × Pl)} (h : L.Perm M) (m : List Int) : sqs L m = sqs M m := by
  induction h with
  | nil => rfl
  | cons x _ ih => show _ + sqs _ m = _ + sqs _ m; rw [ih]
  | swap x y l => show y.1 * _ + (x.1 * _ + sqs l m) = x.1 * _ + (y.1 * _ + sqs l m); grind
  | trans _ _ h1 h2 => exact h1.trans h2
theorem like_perm {A A' A'' : List Lnr} (h : Like A A') (p : A''.Perm A') : Like A A'' := ⟨fun nn s hs => h.nn nn s (p.mem_iff.mp hs), fun m => by rw [sqs_perm (p.map _), h.eq]⟩
end Lw

namespace Lw
open PySem PySem.Spec PyProof.Rows L2 LwQ LwV
theorem like_one {y p : Lnr} (ht : p.t = y.t) (hb : p.b = y.b) (c : ∀ m, cf (hs (pl p.E)) m = cf (hs (pl y.E)) m) : Like [y] [p] :=
  ⟨fun nn s hs => by rw [List.mem_singleton.mp hs, ht]; exact nn y (by simp), fun m => by show (p.t : Rat) / (p.b : Rat) * cf (hs (pl p.E)) m + 0 = (y.t : Rat) / (y.b : Rat) * cf (hs (pl y.E)) m + 0; rw [ht, hb, c]⟩
theorem like_two {y p q : Lnr} (hy : 0 < y.b) (hp : (p.t : Rat) / (p.b : Rat) = ((y.t * 2 : Int) : Rat) / ((y.b * 7 : Int) : Rat)) (hq : (q.t : Rat) / (q.b : Rat) = ((y.t * 5 : Int) : Rat) / ((y.b * 7 : Int) : Rat)) (np : 0 ≤ y.t → 0 ≤ p.t) (nq : 0 ≤ y.t → 0 ≤ q.t) (c : ∀ m, cf (hs (pl p.E)) m = cf (hs (pl y.E)) m) (d : ∀ m, cf (hs (pl q.E)) m = cf (hs (pl y.E)) m) : Like [y] [p, q] := by
  refine ⟨fun nn s hs => ?_, fun m => ?_⟩
  · have h0 := nn y (by simp)
    rcases List.mem_cons.mp hs with rfl | hs
    · exact np h0
    · rw [List.mem_singleton.mp hs]
      exact nq h0
  · show (p.t : Rat) / (p.b : Rat) * cf (hs (pl p.E)) m + ((q.t : Rat) / (q.b : Rat) * cf (hs (pl q.E)) m + 0) = (y.t : Rat) / (y.b : Rat) * cf (hs (pl y.E)) m + 0
    rw [hp, hq, c, d, Rat.intCast_mul, Rat.intCast_mul, Rat.intCast_mul]
    have h1 : (y.b : Rat) ≠ 0 := by simpa using (show y.b ≠ 0 by omega)
    have e2 : ((2 : Int) : Rat) = 2 := rfl
    have e5 : ((5 : Int) : Rat) = 5 := rfl
    have e7 : ((7 : Int) : Rat) = 7 := rfl
    rw [e2, e5, e7]
    generalize cf (hs (pl y.E)) m = C
    grind
section
variable {P : Program} {w : World} {K : PySem.W.Frag} {mg : Str → Option Value} {base : Heap} {f fd : _}
theorem scOther : FnScope ["tape", "many", "some", "found", "weight", "line", "way", "part", "rest"] ["tape", "many", "some"] (defScope sOther) := ⟨rfl, rfl, rfl, by decide +kernel, rfl, by decide +kernel, by decide +kernel⟩
theorem ok_other {fD fL fS fF : Addr} {fdD fdL fdS fdF : FuncData} (F : Fun K "_law_other" "_law_other" sOther f fd) (DD : Df K mg "_law_draw" sDraw ["tape", "many"] fD fdD) (GD : FnOk P w K mg base CX0 1 fD fdD ["tape", "many"] spDraw) (DL : Df K mg "_law_low" sLow ["top", "bottom"] fL fdL) (GL : FnOk P w K mg base CX0 1 fL fdL ["top", "bottom"] spLow)
    (DS : Df K mg "_law_scaled" sScaled ["one", "number"] fS fdS) (GS : FnOk P w K mg base CX0 2 fS fdS ["one", "number"] spScaled) (DF : Df K mg "_law_drawn" sDrawn ["tape", "many"] fF fdF) (GF : FnOk P w K mg base CX0 3 fF fdF ["tape", "many"] spFound) : FnOk P w K mg base CX0 4 f fd ["tape", "many", "some"] spOther := by
  refine F.ok scOther (fun vs H Q E h => ?_) (fun cdv A outer s H vs Q E hr h => ?_)
  · obtain ⟨tp, ls, many, B, xs, L, rfl, _⟩ := h
    rfl
  · obtain ⟨tp, ls, many, B, xs, L, rfl, lt, hls, hL, lok, h4, m1, m4, cl, hT, hB, go⟩ := h
    have hr1 : Room 1 _ := hr.mono (by decide)
    have hr2 : Room 2 _ := hr.mono (by decide)
    refine ⟨_, pss_cons (ps_set (i := 3) scOther.nd rfl (Or.inl rfl) (pe_lstF pa_nil))
      (pss_cons (ps_for PassesOwn.never rfl (pi_list (pv 2)) (pg_tup rfl (pgs_cons (pg_name (i := 4) scOther.nd rfl (Or.inl rfl)) (pgs_cons (pg_name (i := 5) scOther.nd rfl (Or.inl rfl)) pgs_nil)))
        (pss_cons (ps_if (pt_cmpR op_eq (pe_call GD hr1 rfl DD.m DD.F.kp DD.b .nil pass0 (pa_cons (pv 0) (pa_cons pe_int pa_nil))) pe_int (nomark _)) (pss_one (ps_set (i := 5) scOther.nd rfl (Or.inl rfl) (LwD.pe_frz (pe_call GS hr2 rfl DS.m DS.F.kp DS.b .nil pass0 (pa_cons (pv 5) (pa_cons (pe_tupF (pa_cons (pe_op op_sub pe_int pe_int) (pa_cons pe_int pa_nil))) pa_nil)))))) pss_nil)
        (pss_cons (ps_set (i := 6) scOther.nd rfl (Or.inl rfl) (pe_call GD hr1 rfl DD.m DD.F.kp DD.b .nil pass0 (pa_cons (pv 0) (pa_cons pe_int pa_nil))))
        (pss_one (ps_if (pt_cmpR op_eq (pv 6) pe_int (nomark _))
          (pss_cons (ps_set (i := 7) scOther.nd rfl (Or.inl rfl) (pe_call GL hr1 rfl DL.m DL.F.kp DL.b .nil pass0 (pa_cons (pe_op op_mulL (pe_ix ix_tup (pv 4) pe_int (fun _ _ => rfl)) pe_int) (pa_cons (pe_op op_mulL (pe_ix ix_tup (pv 4) pe_int (fun _ _ => rfl)) pe_int) pa_nil))))
          (pss_cons (ps_set (i := 8) scOther.nd rfl (Or.inl rfl) (pe_call GL hr1 rfl DL.m DL.F.kp DL.b .nil pass0 (pa_cons (pe_op op_mulL (pe_ix ix_tup (pv 4) pe_int (fun _ _ => rfl)) pe_int) (pa_cons (pe_op op_mulL (pe_ix ix_tup (pv 4) pe_int (fun _ _ => rfl)) pe_int) pa_nil))))
          (pss_one (ps_set (i := 3) scOther.nd rfl (Or.inl rfl) (pe_op op_catF (pe_op op_catF (pe_lstF (pa_cons (pe_tupF (pa_cons (pv 7) (pa_cons (pv 5) pa_nil))) pa_nil)) (pv 3)) (pe_lstF (pa_cons (pe_tupF (pa_cons (pv 8) (pa_cons (pv 5) pa_nil))) pa_nil)))))))
          (pss_one (ps_set (i := 3) scOther.nd rfl (Or.inl rfl) (pe_op op_catF (pe_lstF (pa_cons (pe_tupF (pa_cons (pv 4) (pa_cons (pv 5) pa_nil))) pa_nil)) (pv 3)))))))))
      (pss_cons (ps_if (pt_cmpR op_eq (pe_call GD hr1 rfl DD.m DD.F.kp DD.b .nil pass0 (pa_cons (pv 0) (pa_cons pe_int pa_nil))) pe_int (nomark _)) (pss_one (ps_expr (pe_bm PySem.F.plainAttrs_list PySem.F.slot_list_append PySem.F.type_list_append mt_append (pv 3) (pa_cons (pe_tupF (pa_cons (pe_tupF (pa_cons pe_int (pa_cons pe_int pa_nil))) (pa_cons (LwD.pe_frz (pe_call GF hr rfl DF.m DF.F.kp DF.b .nil pass0 (pa_cons (pv 0) (pa_cons (pv 1) pa_nil)))) pa_nil))) pa_nil)))) pss_nil)
      (pss_one (ps_ret (pv 3))))), ?_⟩
    try dsimp only [cxK]
    have p29 : (2 : Int) ^ 29 + 1000 < 2 ^ 30 := by decide
    have lx := Paired.length hL
    refine ⟨(by show 0 ≤ sizeLine; decide), fun l0 H1 n1 s1 e1 => ?_⟩
    refine ⟨_, rfl, ls, rfl, ⟨xs, SqL.of (s1 _ _ hls)⟩, ?_⟩
    have ltp : ∀ {q : Addr}, H q = none → q ≠ tp := fun h => (hT.off h).1
    refine for_list (K := K) (a := ls) (xs := xs) (OtI H cl tp ls many B L) (.mk (L' := []) n1 (But.of s1) (hT.mono s1 (by omega)) e1 .nil (fun s h => nomatch h) (Nat.le_refl _) (Nat.le_refl _) ⟨(fun _ s h => nomatch h), fun _ => rfl⟩) (fun i σ H2 _ h => ?_) (fun i x σ H2 hx h => ?_) (fun σ H2 h => ?_)
    · obtain ⟨_, b2, _, _, _, _, _, _, _⟩ := h
      exact SqL.of (b2 _ _ hls lt)
    · obtain ⟨n2, b2, T2, e2, pr2, ok2, l2, l1, lk⟩ := h
      rename_i p ys L'
      obtain ⟨y, hy', ⟨r, wa, d, rfl, t1, t2, t3⟩⟩ := Paired.at hL hx
      have oky := lok y (List.mem_of_getElem? hy')
      have hi : i < L.length := (List.getElem?_eq_some_iff.mp hy').1
      have k2 := Kp.butT b2 hT
      have kwy := oky.kw
      have pt := ltp n2
      have yb : y.b.natAbs < 2 ^ 100 := bot_fit oky.sb (by omega)
      have yt : y.t.natAbs < 2 ^ 50000 := top_fit oky.st oky.sb (by omega)
      have ly := Paired.length pr2
      have F2 : FQ H2 d many z4 y.E := by rw [← oky.z]; exact t3.kp k2
      refine ⟨r, _, rfl, SqT.of (k2.tup _ _ t1), rfl, _, _, rfl, _, _, rfl, ?_⟩
      dsimp only [gName, gNil]
      refine ⟨rfl, seq_join (t := tIfS _ _ _) (OtJ H H2 cl tp ls p wa many (B + 2 * i + 1) y) (fun σ H5 h => ?_) (fun go2 => ?_)⟩
      · obtain ⟨b5, T5, F5, c5⟩ := h
        rename_i d5 E5
        refine dDraw rfl T5 (by omega) (by decide) (by decide) fun way H6 w0 w1 T6 b6 => ?_
        have K5 := Kp.butT b5 T2
        have K6 := Kp.butT b6 T5
        have e6 := b6 _ _ (b5 _ _ e2 pt) pt
        have B6 : But tp H H6 := (b2.trans b5).trans b6
        have wa6 : At2 H6 wa y.t y.b := K6.tup _ _ (K5.tup _ _ (k2.tup _ _ t2))
        have F6 := F5.kp K6
        have pr6 : Paired (LnP H6 many) ys L' := Paired.to (fun _ _ h => h.kp (K5.trans K6)) pr2
        have T6' : Tape cl H6 tp (B + 2 * ((i + 1 : Nat) : Int)) := T6.mono (Same.refl _) (by omega)
        have ys9 : ys.length ≤ 8 := by omega
        -- the list that is made
        have mk : ∀ (q : Addr) (zs : List V) (M : List Lnr) (H9 : Hp) (v6 v7 v8 : Option V), Same H6 H9 → H6 q = none → H9 q = some (.lst zs) → Paired (LnP H9 many) zs M → (∀ s ∈ M, L4 17 s) → M.length ≤ 2 * (i + 1) → i + 1 ≤ M.length → Like (L.take (i + 1)) M → OtI H cl tp ls many B L (i + 1) [some (.ref tp), some (.int many), some (.ref ls), some (.ref q), some (.ref wa), some (.ref d5), v6, v7, v8] H9 := fun q zs M H9 v6 v7 v8 s9 n9 e9 p9 o9 a1 a2 k9 =>
          .mk (none_of_but B6 n9 (T6.off n9).1) (B6.trans (But.of s9)) (T6'.mono s9 (Int.le_refl _)) e9 p9 o9 a1 a2 k9
        have tk : L.take (i + 1) = L.take i ++ [y] := by rw [List.take_add_one, hy']; rfl
        refine ⟨_, rfl, rfl, _, rfl, ?_⟩
        rw [dec_ints]
        refine ite2 (fun _ => ?_) (fun _ => ?_)
        · have b7 : (y.b * 7).natAbs ≤ 2 ^ (y.kw + 3) := by
            rw [Int.natAbs_mul, Nat.pow_add]
            exact Nat.mul_le_mul oky.sb (by decide)
          have pb7 : 0 < y.b * 7 := by have := oky.pos; omega
          have rt : ∀ c : Int, c.natAbs ≤ 7 → (y.t * c).natAbs ≤ 2 ^ 50 * (y.b * 7).natAbs := fun c hc => by
            rw [Int.natAbs_mul, Int.natAbs_mul, ← Nat.mul_assoc]
            exact Nat.mul_le_mul oky.st hc
          have w6 := SqT.of (K := K) wa6
          have m2 : ∀ c : Int, c.natAbs ≤ 7 → c.natAbs < 2 ^ 100000 := fun c hc => Nat.lt_of_le_of_lt hc (Nat.lt_of_lt_of_le (show 7 < 2 ^ 3 by decide) (Nat.pow_le_pow_right (by decide) (by decide)))
          have fit7 : LowFit (y.t * 2) (y.b * 7) ∧ LowFit (y.t * 5) (y.b * 7) := ⟨.inl (bot_fit b7 (by omega)), .inl (bot_fit b7 (by omega))⟩
          refine rvT rfl w6 rfl ⟨_, _, rfl, rfl, ⟨abs_up yt (by decide), m2 2 (by decide)⟩, rvT rfl w6 rfl ⟨_, _, rfl, rfl, ⟨abs_up yb (by decide), m2 7 (by decide)⟩, y.t * 2, y.b * 7, rfl, by omega, fit7.1, fun pa H7 n7 s7 e7 => ?_⟩⟩
          have w7 := SqT.of (K := K) (s7 _ _ wa6)
          refine rvT rfl w7 rfl ⟨_, _, rfl, rfl, ⟨abs_up yt (by decide), m2 5 (by decide)⟩, rvT rfl w7 rfl ⟨_, _, rfl, rfl, ⟨abs_up yb (by decide), m2 7 (by decide)⟩, y.t * 5, y.b * 7, rfl, by omega, fit7.2, fun re H8 n8 s8 e8 => ?_⟩⟩
          obtain ⟨a1, a2, a3, a4⟩ := low_wt pb7 b7 (rt 2 (by decide))
          obtain ⟨c1, c2, c3, c4⟩ := low_wt pb7 b7 (rt 5 (by decide))
          refine ⟨_, rfl, _, rfl, (by show 2 ≤ sizeLine; decide), fun q1 H9 n9 s9 e9 => ⟨(by show 1 ≤ sizeLine; decide), fun l9 H10 n10 s10 e10 => ⟨_, rfl, l9, p, _, ys, rfl, rfl, e10, ?_, ?_, fun l11 H11 n11 s11 e11 => ⟨_, rfl, _, rfl, (by show 2 ≤ sizeLine; decide), fun q2 H12 n12 s12 e12 => ⟨(by show 1 ≤ sizeLine; decide), fun l13 H13 n13 s13 e13 => ⟨l11, l13, _, _, rfl, rfl, s13 _ _ (s12 _ _ e11), e13, ?_, fun l14 H14 n14 s14 e14 => ?_⟩⟩⟩⟩⟩⟩
          · exact s10 _ _ (s9 _ _ (s8 _ _ (s7 _ _ e6)))
          · exact Nat.le_trans (show 1 + ys.length ≤ 9 by omega) (by decide)
          · rw [List.length_append]
            exact Nat.le_trans (show 1 + ys.length + 1 ≤ 10 by omega) (by decide)
          have s69 := s7.trans (s8.trans s9)
          have s912 := s10.trans (s11.trans s12)
          have s1214 := s13.trans s14
          have s614 := s69.trans (s912.trans s1214)
          have FA := F6.kp (Kp.of s614)
          refine mk l14 _ ([⟨lowT (y.t * 2) (y.b * 7), lowB (y.t * 2) (y.b * 7), y.kw + 3, z4, E5⟩] ++ L' ++ [⟨lowT (y.t * 5) (y.b * 7), lowB (y.t * 5) (y.b * 7), y.kw + 3, z4, E5⟩]) H14 _ _ _ s614 ((s69.trans (s912.trans s13)).free n14) e14 (Paired.app (Paired.app (.cons ⟨q1, pa, d5, rfl, s1214 _ _ (s912 _ _ e9), s1214 _ _ (s912 _ _ (s9 _ _ (s8 _ _ e7))), FA⟩ .nil) (Paired.to (fun _ _ h => h.kp (Kp.of s614)) pr6)) (.cons ⟨q2, re, d5, rfl, s1214 _ _ e12, s1214 _ _ (s912 _ _ (s9 _ _ e8)), FA⟩ .nil)) (fun s hs => ?_) ?_ ?_ ?_
          · rcases List.mem_append.mp hs with hs | hs
            · rcases List.mem_append.mp hs with hs | hs
              · rw [List.mem_singleton.mp hs]
                exact ⟨a1, a2, a3, by show y.kw + 3 ≤ 17; omega, rfl⟩
              · exact ok2 s hs
            · rw [List.mem_singleton.mp hs]
              exact ⟨c1, c2, c3, by show y.kw + 3 ≤ 17; omega, rfl⟩
          · rw [List.length_append, List.length_append]
            show 1 + L'.length + 1 ≤ _
            omega
          · rw [List.length_append, List.length_append]
            show _ ≤ 1 + L'.length + 1
            omega
          · rw [tk]
            refine like_perm (like_app lk (like_two oky.pos (p := ⟨lowT (y.t * 2) (y.b * 7), lowB (y.t * 2) (y.b * 7), y.kw + 3, z4, E5⟩) (q := ⟨lowT (y.t * 5) (y.b * 7), lowB (y.t * 5) (y.b * 7), y.kw + 3, z4, E5⟩) (low_val pb7) (low_val pb7) (fun h => a4 (by omega)) (fun h => c4 (by omega)) c5 c5)) ?_
            refine (List.perm_append_comm (l₁ := [_]) (l₂ := L')).append_right _ |>.trans ?_
            rw [List.append_assoc]
            exact List.Perm.refl _
        · refine ⟨_, rfl, _, rfl, (by show 2 ≤ sizeLine; decide), fun q1 H9 n9 s9 e9 => ⟨(by show 1 ≤ sizeLine; decide), fun l9 H10 n10 s10 e10 => ⟨_, rfl, l9, p, _, _, rfl, rfl, e10, s10 _ _ (s9 _ _ e6), ?_, fun l14 H14 n14 s14 e14 => ?_⟩⟩⟩
          · exact Nat.le_trans (show 1 + ys.length ≤ 9 by omega) (by decide)
          have s914 := s10.trans s14
          have s614 := s9.trans s914
          have q1P : LnP H14 many (.ref q1) ⟨y.t, y.b, y.kw, z4, E5⟩ := ⟨q1, wa, d5, rfl, s914 _ _ e9, s614 _ _ wa6, F6.kp (Kp.of s614)⟩
          refine mk l14 _ ([⟨y.t, y.b, y.kw, z4, E5⟩] ++ L') H14 _ _ _ s614 ((s9.trans s10).free n14) e14 (Paired.app (.cons q1P .nil) (Paired.to (fun _ _ h => h.kp (Kp.of s614)) pr6)) (fun s hs => ?_) ?_ ?_ ?_
          · rcases List.mem_append.mp hs with hs | hs
            · rw [List.mem_singleton.mp hs]
              exact ⟨oky.pos, oky.sb, oky.st, by show y.kw ≤ 17; omega, rfl⟩
            · exact ok2 s hs
          · rw [List.length_append]
            show 1 + L'.length ≤ _
            omega
          · rw [List.length_append]
            show _ ≤ 1 + L'.length
            omega
          · rw [tk]
            exact like_perm (like_app lk (like_one (p := ⟨y.t, y.b, y.kw, z4, E5⟩) rfl rfl c5)) List.perm_append_comm
      · refine dDraw rfl T2 (by omega) (by decide) (by decide) fun c H3 c0 c1 T3 b3 => ⟨rfl, _, rfl, ?_⟩
        have K3 := Kp.butT b3 T2
        have F3 := F2.kp K3
        refine ite2 (fun _ => ?_) (fun _ => ?_)
        · refine ⟨_, rfl, _, _, rfl, rfl, (by show 2 ≤ sizeLine; decide), fun ng H4 n4 s4 e4 => ?_⟩
          have e4' : At2 H4 ng (-1) 1 := e4
          refine ⟨d, ng, many, 0, 0, z4, y.E, -1, 1, rfl, F3.kp (Kp.of s4), e4', by decide, by decide, by decide, by decide, by decide, by decide, by decide, by decide, fun sd E5 H5 n5 s5 e5 db5 c5 ne => ⟨sd, _, rfl, e5, fun o5 => ?_⟩⟩
          obtain ⟨s6, F6⟩ := frz_new (o := o5) n5 s5 db5 e5
          refine go2 _ _ (.mk (b3.trans ((But.of s4).trans (But.of s6))) ((T3.mono s4 (Int.le_refl _)).mono s6 (by omega)) F6 fun m => ?_)
          rw [ne rfl rfl, hs_neg]
        · exact go2 _ _ (.mk b3 (T3.mono (Same.refl _) (by omega)) F3 fun m => rfl)
    · obtain ⟨n2, b2, T2, e2, pr2, ok2, l2, l1, lk⟩ := h
      rename_i p ys L'
      rw [lx] at l2 l1 T2
      rw [lx, List.take_length] at lk
      have ly := Paired.length pr2
      have pt := ltp n2
      dsimp only
      refine seq_join (t := tIfS _ _ _) (fun σ H' => (∃ v4 v5 v6 v7 v8, σ = [some (.ref tp), some (.int many), some (.ref ls), some (.ref p), v4, v5, v6, v7, v8]) ∧ But tp H H' ∧ Tape cl H' tp (B + 100) ∧ ∃ zs M, H' p = some (.lst zs) ∧ Paired (LnP H' many) zs M ∧ (∀ s ∈ M, L4 17 s) ∧ M.length ≤ 9 ∧ L.length ≤ M.length ∧ Like L M) ?_ (fun go2 => ?_)
      · rintro σ H' ⟨⟨v4, v5, v6, v7, v8, rfl⟩, b3, T3, zs, M, a1, a2, a3, a4, a5, a6⟩
        exact ⟨_, rfl, go p zs M H' n2 b3 T3 a1 a2 a3 a4 a5 a6⟩
      · refine dDraw rfl T2 (by omega) (by decide) (by decide) fun c H3 c0 c1 T3 b3 => ⟨rfl, _, rfl, ?_⟩
        have K3 := Kp.butT b3 T2
        have e3 := b3 _ _ e2 pt
        have pr3 : Paired (LnP H3 many) ys L' := Paired.to (fun _ _ h => h.kp K3) pr2
        refine ite2 (fun _ => ?_) (fun _ => ?_)
        · refine ⟨_, rfl, .inl ⟨rfl, _, SqL.of e3⟩, (by show 2 ≤ sizeLine; decide), fun zw H4 n4 s4 e4 => ?_⟩
          have T4 := T3.mono s4 (Int.le_refl _)
          refine ⟨_, rfl, _, rfl, tp, many, _, rfl, m1, m4, cl, T4, by omega, fun d E H5 n5 b5 T5 e5 db5 => ⟨d, _, rfl, e5, fun o5 => ⟨(by show 2 ≤ sizeLine; decide), fun q H7 n7 s7 e7 => ?_⟩⟩⟩
          have K5 := Kp.butT b5 T4
          have s6 : Same H5 H5 := Same.refl _
          have bf : But tp H4 (upd H5 d (.frz o5 (.dT (E.map Ent.kv)))) := but_put b5 n5
          have F6 : FQ (upd H5 d (.frz o5 (.dT (E.map Ent.kv)))) d many z4 E := ⟨⟨o5, upd_same⟩, db5.kp (Kp.upd e5 trivial)⟩
          have od := T4.off n5
          have T6 : Tape cl (upd H5 d (.frz o5 (.dT (E.map Ent.kv)))) tp _ := T5.upd _ od.1 od.2 (Int.le_refl _)
          generalize upd H5 d (.frz o5 (.dT (E.map Ent.kv))) = H6 at bf F6 T6 s7 n7
          have K6 := Kp.butT bf T4
          have e7p : H7 p = some (.lst ys) := s7 _ _ (bf _ _ (s4 _ _ e3) pt)
          refine ⟨p, _, _, rfl, rfl, e7p, Nat.lt_of_le_of_lt (show ys.length ≤ 8 by omega) (by decide), ?_⟩
          have k7 : Kp H7 (upd H7 p (.lst (ys ++ [.ref q]))) := Kp.upd e7p trivial
          have pc : p ≠ cl := (hT.off n2).2
          refine go2 _ _ ⟨⟨_, _, _, _, _, rfl⟩, ?_, (T6.mono s7 (Int.le_refl _)).upd _ pt pc (by omega), _, L' ++ [⟨0, 1, 0, z4, E⟩], upd_same, ?_, fun s hs => ?_, ?_, ?_, ?_⟩
          · refine but_put (b2.trans (b3.trans ((But.of s4).trans (bf.trans (But.of s7))))) n2
          · refine Paired.app (Paired.to (fun _ _ h => h.kp ((((Kp.of s4).trans K6).trans (Kp.of s7)).trans k7)) pr3) (.cons ⟨q, zw, d, rfl, k7.tup _ _ e7, k7.tup _ _ (s7 _ _ (K6.tup _ _ e4)), F6.kp ((Kp.of s7).trans k7)⟩ .nil)
          · rcases List.mem_append.mp hs with hs | hs
            · exact ok2 s hs
            · rw [List.mem_singleton.mp hs]
              exact ⟨by show (0 : Int) < 1; decide, by show 1 ≤ 2 ^ 0; decide, by show 0 ≤ _; exact Nat.zero_le _, by show 0 ≤ 17; decide, rfl⟩
          · rw [List.length_append]
            show L'.length + 1 ≤ 9
            omega
          · rw [List.length_append]
            show _ ≤ L'.length + 1
            omega
          · have : Like [] [⟨0, 1, 0, z4, E⟩] := ⟨fun _ s hs => by rw [List.mem_singleton.mp hs]; exact Int.le_refl _, fun m => by
              show ((0 : Int) : Rat) / ((1 : Int) : Rat) * cf (hs (pl E)) m + 0 = 0
              have e0 : ((0 : Int) : Rat) = 0 := rfl
              rw [e0]
              grind⟩
            have h := like_app lk this
            rw [List.append_nil] at h
            exact h
        · exact go2 _ _ ⟨⟨_, _, _, _, _, rfl⟩, b2.trans b3, T3.mono (Same.refl _) (by omega), ys, L', e3, pr3, ok2, by omega, by omega, lk⟩
end
end Lw

namespace Lw
open PySem PySem.Spec PyProof.Rows L2 LwQ LwV
noncomputable def spBent : Sp := fun vs H Q _ => ∃ (tp ls : Addr) (many : Nat) (B : Int) (xs : List V) (L : List Lnr), vs = [.ref tp, .int many, .ref ls] ∧ H ls = some (.lst xs) ∧ Paired (LnP H many) xs L ∧ (∀ s ∈ L, L4 17 s) ∧ 1 ≤ L.length ∧ L.length ≤ 9 ∧ 1 ≤ many ∧ many ≤ 4 ∧ ∃ cl, Tape cl H tp B ∧ B < 2 ^ 29 ∧
  ∀ (p : Addr) (ys : List V) (L' : List Lnr) (H' : Hp), But tp H H' → Tape cl H' tp (B + 100) → H' p = some (.lst ys) → Paired (LnP H' many) ys L' → (∀ s ∈ L', LnB s) → (L'.map Lnr.gb).sum ≤ 7800 → L'.length ≤ 10 → Q (.ref p) H'
theorem Paired.set {α β : Type} {F : α → β → Prop} {x : α} {y : β} (h : F x y) : ∀ {a : List α} {b : List β} (j : Nat), Paired F a b → Paired F (a.set j x) (b.set j y)
  | _, _, _, .nil => .nil
  | _, _, 0, .cons _ t => .cons h t
  | _, _, j + 1, .cons k t => .cons k (Paired.set h j t)
theorem Paired.take {α β : Type} {F : α → β → Prop} : ∀ {a : List α} {b : List β} (j : Nat), Paired F a b → Paired F (a.take j) (b.take j)
  | _, _, 0, _ => .nil
  | _, _, _ + 1, .nil => .nil
  | _, _, j + 1, .cons k t => .cons k (Paired.take j t)
theorem sum_setN : ∀ {l : List Nat} {j x a : Nat}, l[j]? = some x → (l.set j a).sum + x = l.sum + a
  | [], j, _, _, h => by simp at h
  | n :: r, 0, x, a, h => by
    cases (Option.some.inj h)
    rw [List.set_cons_zero, List.sum_cons, List.sum_cons]
    omega
  | n :: r, j + 1, x, a, h => by
    have ih := sum_setN (l := r) (j := j) (x := x) (a := a) (by simpa using h)
    rw [List.set_cons_succ, List.sum_cons, List.sum_cons]
    omega
theorem gb_low {k : Nat} {s : Lnr} (h : L4 k s) : 448 ≤ s.gb := by
  unfold Lnr.gb
  rw [h.z]
  show 448 ≤ 2 * (4 * 56) + _
  omega
theorem cut_to (xs : List V) (i : Nat) (h : i ≤ xs.length) : cutV xs none (some (i : Int)) = xs.take i := by
  unfold cutV
  rw [HT.sIx_nat, HT.sIx_none, Nat.min_eq_left h, List.drop_zero, Nat.sub_zero]
theorem fr_ratio {t b : Int} (h : FrS t b) : t.natAbs ≤ 2 ^ 50 * b.natAbs := by
  refine Nat.le_trans (Nat.le_of_lt h.st) (Nat.le_trans (Nat.pow_le_pow_right (by decide) (show 40 ≤ 50 by decide)) ?_)
  exact Nat.le_mul_of_pos_right _ (by have := h.pos; omega)
structure BnJ (H : Hp) (cl tp p : Addr) (many : Nat) (B : Int) (H' : Hp) : Prop where
  b : But tp H H'
  T : Tape cl H' tp (B + 100)
  ex : ∃ ys L', H' p = some (.lst ys) ∧ Paired (LnP H' many) ys L' ∧ (∀ s ∈ L', LnB s) ∧ (L'.map Lnr.gb).sum ≤ 7800 ∧ L'.length ≤ 10
theorem bent_put {H H' : Hp} {cl tp p q : Addr} {many j : Nat} {B : Int} {ys : List V} {L : List Lnr} {y s : Lnr} (np : H p = none) (hT : Tape cl H tp B) (b : But tp H H') (T : Tape cl H' tp (B + 100)) (e : H' p = some (.lst ys)) (pr : Paired (LnP H' many) ys L) (ok : ∀ s ∈ L, L4 17 s) (l9 : L.length ≤ 9) (hy : L[j]? = some y)
    (hs : LnP H' many (.ref q) s) (bs : LnB s) (gs : s.gb ≤ 2404) : BnJ H cl tp p many B (upd H' p (.lst (ys.set j (.ref q)))) := by
  have k : Kp H' (upd H' p (.lst (ys.set j (.ref q)))) := Kp.upd e trivial
  have o := hT.off np
  refine ⟨but_put b np, T.upd _ o.1 o.2 (Int.le_refl _), _, L.set j s, upd_same, Paired.set (hs.kp k) j (Paired.to (fun _ _ h => h.kp k) pr), fun x hx => ?_, ?_, by rw [List.length_set]; omega⟩
  · rcases List.mem_or_eq_of_mem_set hx with hx | rfl
    · exact (ok x hx).lnb (by decide)
    · exact bs
  · rw [List.map_set]
    have h1 := sum_setN (l := L.map Lnr.gb) (j := j) (x := y.gb) (a := s.gb) (by rw [List.getElem?_map, hy]; rfl)
    have h2 := gb_sum ok
    have h3 := gb_low (ok y (List.mem_of_getElem? hy))
    have h4 : L.length * (448 + 10 * 17) ≤ 9 * 618 := Nat.mul_le_mul l9 (by decide)
    omega
section
variable {P : Program} {w : World} {K : PySem.W.Frag} {mg : Str → Option Value} {base : Heap} {f fd : _}
theorem scBent : FnScope ["tape", "many", "some", "found", "at", "weight", "line", "way", "more"] ["tape", "many", "some"] (defScope sBent) := ⟨rfl, rfl, rfl, by decide +kernel, rfl, by decide +kernel, by decide +kernel⟩
theorem ok_bent {fD fP fN fA fF : Addr} {fdD fdP fdN fdA fdF : FuncData} (F : Fun K "_law_bent" "_law_bent" sBent f fd) (T : Txt mg) (DD : Df K mg "_law_draw" sDraw ["tape", "many"] fD fdD) (GD : FnOk P w K mg base CX0 1 fD fdD ["tape", "many"] spDraw) (DP : Df K mg "_law_plus" sPlus ["one", "other"] fP fdP) (GP : FnOk P w K mg base CX0 1 fP fdP ["one", "other"] spPlus)
    (DN : Df K mg "_law_number" sNumber ["tape"] fN fdN) (GN : FnOk P w K mg base CX0 2 fN fdN ["tape"] (spDrawn 6 (2 ^ 38))) (DA : Df K mg "_law_added" sAdded ["one", "other"] fA fdA) (GA : FnOk P w K mg base CX0 3 fA fdA ["one", "other"] spAdded) (DF : Df K mg "_law_drawn" sDrawn ["tape", "many"] fF fdF) (GF : FnOk P w K mg base CX0 3 fF fdF ["tape", "many"] spFound) : FnOk P w K mg base CX0 4 f fd ["tape", "many", "some"] spBent := by
  refine F.ok scBent (fun vs H Q E h => ?_) (fun cdv A outer s H vs Q E hr h => ?_)
  · obtain ⟨tp, ls, many, B, xs, L, rfl, _⟩ := h
    rfl
  · obtain ⟨tp, ls, many, B, xs, L, rfl, hls, hL, lok, l1, l9, m1, m4, cl, hT, hB, go⟩ := h
    have hr1 : Room 1 _ := hr.mono (by decide)
    have hr2 : Room 2 _ := hr.mono (by decide)
    refine ⟨_, pss_cons (ps_set (i := 3) scBent.nd rfl (Or.inl rfl) (pe_callTy call_listF (by rfl) T.lst boot_list (pa_cons (pv 2) pa_nil)))
      (pss_cons (ps_set (i := 4) scBent.nd rfl (Or.inl rfl) (pe_call GD hr1 rfl DD.m DD.F.kp DD.b .nil pass0 (pa_cons (pv 0) (pa_cons (pe_callB call_len_seq (by rfl) T.len PySem.boot_len (pa_cons (pv 3) pa_nil)) pa_nil))))
      (pss_cons (ps_asg (pe_ix ix_list (pv 3) (pv 4) (fun _ _ => rfl)) (pg_tup rfl (pgs_cons (pg_name (i := 5) scBent.nd rfl (Or.inl rfl)) (pgs_cons (pg_name (i := 6) scBent.nd rfl (Or.inl rfl)) pgs_nil))))
      (pss_cons (ps_set (i := 7) scBent.nd rfl (Or.inl rfl) (pe_call GD hr1 rfl DD.m DD.F.kp DD.b .nil pass0 (pa_cons (pv 0) (pa_cons pe_int pa_nil))))
      (pss_cons (ps_if (pt_cmpR op_eq (pv 7) pe_int (nomark _)) (pss_one (ps_ret (pe_op op_catF (pe_slice sl_listF (pv 3) po_none (po_some (pv 4))) (pe_slice sl_listF (pv 3) (po_some (pe_op op_add (pv 4) pe_int)) po_none)))) pss_nil)
      (pss_cons (ps_if (pt_cmpR op_eq (pv 7) pe_int (nomark _)) (pss_one (ps_ret (pe_op op_catF (pv 3) (pe_lstF (pa_cons (pe_ix ix_list (pv 3) (pv 4) (fun _ _ => rfl)) pa_nil))))) pss_nil)
      (pss_cons (ps_if (pt_cmpR op_eq (pv 7) pe_int (nomark _)) (pss_one (ps_asg (pe_tupF (pa_cons (pe_call GP hr1 rfl DP.m DP.F.kp DP.b .nil pass0 (pa_cons (pv 5) (pa_cons (pe_call GN hr2 rfl DN.m DN.F.kp DN.b .nil pass0 (pa_cons (pv 0) pa_nil)) pa_nil))) (pa_cons (pv 6) pa_nil))) (pg_sub (pv 3) (pv 4) set_list)))
        (pss_one (ps_if (pt_cmpR op_eq (pv 7) pe_int (nomark _)) (pss_one (ps_asg (pe_tupF (pa_cons (pe_tupF (pa_cons (pe_op op_sub pe_int (pe_ix ix_tup (pv 5) pe_int (fun _ _ => rfl))) (pa_cons (pe_ix ix_tup (pv 5) pe_int (fun _ _ => rfl)) pa_nil))) (pa_cons (pv 6) pa_nil))) (pg_sub (pv 3) (pv 4) set_list)))
          (pss_cons (ps_set (i := 8) scBent.nd rfl (Or.inl rfl) (LwD.pe_frz (pe_call GA hr rfl DA.m DA.F.kp DA.b .nil pass0 (pa_cons (pv 6) (pa_cons (LwD.pe_frz (pe_call GF hr rfl DF.m DF.F.kp DF.b .nil pass0 (pa_cons (pv 0) (pa_cons (pv 1) pa_nil)))) pa_nil)))))
          (pss_one (ps_asg (pe_tupF (pa_cons (pv 5) (pa_cons (pv 8) pa_nil))) (pg_sub (pv 3) (pv 4) set_list)))))))
      (pss_one (ps_ret (pv 3))))))))), ?_⟩
    try dsimp only [cxK]
    have p29 : (2 : Int) ^ 29 + 1000 < 2 ^ 30 := by decide
    have p37 : (2 : Int) ^ 30 + 1000 < 2 ^ 37 := by decide
    have p100 : (9 : Int) < 2 ^ 100 := by decide
    have lx := Paired.length hL
    refine ⟨_, rfl, ls, xs, rfl, .inl (SqL.of hls), fun p H1 n1 s1 e1 => ?_⟩
    have T1 := hT.mono s1 (Int.le_refl _)
    have pt := (hT.off n1).1
    refine ⟨_, rfl, _, rfl, p, xs, rfl, .inl (SqL.of e1), tp, xs.length, B, rfl, cl, T1, by omega, by omega, by omega, fun a H2 a0 a1 T2 b2 => ?_⟩
    obtain ⟨j, rfl⟩ := Int.eq_ofNat_of_zero_le a0
    have hj : j < xs.length := by omega
    obtain ⟨x, hx⟩ : ∃ x, xs[j]? = some x := ⟨xs[j], by simp [hj]⟩
    obtain ⟨y, hy, hyP⟩ := Paired.at hL hx
    obtain ⟨r, wa, d, ex, t1, t2, t3⟩ := hyP.ex
    subst ex
    have oky := lok y (List.mem_of_getElem? hy)
    have kwy := oky.kw
    have K2 := (Kp.of s1).trans (Kp.butT b2 T1)
    have e2 := b2 _ _ e1 pt
    refine ⟨_, rfl, _, rfl, p, xs, (j : Int), _, rfl, rfl, SqL.of e2, atI_nat hx, r, _, rfl, SqT.of (K2.tup _ _ t1), rfl, _, _, rfl, _, _, rfl, rfl, ?_⟩
    refine dDraw rfl T2 (by omega) (by decide) (by decide) fun way H3 w0 w1 T3 b3 => ?_
    have K3 := K2.trans (Kp.butT b3 T2)
    have e3 := b3 _ _ e2 pt
    have B3 : But tp H H3 := ((But.of s1).trans b2).trans b3
    have pr3 : Paired (LnP H3 many) xs L := Paired.to (fun _ _ h => h.kp K3) hL
    have T3' : Tape cl H3 tp (B + 2) := T3.mono (Same.refl _) (by omega)
    have wa3 : At2 H3 wa y.t y.b := K3.tup _ _ t2
    have F3 : FQ H3 d many z4 y.E := by rw [← oky.z]; exact t3.kp K3
    have lnb : ∀ {M : List Lnr}, (∀ s ∈ M, L4 17 s) → ∀ s ∈ M, LnB s := fun h s hs => (h s hs).lnb (by decide)
    clear b2 b3 T2 T3 K2
    refine ⟨_, rfl, rfl, _, rfl, ?_⟩
    rw [dec_ints]
    refine ite2 (fun _ => ?_) (fun _ => ?_)
    · refine ⟨_, rfl, _, rfl, (j : Int), rfl, p, xs, rfl, SqL.of e3, fun l4 H4 n4 s4 e4 => ⟨_, rfl, _, rfl, _, _, rfl, rfl, (j : Int) + 1, rfl, p, xs, rfl, SqL.of (s4 _ _ e3), fun l5 H5 n5 s5 e5 => ⟨l4, l5, _, _, rfl, rfl, s5 _ _ e4, e5, ?_, fun l6 H6 n6 s6 e6 => ?_⟩⟩⟩
      · rw [cut_to xs j (by omega), show (j : Int) + 1 = ((j + 1 : Nat) : Int) from rfl, cut_from xs (j + 1) hj, List.length_take, List.length_drop]
        exact Nat.le_trans (show _ ≤ 9 by omega) (by decide)
      · rw [cut_to xs j (by omega), show (j : Int) + 1 = ((j + 1 : Nat) : Int) from rfl, cut_from xs (j + 1) hj] at e6
        have s36 := s4.trans (s5.trans s6)
        have ok' : ∀ s ∈ L.take j ++ L.drop (j + 1), L4 17 s := fun s hs => (List.mem_append.mp hs).elim (fun h => lok s (List.mem_of_mem_take h)) (fun h => lok s (List.mem_of_mem_drop h))
        have ll : (L.take j ++ L.drop (j + 1)).length ≤ 9 := by rw [List.length_append, List.length_take, List.length_drop]; omega
        have h1 := gb_sum ok'
        have h2 : (L.take j ++ L.drop (j + 1)).length * (448 + 10 * 17) ≤ 9 * 618 := Nat.mul_le_mul ll (by decide)
        refine go l6 _ (L.take j ++ L.drop (j + 1)) H6 (B3.trans (But.of s36)) (T3'.mono s36 (by omega)) e6 (Paired.to (fun _ _ h => h.kp (Kp.of s36)) (Paired.app (Paired.take j pr3) (Paired.drop (j + 1) pr3))) (lnb ok') (by omega) (by omega)
    refine ⟨_, rfl, rfl, _, rfl, ?_⟩
    rw [dec_ints]
    refine ite2 (fun _ => ?_) (fun _ => ?_)
    · refine ⟨_, rfl, _, rfl, _, rfl, p, xs, (j : Int), _, rfl, rfl, SqL.of e3, atI_nat hx, (by show 1 ≤ sizeLine; decide), fun l4 H4 n4 s4 e4 => ⟨p, l4, xs, _, rfl, rfl, s4 _ _ e3, e4, ?_, fun l6 H6 n6 s6 e6 => ?_⟩⟩
      · exact Nat.le_trans (show xs.length + 1 ≤ 10 by omega) (by decide)
      · have s36 := s4.trans s6
        have ok' : ∀ s ∈ L ++ [y], L4 17 s := fun s hs => (List.mem_append.mp hs).elim (fun h => lok s h) (fun h => by rw [List.mem_singleton.mp h]; exact oky)
        have ll : (L ++ [y]).length ≤ 10 := by rw [List.length_append]; show L.length + 1 ≤ 10; omega
        have h1 := gb_sum ok'
        have h2 : (L ++ [y]).length * (448 + 10 * 17) ≤ 10 * 618 := Nat.mul_le_mul ll (by decide)
        refine go l6 _ (L ++ [y]) H6 (B3.trans (But.of s36)) (T3'.mono s36 (by omega)) e6 (Paired.to (fun _ _ h => h.kp (Kp.of s36)) (Paired.app pr3 (.cons (hyP.kp K3) .nil))) (lnb ok') (by omega) ll
    dsimp only [tNext]
    refine seq_join (t := tIfS _ _ _) (fun σ H' => (∃ v4 v5 v6 v7 v8, σ = [some (.ref tp), some (.int many), some (.ref ls), some (.ref p), v4, v5, v6, v7, v8]) ∧ BnJ H cl tp p many B H') ?_ (fun go2 => ?_)
    · rintro σ H' ⟨⟨v4, v5, v6, v7, v8, rfl⟩, b', T', ys, L', a1, a2, a3, a4, a5⟩
      exact ⟨_, rfl, go p ys L' H' b' T' a1 a2 a3 a4 a5⟩
    have ixj : ixN xs.length (j : Int) = some j := by
      unfold ixN
      rw [if_pos (by omega), if_pos (by omega)]
      rfl
    refine ⟨_, rfl, rfl, _, rfl, ?_⟩
    rw [dec_ints]
    refine ite2 (fun _ => ?_) (fun _ => ?_)
    · refine ⟨_, rfl, _, rfl, tp, _, rfl, cl, T3', by omega, fun nr nt nb H4 fr e4 _ T4 b4 _ => ?_⟩
      have K4 := Kp.butT b4 T3'
      refine ⟨wa, nr, y.t, y.b, nt, nb, rfl, K4.tup _ _ wa3, e4, oky.pos, fr.pos, top_fit oky.st oky.sb (by omega), bot_fit oky.sb (by omega), abs_up fr.st (by decide), abs_up fr.sb (by decide), fun sr t' b' H5 n5 s5 e5 pb lb eq => ⟨_, rfl, (by show 2 ≤ sizeLine; decide), fun q H6 n6 s6 e6 => ?_⟩⟩
      have s46 := s5.trans s6
      have K6 := K4.trans (Kp.of s46)
      refine ⟨_, rfl, _, rfl, p, xs, (j : Int), j, rfl, rfl, s46 _ _ (b4 _ _ e3 pt), ixj, go2 _ _ ⟨⟨_, _, _, _, _, rfl⟩, ?_⟩⟩
      refine bent_put (s := ⟨t', b', y.kw + 14, z4, y.E⟩) n1 hT (B3.trans (b4.trans (But.of s46))) (T4.mono s46 (by omega)) (s46 _ _ (b4 _ _ e3 pt)) (Paired.to (fun _ _ h => h.kp K6) pr3) lok l9 hy ⟨q, sr, d, rfl, e6, s6 _ _ e5, F3.kp K6⟩ ⟨pb, ?_, up_ratio (ratio_one oky.pos fr.pos eq oky.st (fr_ratio fr)) (by decide), by show y.kw + 14 ≤ 100; omega, by show 4 ≤ 4; decide, by show 1 ≤ 4; decide, by show 4 ≤ 8; decide, by show 56 ≤ 200; decide, by show 44 ≤ 60; decide⟩ ?_
      · refine Nat.le_trans lb ?_
        show _ ≤ 2 ^ (y.kw + 14)
        rw [Nat.pow_add]
        exact Nat.mul_le_mul oky.sb (Nat.le_of_lt fr.sb)
      · show 2 * (4 * 56) + 4 * (4 + 1) / 2 * (y.kw + 14) ≤ 2404
        omega
    refine ⟨_, rfl, rfl, _, rfl, ?_⟩
    rw [dec_ints]
    refine ite2 (fun _ => ?_) (fun _ => ?_)
    · refine ⟨_, rfl, wa, _, _, _, rfl, rfl, SqT.of wa3, rfl, _, _, rfl, rfl, _, rfl, wa, _, _, _, rfl, rfl, SqT.of wa3, rfl, (by show 2 ≤ sizeLine; decide), fun nw H4 n4 s4 e4 => ⟨_, rfl, (by show 2 ≤ sizeLine; decide), fun q H6 n6 s6 e6 => ?_⟩⟩
      have s36 := s4.trans s6
      have K6 := Kp.of s36
      refine ⟨_, rfl, _, rfl, p, xs, (j : Int), j, rfl, rfl, s36 _ _ e3, ixj, go2 _ _ ⟨⟨_, _, _, _, _, rfl⟩, ?_⟩⟩
      refine bent_put (s := ⟨0 - y.t, y.b, y.kw, z4, y.E⟩) n1 hT (B3.trans (But.of s36)) (T3'.mono s36 (by omega)) (s36 _ _ e3) (Paired.to (fun _ _ h => h.kp K6) pr3) lok l9 hy ⟨q, nw, d, rfl, e6, s6 _ _ e4, F3.kp K6⟩ ⟨oky.pos, oky.sb, ?_, by show y.kw ≤ 100; omega, by show 4 ≤ 4; decide, by show 1 ≤ 4; decide, by show 4 ≤ 8; decide, by show 56 ≤ 200; decide, by show 44 ≤ 60; decide⟩ ?_
      · show (0 - y.t).natAbs ≤ _
        rw [Int.zero_sub, Int.natAbs_neg]
        exact up_ratio oky.st (by decide)
      · show 2 * (4 * 56) + 4 * (4 + 1) / 2 * y.kw ≤ 2404
        omega
    · refine ⟨_, rfl, _, rfl, _, rfl, tp, many, _, rfl, m1, m4, cl, T3', by omega, fun dd ED H5 n5 b5 T5 e5 db5 => ⟨dd, _, rfl, e5, fun o5 => ?_⟩⟩
      have od := T3'.off n5
      have bf : But tp H3 (upd H5 dd (.frz o5 (.dT (ED.map Ent.kv)))) := but_put b5 n5
      have F6 : FQ (upd H5 dd (.frz o5 (.dT (ED.map Ent.kv)))) dd many z4 ED := ⟨⟨o5, upd_same⟩, db5.kp (Kp.upd e5 trivial)⟩
      have T6 : Tape cl (upd H5 dd (.frz o5 (.dT (ED.map Ent.kv)))) tp (B + 60) := T5.upd _ od.1 od.2 (by omega)
      generalize upd H5 dd (.frz o5 (.dT (ED.map Ent.kv))) = H6 at bf F6 T6
      have K6 := Kp.butT bf T3'
      refine ⟨d, dd, many, z4, z4, y.E, ED, rfl, F3.kp K6, F6, m1, m4, by decide, by decide, by decide, by decide, by decide, by decide, fun md EM H7 n7 s7 e7 db7 _ => ⟨md, _, rfl, e7, fun o7 => ?_⟩⟩
      obtain ⟨s8, F8⟩ := frz_new (o := o7) n7 s7 db7 e7
      generalize upd H7 md (.frz o7 (.dT (EM.map Ent.kv))) = H8 at s8 F8
      refine ⟨_, rfl, _, rfl, (by show 2 ≤ sizeLine; decide), fun q H9 n9 s9 e9 => ?_⟩
      have s69 := s8.trans s9
      have K9 := K6.trans (Kp.of s69)
      have e9p := s69 _ _ (bf _ _ e3 pt)
      refine ⟨_, rfl, _, rfl, p, xs, (j : Int), j, rfl, rfl, e9p, ixj, go2 _ _ ⟨⟨_, _, _, _, _, rfl⟩, ?_⟩⟩
      refine bent_put (s := ⟨y.t, y.b, y.kw, ⟨4, 48, 112, 8⟩, EM⟩) n1 hT (B3.trans (bf.trans (But.of s69))) (T6.mono s69 (by omega)) e9p (Paired.to (fun _ _ h => h.kp K9) pr3) lok l9 hy ⟨q, wa, md, rfl, e9, K9.tup _ _ wa3, F8.kp (Kp.of s9)⟩ ⟨oky.pos, oky.sb, up_ratio oky.st (by decide), by show y.kw ≤ 100; omega, by show 4 ≤ 4; decide, by show 1 ≤ 8; decide, by show 8 ≤ 8; decide, by show 112 ≤ 200; decide, by show 48 ≤ 60; decide⟩ ?_
      show 2 * (8 * 112) + 8 * (8 + 1) / 2 * y.kw ≤ 2404
      omega
end
end Lw

namespace Lw
open PySem PySem.Spec PyProof.Rows L2 LwQ LwV
theorem pick6 {r : Int} (h0 : 0 ≤ r) (h1 : r < 6) : ∃ m : Nat, 1 ≤ m ∧ m ≤ 4 ∧ atI [V.int 1, .int 2, .int 3, .int 1, .int 2, .int 4] r = some (V.int m) := by
  have : r = 0 ∨ r = 1 ∨ r = 2 ∨ r = 3 ∨ r = 4 ∨ r = 5 := by omega
  rcases this with rfl | rfl | rfl | rfl | rfl | rfl
  · exact ⟨1, by decide, by decide, rfl⟩
  · exact ⟨2, by decide, by decide, rfl⟩
  · exact ⟨3, by decide, by decide, rfl⟩
  · exact ⟨1, by decide, by decide, rfl⟩
  · exact ⟨2, by decide, by decide, rfl⟩
  · exact ⟨4, by decide, by decide, rfl⟩
theorem cut63 (ns : List Int) : ∃ ms : List Int, cutV (ns.map V.int) none (some 63) = ms.map V.int ∧ ms.length ≤ 63 := by
  refine ⟨(ns.drop (HT.sIx (ns.map V.int).length 0 none)).take (HT.sIx (ns.map V.int).length (ns.map V.int).length (some 63) - HT.sIx (ns.map V.int).length 0 none), ?_, ?_⟩
  · unfold cutV
    rw [← List.map_drop, ← List.map_take]
  · rw [List.length_take]
    have : HT.sIx (ns.map V.int).length (ns.map V.int).length (some 63) ≤ 63 := by
      have := HT.sIx_nat (ns.map V.int).length (ns.map V.int).length 63
      rw [show ((63 : Nat) : Int) = 63 from rfl] at this
      rw [this]
      exact Nat.min_le_left _ _
    omega
structure Grd (cl tp ls d : Addr) (many : Nat) (xs : List V) (L : List Lnr) (z : Sz) (E : List Ent) (B : Int) (H : Hp) : Prop where
  T : Tape cl H tp B
  lt : ls ≠ tp
  el : H ls = some (.lst xs)
  pr : Paired (LnP H many) xs L
  F : FQ H d many z E
section
variable {cl tp ls d : Addr} {many : Nat} {xs : List V} {L : List Lnr} {z : Sz} {E : List Ent} {B B' : Int} {H H' : Hp}
theorem Grd.next (h : Grd cl tp ls d many xs L z E B H) (b : But tp H H') (T : Tape cl H' tp B') : Grd cl tp ls d many xs L z E B' H' :=
  ⟨T, h.lt, b _ _ h.el h.lt, Paired.to (fun _ _ k => k.kp (Kp.butT b h.T)) h.pr, h.F.kp (Kp.butT b h.T)⟩
theorem Grd.same (h : Grd cl tp ls d many xs L z E B H) (s : Same H H') (hB : B ≤ B') : Grd cl tp ls d many xs L z E B' H' := h.next (But.of s) (h.T.mono s hB)
theorem drw {o : Obj} (T : Tape cl H tp B) (n : H d = none) (b : But tp H H') (T' : Tape cl H' tp B') (e : H' d = some (.dT (E.map Ent.kv))) (db : DB H' many z E) : But tp H (upd H' d (.frz o (.dT (E.map Ent.kv)))) ∧ Tape cl (upd H' d (.frz o (.dT (E.map Ent.kv)))) tp B' ∧ FQ (upd H' d (.frz o (.dT (E.map Ent.kv)))) d many z E :=
  ⟨but_put b n, T'.upd _ (T.off n).1 (T.off n).2 (Int.le_refl _), ⟨o, upd_same⟩, db.kp (Kp.upd e trivial)⟩
end
structure Fst (cl tp ls d : Addr) (many i : Nat) (xs : List V) (L : List Lnr) (E : List Ent) (H : Hp) : Prop where
  G : Grd cl tp ls d many xs L ⟨8, 144 + 10 * i, 588 * i, 10 * i⟩ E (2 + 60 * (i : Int)) H
  lc : ls ≠ cl
  ok : ∀ s ∈ L, L4 14 s ∧ 0 ≤ s.t
  ll : L.length = i
  c : ∀ m, sqs (L.map Lnr.pr) m = cf (pl E) m
inductive FsI (cl a tp ls : Addr) (many i : Nat) : L2.St → Hp → Prop where
  | mk {u5 u6 u7 u8 : Option V} {H : Hp} {d : Addr} {xs : List V} {L : List Lnr} {E : List Ent} (h : Fst cl tp ls d many i xs L E H) : FsI cl a tp ls many i [some (.ref a), some (.ref tp), some (.int many), some (.ref ls), some (.ref d), u5, u6, u7, u8, none, none, none, none] H
inductive TnI (cl a tp ls d : Addr) (many : Nat) (xs : List V) (L : List Lnr) (z : Sz) (E : List Ent) (B : Int) (i : Nat) : L2.St → Hp → Prop where
  | mk {u5 u6 u7 u8 u9 : Option V} {H : Hp} (G : Grd cl tp ls d many xs L z E (B + 300 * (i : Int)) H) : TnI cl a tp ls d many xs L z E B i [some (.ref a), some (.ref tp), some (.int many), some (.ref ls), some (.ref d), u5, u6, u7, u8, u9, none, none, none] H
noncomputable abbrev z5 : Sz := ⟨4, 45, 56, 5⟩
structure P5 (s : Lnr) : Prop where
  b : s.b = 4
  kw : s.kw = 2
  z : s.z = z5
  t : s.t = 1 ∨ s.t = -1
theorem P5.lnb {s : Lnr} (h : P5 s) : LnB s := by
  refine ⟨by rw [h.b]; decide, by rw [h.b, h.kw]; decide, ?_, by rw [h.kw]; decide, by rw [h.z]; decide, by rw [h.z]; decide, by rw [h.z]; decide, by rw [h.z]; decide, by rw [h.z]; decide⟩
  rw [h.b]
  rcases h.t with e | e <;> rw [e] <;> decide
theorem P5.gb {s : Lnr} (h : P5 s) : s.gb = 590 := by
  unfold Lnr.gb
  rw [h.z, h.kw]
  rfl
inductive PaI (H1 : Hp) (a tp ls d : Addr) (many : Nat) (md l : Addr) (i : Nat) : L2.St → Hp → Prop where
  | mk {u5 u6 u7 u8 u9 u12 : Option V} {H : Hp} {ys : List V} {L' : List Lnr} (b : But l H1 H) (e : H l = some (.lst ys)) (pr : Paired (LnP H many) ys L') (ok : ∀ s ∈ L', P5 s) (t : L'.map Lnr.t = [1, -1].take i) : PaI H1 a tp ls d many md l i [some (.ref a), some (.ref tp), some (.int many), some (.ref ls), some (.ref d), u5, u6, u7, u8, u9, some (.ref md), some (.ref l), u12] H
theorem fs_c {L : List Lnr} {E E' EC ES EL : List Ent} {wt b : Int} {m : List Int} (ce : sqs (L.map Lnr.pr) m = cf (pl E) m) (cL : cf (pl E') m = cf (pl E) m + cf (pl EC) m) (cJ : cf (pl EC) m = (wt : Rat) / (b : Rat) * cf (pl ES) m) (cG : cf (pl ES) m = cf (hs (pl EL)) m) : sqs ((L ++ [(⟨wt, b, 14, z4, EL⟩ : Lnr)]).map Lnr.pr) m = cf (pl E') m := by
  rw [List.map_append, sqs_app, ce, cL, cJ, cG]
  show _ + ((wt : Rat) / (b : Rat) * cf (hs (pl EL)) m + (0 : Rat)) = _
  rw [Rat.add_zero]
theorem two_of {H : Hp} {many : Nat} {ys : List V} {L : List Lnr} (pr : Paired (LnP H many) ys L) (t : L.map Lnr.t = [1, -1]) : ∃ x y p q, ys = [x, y] ∧ L = [p, q] ∧ LnP H many x p ∧ LnP H many y q ∧ q.t = -1 := by
  cases pr with
  | nil => exact absurd (congrArg List.length t) (by simp)
  | cons h1 t1 =>
    cases t1 with
    | nil => exact absurd (congrArg List.length t) (by simp)
    | cons h2 t2 =>
      cases t2 with
      | cons _ _ => exact absurd (congrArg List.length t) (by simp)
      | nil =>
        injection t with _ t
        injection t with t _
        exact ⟨_, _, _, _, rfl, rfl, h1, h2, t⟩
theorem par2 (i : Nat) : (0 + (i : Int)) % 2 = 0 ∨ (0 + (i : Int)) % 2 = 1 := by omega
theorem abs_low (t : Int) : 0 ≤ (if t < 0 then -t else t) ∧ (if t < 0 then -t else t).natAbs = t.natAbs := by split <;> omega
section
variable {P : Program} {w : World} {K : PySem.W.Frag} {mg : Str → Option Value} {base : Heap} {f fd : _}
theorem scLaw : FnScope ["script", "tape", "many", "some", "one", "k", "weight", "line", "square", "bent", "more", "pair", "step"] ["script"] (defScope sLaw) := ⟨rfl, rfl, rfl, by decide +kernel, rfl, by decide +kernel, by decide +kernel⟩
theorem ok_law {fD fN fF fP fS fA fO fB fT fU : Addr} {fdD fdN fdF fdP fdS fdA fdO fdB fdT fdU : FuncData} (F : Fun K "law" "law" sLaw f fd) (T : Txt mg) (DD : Df K mg "_law_draw" sDraw ["tape", "many"] fD fdD) (GD : FnOk P w K mg base CX0 1 fD fdD ["tape", "many"] spDraw) (DN : Df K mg "_law_number" sNumber ["tape"] fN fdN) (GN : FnOk P w K mg base CX0 2 fN fdN ["tape"] (spDrawn 6 (2 ^ 38)))
    (DF : Df K mg "_law_drawn" sDrawn ["tape", "many"] fF fdF) (GF : FnOk P w K mg base CX0 3 fF fdF ["tape", "many"] spFound) (DP : Df K mg "_law_product" sProd ["one", "other"] fP fdP) (GP : FnOk P w K mg base CX0 3 fP fdP ["one", "other"] spSq) (DS : Df K mg "_law_scaled" sScaled ["one", "number"] fS fdS) (GS : FnOk P w K mg base CX0 2 fS fdS ["one", "number"] spScaled)
    (DA : Df K mg "_law_added" sAdded ["one", "other"] fA fdA) (GA : FnOk P w K mg base CX0 3 fA fdA ["one", "other"] spAdded) (DO : Df K mg "_law_other" sOther ["tape", "many", "some"] fO fdO) (GO : FnOk P w K mg base CX0 4 fO fdO ["tape", "many", "some"] spOther) (DB' : Df K mg "_law_bent" sBent ["tape", "many", "some"] fB fdB) (GB : FnOk P w K mg base CX0 4 fB fdB ["tape", "many", "some"] spBent)
    (DT : Df K mg "_law_told" sTold ["one", "many", "some", "due"] fT fdT) (GT : FnOk P w K mg base CX0 8 fT fdT ["one", "many", "some", "due"] spTold) (DU : Df K mg "_law_put" sPut ["found", "powers", "number"] fU fdU) (GU : FnOk P w K mg base CX0 2 fU fdU ["found", "powers", "number"] spPut) : FnOk P w K mg base CX0 9 f fd ["script"] (spLaw K) := by
  refine F.ok scLaw (fun vs H Q E h => ?_) (fun cdv A outer s H vs Q E hr h => ?_)
  · obtain ⟨a, ns, rfl, _⟩ := h
    rfl
  · obtain ⟨a, ns, rfl, hS, hlen, go⟩ := h
    have hr1 : Room 1 _ := hr.mono (by decide)
    have hr2 : Room 2 _ := hr.mono (by decide)
    have hr3 : Room 3 _ := hr.mono (by decide)
    have hr4 : Room 4 _ := hr.mono (by decide)
    refine ⟨_, pss_cons (ps_set (i := 1) scLaw.nd rfl (Or.inl rfl) (pe_lstF (pa_cons (pe_callTy call_listF (by rfl) T.lst boot_list (pa_cons (pe_slice sl_listF (pv 0) po_none (po_some pe_int)) pa_nil)) (pa_cons pe_int (pa_cons pe_int (pa_cons pe_int pa_nil)))))) (pss_cons (ps_set (i := 2) scLaw.nd rfl (Or.inl rfl) (pe_ix ix_list (pe_lstF (pa_cons pe_int (pa_cons pe_int (pa_cons pe_int (pa_cons pe_int (pa_cons pe_int (pa_cons pe_int pa_nil))))))) (pe_call GD hr1 rfl DD.m DD.F.kp DD.b .nil pass0 (pa_cons (pv 1) (pa_cons pe_int pa_nil))) (fun _ _ => rfl))) (pss_cons (ps_set (i := 3) scLaw.nd rfl (Or.inl rfl) (pe_lstF pa_nil)) (pss_cons (ps_set (i := 4) scLaw.nd rfl (Or.inl rfl) (LwD.pe_frz pe_dnewT)) (pss_cons (ps_for PassesOwn.never rfl (pi_range1 (by rfl) T.rng (pa_cons (pe_op op_add pe_int (pe_call GD hr1 rfl DD.m DD.F.kp DD.b .nil pass0 (pa_cons (pv 1) (pa_cons pe_int pa_nil)))) pa_nil)) (pg_name (i := 5) scLaw.nd rfl (Or.inl rfl)) (pss_cons (ps_set (i := 6) scLaw.nd rfl (Or.inl rfl) (pe_call GN hr2 rfl DN.m DN.F.kp DN.b .nil pass0 (pa_cons (pv 1) pa_nil))) (pss_cons (ps_set (i := 6) scLaw.nd rfl (Or.inl rfl) (pe_tupF (pa_cons (pe_callB call_abs (by rfl) T.abs boot_abs (pa_cons (pe_ix ix_tup (pv 6) pe_int (fun _ _ => rfl)) pa_nil)) (pa_cons (pe_ix ix_tup (pv 6) pe_int (fun _ _ => rfl)) pa_nil)))) (pss_cons (ps_set (i := 7) scLaw.nd rfl (Or.inl rfl) (LwD.pe_frz (pe_call GF hr3 rfl DF.m DF.F.kp DF.b .nil pass0 (pa_cons (pv 1) (pa_cons (pv 2) pa_nil))))) (pss_cons (ps_expr (pe_bm PySem.F.plainAttrs_list PySem.F.slot_list_append PySem.F.type_list_append mt_append (pv 3) (pa_cons (pe_tupF (pa_cons (pv 6) (pa_cons (pv 7) pa_nil))) pa_nil))) (pss_cons (ps_set (i := 8) scLaw.nd rfl (Or.inl rfl) (LwD.pe_frz (pe_call GP hr3 rfl DP.m DP.F.kp DP.b .nil pass0 (pa_cons (pv 7) (pa_cons (pv 7) pa_nil))))) (pss_one (ps_set (i := 4) scLaw.nd rfl (Or.inl rfl) (LwD.pe_frz (pe_call GA hr3 rfl DA.m DA.F.kp DA.b .nil pass0 (pa_cons (pv 4) (pa_cons (LwD.pe_frz (pe_call GS hr2 rfl DS.m DS.F.kp DS.b .nil pass0 (pa_cons (pv 8) (pa_cons (pv 6) pa_nil)))) pa_nil)))))))))))) (pss_cons (ps_for PassesOwn.never rfl (pi_range1 (by rfl) T.rng (pa_cons pe_int pa_nil)) (pg_name (i := 5) scLaw.nd rfl (Or.inl rfl)) (pss_one (ps_if (pt_not (pt_val (pe_call GT hr rfl DT.m DT.F.kp DT.b .nil pass0 (pa_cons (pv 4) (pa_cons (pv 2) (pa_cons (pe_call GO hr4 rfl DO.m DO.F.kp DO.b .nil pass0 (pa_cons (pv 1) (pa_cons (pv 2) (pa_cons (pv 3) pa_nil)))) (pa_cons pe_bl pa_nil))))))) (pss_one (ps_ret pe_bl)) pss_nil))) (pss_cons (ps_for PassesOwn.never rfl (pi_range1 (by rfl) T.rng (pa_cons pe_int pa_nil)) (pg_name (i := 5) scLaw.nd rfl (Or.inl rfl)) (pss_cons (ps_set (i := 9) scLaw.nd rfl (Or.inl rfl) (pe_call GB hr4 rfl DB'.m DB'.F.kp DB'.b .nil pass0 (pa_cons (pv 1) (pa_cons (pv 2) (pa_cons (pe_ix ix_list (pe_lstF (pa_cons (pv 3) (pa_cons (pe_call GO hr4 rfl DO.m DO.F.kp DO.b .nil pass0 (pa_cons (pv 1) (pa_cons (pv 2) (pa_cons (pv 3) pa_nil)))) pa_nil))) (pe_op op_mod (pv 5) pe_int) (fun _ _ => rfl)) pa_nil))))) (pss_one (ps_if (pt_not (pt_val (pe_call GT hr rfl DT.m DT.F.kp DT.b .nil pass0 (pa_cons (pv 4) (pa_cons (pv 2) (pa_cons (pv 9) (pa_cons pe_non pa_nil))))))) (pss_one (ps_ret pe_bl)) pss_nil)))) (pss_cons (ps_set (i := 10) scLaw.nd rfl (Or.inl rfl) (LwD.pe_frz (pe_call GF hr3 rfl DF.m DF.F.kp DF.b .nil pass0 (pa_cons (pv 1) (pa_cons (pv 2) pa_nil))))) (pss_cons (ps_set (i := 11) scLaw.nd rfl (Or.inl rfl) (pe_lstF pa_nil)) (pss_cons (ps_for PassesOwn.never rfl (pi_list (pe_lstF (pa_cons (pe_tupF (pa_cons (pe_tupF (pa_cons pe_int (pa_cons pe_int pa_nil))) (pa_cons (pe_tupF (pa_cons pe_int (pa_cons pe_int pa_nil))) pa_nil))) (pa_cons (pe_tupF (pa_cons (pe_tupF (pa_cons (pe_op op_sub pe_int pe_int) (pa_cons pe_int pa_nil))) (pa_cons (pe_tupF (pa_cons (pe_op op_sub pe_int pe_int) (pa_cons pe_int pa_nil))) pa_nil))) pa_nil)))) (pg_tup rfl (pgs_cons (pg_name (i := 6) scLaw.nd rfl (Or.inl rfl)) (pgs_cons (pg_name (i := 12) scLaw.nd rfl (Or.inl rfl)) pgs_nil))) (pss_cons (ps_set (i := 7) scLaw.nd rfl (Or.inl rfl) (pe_callTy LwD.call_dictS (by rfl) T.dct boot_dict (pa_cons (pv 10) pa_nil))) (pss_cons (ps_expr (pe_call GU hr2 rfl DU.m DU.F.kp DU.b .nil pass0 (pa_cons (pv 7) (pa_cons (pe_op LwD.op_repT (pe_tupF (pa_cons pe_int pa_nil)) (pv 2)) (pa_cons (pv 12) pa_nil))))) (pss_one (ps_expr (pe_bm PySem.F.plainAttrs_list PySem.F.slot_list_append PySem.F.type_list_append mt_append (pv 11) (pa_cons (pe_tupF (pa_cons (pv 6) (pa_cons (LwD.pe_frz (pv 7)) pa_nil))) pa_nil))))))) (pss_cons (ps_if (pt_not (pt_val (pe_call GT hr rfl DT.m DT.F.kp DT.b .nil pass0 (pa_cons (pv 10) (pa_cons (pv 2) (pa_cons (pv 11) (pa_cons pe_bl pa_nil))))))) (pss_one (ps_ret pe_bl)) pss_nil) (pss_cons (ps_if (pt_not (pt_val (pe_call GT hr rfl DT.m DT.F.kp DT.b .nil pass0 (pa_cons (pv 4) (pa_cons (pv 2) (pa_cons (pe_op op_catF (pe_op op_catF (pv 3) (pe_slice sl_listF (pv 11) po_none (po_some pe_int))) (pe_lstF (pa_cons (pe_tupF (pa_cons (pe_tupF (pa_cons (pe_op op_sub pe_int pe_int) (pa_cons pe_int pa_nil))) (pa_cons (pe_ix ix_tup (pe_ix ix_list (pv 11) pe_int (fun _ _ => rfl)) pe_int (fun _ _ => rfl)) pa_nil))) pa_nil))) (pa_cons pe_bl pa_nil))))))) (pss_one (ps_ret pe_bl)) pss_nil) (pss_one (ps_ret (pe_call GT hr rfl DT.m DT.F.kp DT.b .nil pass0 (pa_cons (LwD.pe_frz pe_dnewT) (pa_cons (pv 2) (pa_cons (pe_lstF pa_nil) (pa_cons pe_bl pa_nil)))))))))))))))))), ?_⟩
    try dsimp only [cxK]
    obtain ⟨cs, em, hm⟩ := cut63 ns
    refine ⟨_, rfl, _, rfl, a, _, rfl, hS, fun p1 H1 n1 s1 e1 => ?_⟩
    refine ⟨p1, _, rfl, .inl (SqL.of e1), fun cl H2 n2 s2 e2 => ⟨(by show 4 ≤ sizeLine; decide), fun tp H3 n3 s3 e3 => ?_⟩⟩
    have T3 : Tape cl H3 tp 0 := ⟨cs, 0, 0, 0, e3, by rw [s3 _ _ e2, em], hm, by decide, by decide⟩
    refine ⟨(by show 6 ≤ sizeLine; decide), fun l4 H4 n4 s4 e4 => dDraw rfl (T3.mono s4 (Int.le_refl _)) (by decide) (by decide) (by decide) fun r H5 r0 r1 T5 b5 => ?_⟩
    obtain ⟨many, m1, m4, at6⟩ := pick6 r0 r1
    have l4t : l4 ≠ tp := (T3.off n4).1
    refine ⟨l4, _, r, _, rfl, rfl, SqL.of (b5 _ _ e4 l4t), at6, ?_⟩
    refine ⟨(by show 0 ≤ sizeLine; decide), fun ls H6 n6 s6 e6 => ?_⟩
    have T6 := T5.mono s6 (Int.le_refl _)
    have lso := T5.off n6
    intro d0 n7
    refine ⟨d0, [], rfl, upd_same, fun o7 => ?_⟩
    have s7 : Same H6 (upd (upd H6 d0 (.dT [])) d0 (.frz o7 (.dT []))) := put_same (same_upd _ n7) n7
    have f7 : (upd (upd H6 d0 (.dT [])) d0 (.frz o7 (.dT []))) d0 = some (.frz o7 (.dT (([] : List Ent).map Ent.kv))) := upd_same
    generalize upd (upd H6 d0 (.dT [])) d0 (.frz o7 (.dT [])) = H7 at s7 f7
    refine dDraw rfl (T6.mono s7 (Int.le_refl _)) (by decide) (by decide) (by decide) fun c H8 c0 c1 T8 b8 => ⟨_, _, rfl, rfl, _, rfl, by omega, by omega, ?_⟩
    have kb : Kp H7 H8 := Kp.butT b8 (T6.mono s7 (Int.le_refl _))
    have cn : (1 + c).toNat ≤ 4 ∧ 1 ≤ (1 + c).toNat := by omega
    have p29 : (1000000 : Int) < 2 ^ 29 := by decide
    have p30 : (1000000 : Int) < 2 ^ 30 := by decide
    have p38 : (1000000 : Int) < 2 ^ 38 := by decide
    have I0 : Fst cl tp ls d0 many 0 [] [] [] H8 := ⟨⟨T8.mono (Same.refl _) (by omega), lso.1, b8 _ _ (s7 _ _ e6) lso.1, .nil, ⟨o7, kb.frz _ _ _ f7⟩, List.nodup_nil, (fun e h => nomatch h), Nat.zero_le _, Nat.zero_le _⟩, lso.2, (fun s h => nomatch h), rfl, fun _ => rfl⟩
    refine for_range (FsI cl a tp ls many) (.mk I0) (fun i σ H9 hi h => ?_) (fun σ H9 h => ?_)
    · obtain ⟨⟨G, lc, ok, ll, ce⟩⟩ := h
      rename_i d xs L E9
      have hi4 : i < 4 := by omega
      refine ⟨_, rfl, tp, _, rfl, cl, G.T, by omega, fun r9 t b HA fr eA rne TA bA _ => ?_⟩
      have GA9 := G.next bA TA
      refine rvT rfl (SqT.of eA) rfl ⟨t, rfl, rvT rfl (SqT.of eA) rfl ⟨(by show 2 ≤ sizeLine; decide), fun wa HB nB sB eB => ?_⟩⟩
      obtain ⟨at0, ata⟩ := abs_low t
      generalize (if t < 0 then -t else t) = wt at eB at0 ata
      have GB9 := GA9.same sB (Int.le_refl _)
      refine ⟨_, rfl, _, rfl, tp, many, _, rfl, m1, m4, cl, GB9.T, by omega, fun ld EL HC nC bC TC eC dbC => ⟨ld, _, rfl, eC, fun oC => ?_⟩⟩
      obtain ⟨bD, TD, FD⟩ := drw (o := oC) GB9.T nC bC TC eC dbC
      generalize upd HC ld (.frz oC (.dT (EL.map Ent.kv))) = HD at bD TD FD
      have GD9 := GB9.next bD TD
      have waD : At2 HD wa wt b := (Kp.butT bD GB9.T).tup _ _ eB
      refine ⟨_, rfl, .inl ⟨rfl, _, SqL.of GD9.el⟩, _, rfl, _, rfl, (by show 2 ≤ sizeLine; decide), fun q HE nE sE eE => ⟨ls, _, _, rfl, rfl, sE _ _ GD9.el, ?_, ?_⟩⟩
      · have := Paired.length G.pr
        exact Nat.lt_of_le_of_lt (show xs.length ≤ 4 by omega) (by decide)
      have GE9 := GD9.same sE (Int.le_refl _)
      have kE : Kp HE (upd HE ls (.lst (xs ++ [.ref q]))) := Kp.upd GE9.el trivial
      have TF := GE9.T.upd (.lst (xs ++ [.ref q])) lso.1 lc (Int.le_refl _)
      have eF : (upd HE ls (.lst (xs ++ [.ref q]))) ls = some (.lst (xs ++ [.ref q])) := upd_same
      generalize upd HE ls (.lst (xs ++ [.ref q])) = HF at kE TF eF
      have kDF := (Kp.of sE).trans kE
      have FF := FD.kp kDF
      refine ⟨_, rfl, _, rfl, ld, many, z4, EL, rfl, FF, m4, by decide, by decide, by decide, fun sq ES HG nG sG eG dbG cG => ⟨sq, _, rfl, eG, fun oG => ?_⟩⟩
      obtain ⟨sI, FI⟩ := frz_new (o := oG) nG sG dbG eG
      generalize upd HG sq (.frz oG (.dT (ES.map Ent.kv))) = HI at sI FI
      have waI : At2 HI wa wt b := sI _ _ (kDF.tup _ _ waD)
      refine ⟨_, rfl, _, rfl, _, rfl, sq, wa, many, 14, 40, _, ES, wt, b, rfl, FI, waI, fr.pos, Nat.le_of_lt fr.sb, ?_, by decide, by decide, by decide, by decide, by decide, fun sc EC HJ nJ sJ eJ dbJ cJ _ => ⟨sc, _, rfl, eJ, fun oJ => ?_⟩⟩
      · rw [ata]
        exact Nat.le_trans (Nat.le_of_lt fr.st) (Nat.le_mul_of_pos_right _ (by have := fr.pos; omega))
      obtain ⟨sK, FK⟩ := frz_new (o := oJ) nJ sJ dbJ eJ
      generalize upd HJ sc (.frz oJ (.dT (EC.map Ent.kv))) = HK at sK FK
      have sFK := sI.trans sK
      have FK' : FQ HK sc many ⟨8, 144, 588, 10⟩ EC := FK
      have FdK := GE9.F.kp (kE.trans (Kp.of sFK))
      refine ⟨d, sc, many, _, _, E9, EC, rfl, FdK, FK', m1, m4, Nat.le_refl _, by show 144 ≤ 144 + 10 * i; omega, Nat.le_refl _, by show 588 * i + 588 ≤ 7900; omega, by show 144 + 10 * i + 10 ≤ 4000; omega, by show 10 * i + 10 ≤ 1000; omega, fun p E' HL nL sL eL dbL cL => ⟨p, _, rfl, eL, fun oL => ?_⟩⟩
      obtain ⟨sM, FM⟩ := frz_new (o := oL) nL sL dbL eL
      generalize upd HL p (.frz oL (.dT (E'.map Ent.kv))) = HM at sM FM
      have sFM := sFK.trans sM
      have kDM := kDF.trans (Kp.of sFM)
      have lnp : LnP HM many (.ref q) ⟨wt, b, 14, z4, EL⟩ := ⟨q, wa, ld, rfl, sFM _ _ (kE.tup _ _ eE), kDM.tup _ _ waD, FD.kp kDM⟩
      refine .mk (L := L ++ [⟨wt, b, 14, z4, EL⟩]) ⟨⟨TF.mono sFM (by omega), lso.1, sFM _ _ eF, Paired.app (Paired.to (fun _ _ h => h.kp kDM) GD9.pr) (.cons lnp .nil), FM.fr, FM.db.up (Nat.le_refl _) (by show 144 + 10 * i + 10 ≤ 144 + 10 * (i + 1); omega) (by show 588 * i + 588 ≤ 588 * (i + 1); omega) (by show 10 * i + 10 ≤ 10 * (i + 1); omega)⟩, lc, fun s hs => ?_, by rw [List.length_append, ll]; rfl, fun m => ?_⟩
      · rcases List.mem_append.mp hs with hs | hs
        · exact ok s hs
        · rw [List.mem_singleton.mp hs]
          refine ⟨⟨fr.pos, Nat.le_of_lt fr.sb, ?_, Nat.le_refl _, rfl⟩, at0⟩
          show wt.natAbs ≤ _
          rw [ata]
          exact fr_ratio fr
      · exact fs_c (ce m) (cL m) (cJ m) (cG m)
    · obtain ⟨⟨G, lc, ok, ll, ce⟩⟩ := h
      rename_i d xs L E9
      have l4 : L.length ≤ 4 := by omega
      have l1 : 1 ≤ L.length := by omega
      clear I0 kb b8 T8 T6 T5 b5
      generalize hz : (⟨8, 144 + 10 * (1 + c).toNat, 588 * (1 + c).toNat, 10 * (1 + c).toNat⟩ : Sz) = zz at G
      have zD : zz.D ≤ 8 := by rw [← hz]; exact Nat.le_refl _
      have zS : zz.S ≤ 7900 := by rw [← hz]; show 588 * _ ≤ 7900; omega
      have zv : zz.v ≤ 4000 := by rw [← hz]; show 144 + 10 * _ ≤ 4000; omega
      have zn : zz.n ≤ 63 := by rw [← hz]; show 10 * _ ≤ 63; omega
      have ok4 : ∀ s ∈ L, L4 14 s := fun s hs => (ok s hs).1
      have nn : ∀ s ∈ L, 0 ≤ s.t := fun s hs => (ok s hs).2
      have G0 : Grd cl tp ls d many xs L zz E9 (1000 + 300 * ((0 : Nat) : Int)) H9 := G.same (Same.refl _) (by omega)
      refine ⟨3, rfl, by decide, by decide, for_range (n := 3) (TnI cl a tp ls d many xs L zz E9 1000) (.mk G0) (fun i σ HA hi h => ?_) (fun σ HA h => ?_)⟩
      · obtain ⟨GA⟩ := h
        refine ⟨_, rfl, _, rfl, _, rfl, _, rfl, _, rfl, tp, ls, many, _, xs, L, rfl, GA.lt, GA.el, GA.pr, ok4, l4, m1, m4, cl, GA.T, by omega, fun p ys L' HB nB bB TB eB prB okB l9 ll' lk => ?_⟩
        have GB := GA.next bB TB
        have gs := gb_sum okB
        have g9 : L'.length * (448 + 10 * 17) ≤ 9 * 618 := Nat.mul_le_mul l9 (by decide)
        refine ⟨d, p, _, many, zz, E9, ys, L', rfl, GB.F, eB, prB, fun s hs => (okB s hs).lnb (by decide), by omega, by omega, m1, m4, zD, zS, zv, zn, .inr ⟨true, rfl, ⟨fun _ => ⟨lk.nn nn, fun m => by rw [lk.eq, ce]⟩, fun _ => rfl⟩⟩, fun HC sC => ⟨_, rfl, iteF (.mk (GB.same sC (by omega)))⟩⟩
      obtain ⟨GA⟩ := h
      have GA0 : Grd cl tp ls d many xs L zz E9 (2000 + 300 * ((0 : Nat) : Int)) HA := GA.same (Same.refl _) (by omega)
      refine ⟨12, rfl, by decide, by decide, for_range (n := 12) (TnI cl a tp ls d many xs L zz E9 2000) (.mk GA0) (fun i σ HB hi h => ?_) (fun σ HB h => ?_)⟩
      · obtain ⟨GB⟩ := h
        refine ⟨_, rfl, _, rfl, _, rfl, _, rfl, _, rfl, _, rfl, tp, ls, many, _, xs, L, rfl, GB.lt, GB.el, GB.pr, ok4, l4, m1, m4, cl, GB.T, by omega, fun p ys L' HC nC bC TC eC prC okC l9 ll' lk => ⟨(by show 2 ≤ sizeLine; decide), fun l2 HD nD sD eD => ?_⟩⟩
        have GD' := (GB.next bC TC).same sD (Int.le_refl _)
        have pick : ∃ (v : Addr) (zs : List V) (M : List Lnr), atI [V.ref ls, .ref p] ((0 + (i : Int)) % 2) = some (.ref v) ∧ HD v = some (.lst zs) ∧ Paired (LnP HD many) zs M ∧ (∀ s ∈ M, L4 17 s) ∧ 1 ≤ M.length ∧ M.length ≤ 9 := by
          rcases par2 i with e | e <;> rw [e]
          · exact ⟨ls, xs, L, rfl, GD'.el, GD'.pr, fun s hs => (ok4 s hs).up (by decide), l1, by omega⟩
          · exact ⟨p, ys, L', rfl, sD _ _ eC, Paired.to (fun _ _ h => h.kp (Kp.of sD)) prC, okC, by omega, l9⟩
        obtain ⟨v, zs, M, av, ev, pv', okv, v1, v9⟩ := pick
        refine ⟨_, rfl, _, _, rfl, rfl, (by show (0 : Int) < 2; decide), l2, _, _, _, rfl, rfl, SqL.of eD, av, ?_⟩
        refine ⟨tp, v, many, _, zs, M, rfl, ev, pv', okv, v1, v9, m1, m4, cl, GD'.T, by omega, fun q us N HE bE TE' eE prE okE gE lE => ?_⟩
        have GE := GD'.next bE TE'
        exact ⟨_, rfl, _, rfl, _, rfl, d, q, _, many, zz, E9, us, N, rfl, GE.F, eE, prE, okE, gE, by omega, m1, m4, zD, zS, zv, zn, .inl rfl, fun HF sF => ⟨_, rfl, iteF (.mk (GE.same sF (by omega)))⟩⟩
      obtain ⟨GB⟩ := h
      refine ⟨_, rfl, _, rfl, tp, many, _, rfl, m1, m4, cl, GB.T, by omega, fun md EM HC nC bC TC eC dbC => ⟨md, _, rfl, eC, fun oC => ?_⟩⟩
      obtain ⟨bD, TD, FD⟩ := drw (o := oC) GB.T nC bC TC eC dbC
      generalize upd HC md (.frz oC (.dT (EM.map Ent.kv))) = HD at bD TD FD
      have GD' := GB.next bD TD
      refine ⟨(by show 0 ≤ sizeLine; decide), fun l HE nE sE eE => ?_⟩
      refine ⟨(by show 2 ≤ sizeLine; decide), fun w1 H10 n10 s10 e10 => ⟨(by show 2 ≤ sizeLine; decide), fun t1 H11 n11 s11 e11 => ⟨(by show 2 ≤ sizeLine; decide), fun q1 H12 n12 s12 e12 => ?_⟩⟩⟩
      refine ⟨_, _, rfl, rfl, (by show 2 ≤ sizeLine; decide), fun w2 H13 n13 s13 e13 => ⟨_, _, rfl, rfl, (by show 2 ≤ sizeLine; decide), fun t2 H14 n14 s14 e14 => ⟨(by show 2 ≤ sizeLine; decide), fun q2 H15 n15 s15 e15 => ⟨(by show 2 ≤ sizeLine; decide), fun lp H16 n16 s16 e16 => ?_⟩⟩⟩⟩
      have s1416 := s15.trans s16
      have s1216 := (s13.trans s14).trans s1416
      have s1016 := (s11.trans s12).trans s1216
      have sDH := sE.trans (s10.trans s1016)
      have e13' : At2 H13 w2 (-1) 4 := e13
      have e14' : At2 H14 t2 (-1) 1 := e14
      have itm : ∀ (i : Nat) (x : V), [V.ref q1, .ref q2][i]? = some x → ∃ (q w t : Addr) (n : Int), x = .ref q ∧ H16 q = some (.tup [.ref w, .ref t]) ∧ At2 H16 w n 4 ∧ At2 H16 t n 1 ∧ ([1, -1] : List Int)[i]? = some n ∧ (n = 1 ∨ n = -1) := fun i x hx => by
        match i, hx with
        | 0, hx => exact ⟨q1, w1, t1, 1, (Option.some.inj hx).symm, s1216 _ _ e12, s1016 _ _ e10, s1216 _ _ (s12 _ _ e11), rfl, .inl rfl⟩
        | 1, hx => exact ⟨q2, w2, t2, -1, (Option.some.inj hx).symm, s16 _ _ e15, s1416 _ _ (s14 _ _ e13'), s1416 _ _ e14', rfl, .inr rfl⟩
        | i + 2, hx => exact absurd hx (by simp)
      have eH := s1016 _ _ (s10 _ _ eE)
      have lpl : lp ≠ l := fun z => by rw [z, (s15.trans (Same.refl _)) _ _ (((s10.trans (s11.trans s12)).trans (s13.trans s14)) _ _ eE)] at n16; cases n16
      refine ⟨lp, rfl, ⟨_, SqL.of e16⟩, for_list (K := K) (a := lp) (xs := [V.ref q1, .ref q2]) (PaI H16 a tp ls d many md l) (.mk (L' := []) (But.refl _ _) eH .nil (fun s h => nomatch h) rfl) (fun i σ HX _ h => ?_) (fun i x σ HX hx h => ?_) (fun σ HX h => ?_)⟩
      · obtain ⟨bX, _, _, _, _⟩ := h
        exact SqL.of (bX _ _ e16 lpl)
      · obtain ⟨bX, eX, prX, okX, tX⟩ := h
        rename_i ys L'
        obtain ⟨q, w, t, n, rfl, i1, i2, i3, i4, i5⟩ := itm i x hx
        have kX : Kp H16 HX := Kp.but bX eH trivial
        have hi2 : i < 2 := (List.getElem?_eq_some_iff.mp hx).1
        refine gT2 (SqT.of (kX.tup _ _ i1)) rfl ?_
        have FX := FD.kp ((Kp.of sDH).trans kX)
        refine ⟨_, rfl, md, many, _, rfl, FX.rd, m1, m4, FX.db.keyS (by decide), fun ln HA' nA sA eA => ?_⟩
        refine ⟨_, rfl, (by show 1 ≤ sizeLine; decide), fun z0 HB' nB' sB' eB' => ⟨_, rfl, z0, many, _, rfl, rfl, eB', m1, m4, fun zp HC' sC' eC' => ?_⟩⟩
        have sAC := sB'.trans sC'
        have sXC := sA.trans sAC
        have lnl : ln ≠ l := fun z => by rw [z, eX] at nA; cases nA
        have n1 : n.natAbs = 1 := by rcases i5 with e | e <;> rw [e] <;> rfl
        refine ⟨_, rfl, ln, zp, t, List.replicate many 0, n, 1, many, 0, z4, EM, rfl, sAC _ _ eA, (FX.kp (Kp.of sXC)).db, by decide, by decide, by decide, by rw [List.map_replicate]; exact eC', List.length_replicate, fun x hx => by rw [(List.mem_replicate.mp hx).2]; exact Int.le_refl _, ?_, sXC _ _ (kX.tup _ _ i3), by decide, by decide, ?_, fun E' HD' bD' eD' dbD' _ => ?_⟩
        · have : ∀ k : Nat, (List.replicate k (0 : Int)).sum = 0 := fun k => by induction k with
            | zero => rfl
            | succ k ih => rw [List.replicate_succ, List.sum_cons, ih]; rfl
          rw [this]
          show (0 : Int) ≤ ((4 : Nat) : Int)
          decide
        · rw [n1]
          decide
        have kD' : Kp HC' HD' := Kp.but bD' (sAC _ _ eA) trivial
        have elD : HD' l = some (.lst ys) := bD' _ _ (sXC _ _ eX) (Ne.symm lnl)
        refine ⟨_, rfl, .inl ⟨rfl, _, SqL.of elD⟩, _, rfl, _, rfl, ln, _, rfl, eD', fun oF => ?_⟩
        have kF : Kp HD' (upd HD' ln (.frz oF (.dT (E'.map Ent.kv)))) := Kp.upd eD' trivial
        have FF : FQ (upd HD' ln (.frz oF (.dT (E'.map Ent.kv)))) ln many z5 E' := ⟨⟨oF, upd_same⟩, dbD'.kp kF⟩
        have elF : (upd HD' ln (.frz oF (.dT (E'.map Ent.kv)))) l = some (.lst ys) := by rw [upd_ne (Ne.symm lnl)]; exact elD
        have bF : But ln HC' (upd HD' ln (.frz oF (.dT (E'.map Ent.kv)))) := bD'.trans (But.upd _ _ _)
        generalize upd HD' ln (.frz oF (.dT (E'.map Ent.kv))) = HF' at kF FF elF bF
        have sXF : Same HX HF' := same_but sXC (bF) nA
        refine ⟨(by show 2 ≤ sizeLine; decide), fun qq HG' nG' sG' eG' => ⟨l, _, _, rfl, rfl, sG' _ _ elF, ?_, ?_⟩⟩
        · have h1 := Paired.length prX
          have h2 := congrArg List.length tX
          rw [List.length_map, List.length_take] at h2
          exact Nat.lt_of_le_of_lt (show ys.length ≤ 2 by omega) (by decide)
        have sXG := sXF.trans sG'
        have kG : Kp HG' (upd HG' l (.lst (ys ++ [.ref qq]))) := Kp.upd (sG' _ _ elF) trivial
        have lnp : LnP (upd HG' l (.lst (ys ++ [.ref qq]))) many (.ref qq) ⟨n, 4, 2, z5, E'⟩ := ⟨qq, w, ln, rfl, kG.tup _ _ eG', kG.tup _ _ (sXG _ _ (kX.tup _ _ i2)), FF.kp ((Kp.of sG').trans kG)⟩
        refine .mk (L' := L' ++ [⟨n, 4, 2, z5, E'⟩]) ((bX.trans (But.of sXG)).trans (But.upd _ _ _)) upd_same (Paired.app (Paired.to (fun _ _ h => h.kp ((Kp.of sXG).trans kG)) prX) (.cons lnp .nil)) (fun s hs => ?_) ?_
        · rcases List.mem_append.mp hs with hs | hs
          · exact okX s hs
          · rw [List.mem_singleton.mp hs]
            exact ⟨rfl, rfl, rfl, i5⟩
        · rw [List.map_append, tX, List.take_add_one, i4]
          rfl
      · obtain ⟨bX, eX, prX, okX, tX⟩ := h
        rename_i ys L'
        have sDX : Same HD HX := same_but sDH bX nE
        have GX := GD'.same sDX (Int.le_refl _)
        have FX := FD.kp (Kp.of sDX)
        obtain ⟨y1, y2, p, q, rfl, rfl, h1, h2, tp1⟩ := two_of prX tX
        have okp := okX p (by simp)
        have okq := okX q (by simp)
        obtain ⟨r1, wp1, dp1, ey1, j1, j2, j3⟩ := h1.ex
        subst ey1
        have lnb : ∀ s ∈ [p, q], LnB s := fun s hs => (okX s hs).lnb
        refine ⟨_, rfl, _, rfl, _, rfl, md, l, _, many, z4, EM, _, [p, q], rfl, FX, eX, .cons h1 (.cons h2 .nil), lnb, ?_, (by show 2 ≤ 20; decide), m1, m4, by decide, by decide, by decide, by decide, .inr ⟨false, rfl, ⟨(fun h => nomatch h), fun h => ?_⟩⟩, fun HY sY => ⟨_, rfl, iteF ?_⟩⟩
        · show p.gb + (q.gb + 0) ≤ 7800
          rw [okp.gb, okq.gb]
          decide
        · have := h.1 q (by simp)
          rw [tp1] at this
          exact absurd this (by decide)
        have GY := GX.same sY (Int.le_refl _)
        have lx := Paired.length GY.pr
        refine ⟨_, rfl, _, rfl, _, rfl, _, rfl, _, rfl, l, _, rfl, SqL.of (sY _ _ eX), fun c1 H20 n20 s20 e20 => ⟨ls, c1, xs, _, rfl, rfl, s20 _ _ GY.el, e20, ?_, fun c2 H21 n21 s21 e21 => ?_⟩⟩
        · show xs.length + (cutV [_, _] none (some 1)).length ≤ sizeLine
          exact Nat.le_trans (show xs.length + 1 ≤ 5 by omega) (by decide)
        have sY1 := s20.trans s21
        refine ⟨_, _, rfl, rfl, (by show 2 ≤ sizeLine; decide), fun w3 H22 n22 s22 e22 => ?_⟩
        have sY2 := sY1.trans s22
        have sX2 := sY.trans sY2
        refine ⟨_, rfl, l, _, 0, _, rfl, rfl, SqL.of (sX2 _ _ eX), rfl, r1, _, 1, _, rfl, rfl, SqT.of (sX2 _ _ j1), rfl, (by show 2 ≤ sizeLine; decide), fun q3 H23 n23 s23 e23 => ⟨(by show 1 ≤ sizeLine; decide), fun c3 H24 n24 s24 e24 => ⟨c2, c3, _, _, rfl, rfl, s24 _ _ (s23 _ _ (s22 _ _ e21)), e24, ?_, fun c4 H25 n25 s25 e25 => ?_⟩⟩⟩
        · show (xs ++ cutV [_, _] none (some 1)).length + 1 ≤ sizeLine
          rw [List.length_append]
          exact Nat.le_trans (show xs.length + 1 + 1 ≤ 6 by omega) (by decide)
        have s2225 := s23.trans (s24.trans s25)
        have sY5 := sY2.trans s2225
        have sX5 := sY.trans sY5
        have G5 := GY.same sY5 (Int.le_refl _)
        have pq : Paired (LnP H25 many) (xs ++ [V.ref r1] ++ [V.ref q3]) (L ++ [p] ++ [⟨-1, 4, 2, z5, p.E⟩]) := by
          refine Paired.app (Paired.app G5.pr (.cons (h1.kp (Kp.of sX5)) .nil)) (.cons ⟨q3, w3, dp1, rfl, s25 _ _ (s24 _ _ e23), s2225 _ _ e22, ?_⟩ .nil)
          have := j3.kp (Kp.of sX5)
          rw [okp.z] at this
          exact this
        have okn : P5 ⟨-1, 4, 2, z5, p.E⟩ := ⟨rfl, rfl, rfl, .inr rfl⟩
        have gs := gb_sum ok4
        have g4 : L.length * (448 + 10 * 14) ≤ 4 * 588 := Nat.mul_le_mul l4 (by decide)
        refine ⟨d, c4, _, many, zz, E9, _, _, rfl, G5.F, e25, pq, fun s hs => ?_, ?_, ?_, m1, m4, zD, zS, zv, zn, .inr ⟨false, rfl, ⟨(fun h => nomatch h), fun h => ?_⟩⟩, fun H26 s26 => ⟨_, rfl, iteF ?_⟩⟩
        · rcases List.mem_append.mp hs with hs | hs
          · rcases List.mem_append.mp hs with hs | hs
            · exact (ok4 s hs).lnb (by decide)
            · rw [List.mem_singleton.mp hs]
              exact okp.lnb
          · rw [List.mem_singleton.mp hs]
            exact okn.lnb
        · rw [List.map_append, List.map_append, List.sum_append, List.sum_append]
          show _ + (p.gb + 0) + (Lnr.gb _ + 0) ≤ 7800
          rw [okp.gb, okn.gb]
          omega
        · rw [List.length_append, List.length_append]
          show L.length + 1 + 1 ≤ 20
          omega
        · have := h.1 ⟨-1, 4, 2, z5, p.E⟩ (by simp)
          exact absurd this (by show ¬ (0 : Int) ≤ -1; decide)
        intro d6 n6
        refine ⟨d6, [], rfl, upd_same, fun o6 => ⟨_, rfl, (by show 0 ≤ sizeLine; decide), fun l6 H27 n27 s27 e27 => ?_⟩⟩
        exact ⟨d6, l6, _, many, ⟨0, 0, 0, 0⟩, [], [], [], rfl, ⟨⟨o6, s27 _ _ upd_same⟩, List.nodup_nil, (fun e h => nomatch h), Nat.zero_le _, Nat.zero_le _⟩, e27, .nil, (fun s h => nomatch h), Nat.zero_le _, Nat.zero_le _, m1, m4, by decide, by decide, by decide, by decide, .inr ⟨true, rfl, ⟨fun _ => ⟨(fun s h => nomatch h), fun _ => rfl⟩, fun _ => rfl⟩⟩, fun H28 _ => go H28⟩
end
end Lw

namespace Lw
open PySem PySem.Spec PyProof.Rows L2 LwQ LwV
theorem len1 {us : List Value} (h : us.length = 1) : ∃ a, us = [a] := by cases us with | nil => cases h | cons a r => have e : r = [] := List.length_eq_zero_iff.mp (by simpa using h); subst e; exact ⟨a, rfl⟩
theorem len2 {us : List Value} (h : us.length = 2) : ∃ a b, us = [a, b] := by cases us with | nil => cases h | cons a r => obtain ⟨b, rfl⟩ := len1 (us := r) (by simpa using h); exact ⟨a, b, rfl⟩
theorem len3 {us : List Value} (h : us.length = 3) : ∃ a b c, us = [a, b, c] := by cases us with | nil => cases h | cons a r => obtain ⟨b, c, rfl⟩ := len2 (us := r) (by simpa using h); exact ⟨a, b, c, rfl⟩
theorem len4 {us : List Value} (h : us.length = 4) : ∃ a b c d, us = [a, b, c, d] := by cases us with | nil => cases h | cons a r => obtain ⟨b, c, d, rfl⟩ := len3 (us := r) (by simpa using h); exact ⟨a, b, c, d, rfl⟩
theorem all_mk {l : PySem.W.OpenLaw} {w : World} {K : PySem.W.Frag} {h : Heap} {mg : Str → Option Value} {fa f1 f2 f3 f4 f5 f6 f7 f8 f9 f10 f11 f12 f13 f14 f15 f16 f17 f18 f19 f20 f21 f22 f23 f24 f25 f26 f27 f28 nA : Addr} (X : K.In h) (G : h.Ns mainGlobals mg) (hfa : mg "law" = some (.ref fa))
    {od1 an1 od2 an2 od3 an3 od4 an4 od5 an5 od6 an6 od7 an7 od8 an8 od9 an9 od10 an10 od11 an11 od12 an12 od13 an13 od14 an14 od15 an15 od16 an16 od17 an17 od18 an18 od19 an19 od20 an20 od21 an21 od22 an22 od23 an23 od24 an24 od25 an25 od26 an26 od27 an27 od28 an28 odN : Option Addr} {sl1 sl2 sl3 sl4 sl5 sl6 sl7 sl8 sl9 sl10 sl11 sl12 sl13 sl14 sl15 sl16 sl17 sl18 sl19 sl20 sl21 sl22 sl23 sl24 sl25 sl26 sl27 sl28 slN : Array (Option Value)} {nN : Nat}
    {oc1 kV1 dc1 pm1 cd1 ct1 oc2 kV2 dc2 pm2 cd2 ct2 oc3 kV3 dc3 pm3 cd3 ct3 oc4 kV4 dc4 pm4 cd4 ct4 oc5 kV5 dc5 pm5 cd5 ct5 oc6 kV6 dc6 pm6 cd6 ct6 oc7 kV7 dc7 pm7 cd7 ct7 oc8 kV8 dc8 pm8 cd8 ct8 oc9 kV9 dc9 pm9 cd9 ct9 oc10 kV10 dc10 pm10 cd10 ct10 oc11 kV11 dc11 pm11 cd11 ct11 oc12 kV12 dc12 pm12 cd12 ct12 oc13 kV13 dc13 pm13 cd13 ct13 oc14 kV14 dc14 pm14 cd14 ct14 oc15 kV15 dc15 pm15 cd15 ct15 oc16 kV16 dc16 pm16 cd16 ct16 oc17 kV17 dc17 pm17 cd17 ct17 oc18 kV18 dc18 pm18 cd18 ct18 oc19 kV19 dc19 pm19 cd19 ct19 oc20 kV20 dc20 pm20 cd20 ct20 oc21 kV21 dc21 pm21 cd21 ct21 oc22 kV22 dc22 pm22 cd22 ct22 oc23 kV23 dc23 pm23 cd23 ct23 oc24 kV24 dc24 pm24 cd24 ct24 oc25 kV25 dc25 pm25 cd25 ct25 oc26 kV26 dc26 pm26 cd26 ct26 oc27 kV27 dc27 pm27 cd27 ct27 oc28 kV28 dc28 pm28 cd28 ct28 : Value}
    (a1 : PySem.W.nsIn K mainGlobals "greatest_divisor" = some (some (.ref f1))) (l1 : K.lookup f1 = some ⟨oc1, od1, .func (PySem.W.fnOf "greatest_divisor" "greatest_divisor" (defArgs sGcd) (defBody sGcd) (defScope sGcd) .none kV1 dc1 pm1 an1 cd1 ct1), sl1⟩) (c1 : PySem.W.codeIn K cd1 "greatest_divisor" = true) (k1 : PySem.W.keepIn K (.ref f1) = true)
    (a2 : PySem.W.nsIn K mainGlobals "multiplied" = some (some (.ref f2))) (l2 : K.lookup f2 = some ⟨oc2, od2, .func (PySem.W.fnOf "multiplied" "multiplied" (defArgs sMul) (defBody sMul) (defScope sMul) .none kV2 dc2 pm2 an2 cd2 ct2), sl2⟩) (c2 : PySem.W.codeIn K cd2 "multiplied" = true) (k2 : PySem.W.keepIn K (.ref f2) = true)
    (a3 : PySem.W.nsIn K mainGlobals "divided" = some (some (.ref f3))) (l3 : K.lookup f3 = some ⟨oc3, od3, .func (PySem.W.fnOf "divided" "divided" (defArgs sDiv) (defBody sDiv) (defScope sDiv) .none kV3 dc3 pm3 an3 cd3 ct3), sl3⟩) (c3 : PySem.W.codeIn K cd3 "divided" = true) (k3 : PySem.W.keepIn K (.ref f3) = true)
    (a4 : PySem.W.nsIn K mainGlobals "common_multiple" = some (some (.ref f4))) (l4 : K.lookup f4 = some ⟨oc4, od4, .func (PySem.W.fnOf "common_multiple" "common_multiple" (defArgs sCommon) (defBody sCommon) (defScope sCommon) .none kV4 dc4 pm4 an4 cd4 ct4), sl4⟩) (c4 : PySem.W.codeIn K cd4 "common_multiple" = true) (k4 : PySem.W.keepIn K (.ref f4) = true)
    (a5 : PySem.W.nsIn K mainGlobals "all_multiple" = some (some (.ref f5))) (l5 : K.lookup f5 = some ⟨oc5, od5, .func (PySem.W.fnOf "all_multiple" "all_multiple" (defArgs sAllM) (defBody sAllM) (defScope sAllM) .none kV5 dc5 pm5 an5 cd5 ct5), sl5⟩) (c5 : PySem.W.codeIn K cd5 "all_multiple" = true) (k5 : PySem.W.keepIn K (.ref f5) = true)
    (a6 : PySem.W.nsIn K mainGlobals "squared" = some (some (.ref f6))) (l6 : K.lookup f6 = some ⟨oc6, od6, .func (PySem.W.fnOf "squared" "squared" (defArgs sSqd) (defBody sSqd) (defScope sSqd) .none kV6 dc6 pm6 an6 cd6 ct6), sl6⟩) (c6 : PySem.W.codeIn K cd6 "squared" = true) (k6 : PySem.W.keepIn K (.ref f6) = true)
    (a7 : PySem.W.nsIn K mainGlobals "weighted_square" = some (some (.ref f7))) (l7 : K.lookup f7 = some ⟨oc7, od7, .func (PySem.W.fnOf "weighted_square" "weighted_square" (defArgs sWSq) (defBody sWSq) (defScope sWSq) .none kV7 dc7 pm7 an7 cd7 ct7), sl7⟩) (c7 : PySem.W.codeIn K cd7 "weighted_square" = true) (k7 : PySem.W.keepIn K (.ref f7) = true)
    (a8 : PySem.W.nsIn K mainGlobals "come_to" = some (some (.ref f8))) (l8 : K.lookup f8 = some ⟨oc8, od8, .func (PySem.W.fnOf "come_to" "come_to" (defArgs sCome) (defBody sCome) (defScope sCome) .none kV8 dc8 pm8 an8 cd8 ct8), sl8⟩) (c8 : PySem.W.codeIn K cd8 "come_to" = true) (k8 : PySem.W.keepIn K (.ref f8) = true)
    (a9 : PySem.W.nsIn K mainGlobals "are_squares" = some (some (.ref f9))) (l9 : K.lookup f9 = some ⟨oc9, od9, .func (PySem.W.fnOf "are_squares" "are_squares" (defArgs sAre) (defBody sAre) (defScope sAre) .none kV9 dc9 pm9 an9 cd9 ct9), sl9⟩) (c9 : PySem.W.codeIn K cd9 "are_squares" = true) (k9 : PySem.W.keepIn K (.ref f9) = true)
    (a10 : PySem.W.nsIn K mainGlobals "_law_draw" = some (some (.ref f10))) (l10 : K.lookup f10 = some ⟨oc10, od10, .func (PySem.W.fnOf "_law_draw" "_law_draw" (defArgs sDraw) (defBody sDraw) (defScope sDraw) .none kV10 dc10 pm10 an10 cd10 ct10), sl10⟩) (c10 : PySem.W.codeIn K cd10 "_law_draw" = true) (k10 : PySem.W.keepIn K (.ref f10) = true)
    (a11 : PySem.W.nsIn K mainGlobals "_law_low" = some (some (.ref f11))) (l11 : K.lookup f11 = some ⟨oc11, od11, .func (PySem.W.fnOf "_law_low" "_law_low" (defArgs sLow) (defBody sLow) (defScope sLow) .none kV11 dc11 pm11 an11 cd11 ct11), sl11⟩) (c11 : PySem.W.codeIn K cd11 "_law_low" = true) (k11 : PySem.W.keepIn K (.ref f11) = true)
    (a12 : PySem.W.nsIn K mainGlobals "_law_plus" = some (some (.ref f12))) (l12 : K.lookup f12 = some ⟨oc12, od12, .func (PySem.W.fnOf "_law_plus" "_law_plus" (defArgs sPlus) (defBody sPlus) (defScope sPlus) .none kV12 dc12 pm12 an12 cd12 ct12), sl12⟩) (c12 : PySem.W.codeIn K cd12 "_law_plus" = true) (k12 : PySem.W.keepIn K (.ref f12) = true)
    (a13 : PySem.W.nsIn K mainGlobals "_law_mul" = some (some (.ref f13))) (l13 : K.lookup f13 = some ⟨oc13, od13, .func (PySem.W.fnOf "_law_mul" "_law_mul" (defArgs sLMul) (defBody sLMul) (defScope sLMul) .none kV13 dc13 pm13 an13 cd13 ct13), sl13⟩) (c13 : PySem.W.codeIn K cd13 "_law_mul" = true) (k13 : PySem.W.keepIn K (.ref f13) = true)
    (a14 : PySem.W.nsIn K mainGlobals "_law_like" = some (some (.ref f14))) (l14 : K.lookup f14 = some ⟨oc14, od14, .func (PySem.W.fnOf "_law_like" "_law_like" (defArgs sLike) (defBody sLike) (defScope sLike) .none kV14 dc14 pm14 an14 cd14 ct14), sl14⟩) (c14 : PySem.W.codeIn K cd14 "_law_like" = true) (k14 : PySem.W.keepIn K (.ref f14) = true)
    (a15 : PySem.W.nsIn K mainGlobals "_law_put" = some (some (.ref f15))) (l15 : K.lookup f15 = some ⟨oc15, od15, .func (PySem.W.fnOf "_law_put" "_law_put" (defArgs sPut) (defBody sPut) (defScope sPut) .none kV15 dc15 pm15 an15 cd15 ct15), sl15⟩) (c15 : PySem.W.codeIn K cd15 "_law_put" = true) (k15 : PySem.W.keepIn K (.ref f15) = true)
    (a16 : PySem.W.nsIn K mainGlobals "_law_added" = some (some (.ref f16))) (l16 : K.lookup f16 = some ⟨oc16, od16, .func (PySem.W.fnOf "_law_added" "_law_added" (defArgs sAdded) (defBody sAdded) (defScope sAdded) .none kV16 dc16 pm16 an16 cd16 ct16), sl16⟩) (c16 : PySem.W.codeIn K cd16 "_law_added" = true) (k16 : PySem.W.keepIn K (.ref f16) = true)
    (a17 : PySem.W.nsIn K mainGlobals "_law_product" = some (some (.ref f17))) (l17 : K.lookup f17 = some ⟨oc17, od17, .func (PySem.W.fnOf "_law_product" "_law_product" (defArgs sProd) (defBody sProd) (defScope sProd) .none kV17 dc17 pm17 an17 cd17 ct17), sl17⟩) (c17 : PySem.W.codeIn K cd17 "_law_product" = true) (k17 : PySem.W.keepIn K (.ref f17) = true)
    (a18 : PySem.W.nsIn K mainGlobals "_law_scaled" = some (some (.ref f18))) (l18 : K.lookup f18 = some ⟨oc18, od18, .func (PySem.W.fnOf "_law_scaled" "_law_scaled" (defArgs sScaled) (defBody sScaled) (defScope sScaled) .none kV18 dc18 pm18 an18 cd18 ct18), sl18⟩) (c18 : PySem.W.codeIn K cd18 "_law_scaled" = true) (k18 : PySem.W.keepIn K (.ref f18) = true)
    (a19 : PySem.W.nsIn K mainGlobals "_law_same" = some (some (.ref f19))) (l19 : K.lookup f19 = some ⟨oc19, od19, .func (PySem.W.fnOf "_law_same" "_law_same" (defArgs sSame) (defBody sSame) (defScope sSame) .none kV19 dc19 pm19 an19 cd19 ct19), sl19⟩) (c19 : PySem.W.codeIn K cd19 "_law_same" = true) (k19 : PySem.W.keepIn K (.ref f19) = true)
    (a20 : PySem.W.nsIn K mainGlobals "_law_sum" = some (some (.ref f20))) (l20 : K.lookup f20 = some ⟨oc20, od20, .func (PySem.W.fnOf "_law_sum" "_law_sum" (defArgs sLSum) (defBody sLSum) (defScope sLSum) .none kV20 dc20 pm20 an20 cd20 ct20), sl20⟩) (c20 : PySem.W.codeIn K cd20 "_law_sum" = true) (k20 : PySem.W.keepIn K (.ref f20) = true)
    (a21 : PySem.W.nsIn K mainGlobals "_law_is_number" = some (some (.ref f21))) (l21 : K.lookup f21 = some ⟨oc21, od21, .func (PySem.W.fnOf "_law_is_number" "_law_is_number" (defArgs sNum) (defBody sNum) (defScope sNum) .none kV21 dc21 pm21 an21 cd21 ct21), sl21⟩) (c21 : PySem.W.codeIn K cd21 "_law_is_number" = true) (k21 : PySem.W.keepIn K (.ref f21) = true)
    (a22 : PySem.W.nsIn K mainGlobals "_law_number" = some (some (.ref f22))) (l22 : K.lookup f22 = some ⟨oc22, od22, .func (PySem.W.fnOf "_law_number" "_law_number" (defArgs sNumber) (defBody sNumber) (defScope sNumber) .none kV22 dc22 pm22 an22 cd22 ct22), sl22⟩) (c22 : PySem.W.codeIn K cd22 "_law_number" = true) (k22 : PySem.W.keepIn K (.ref f22) = true)
    (a23 : PySem.W.nsIn K mainGlobals "_law_borne" = some (some (.ref f23))) (l23 : K.lookup f23 = some ⟨oc23, od23, .func (PySem.W.fnOf "_law_borne" "_law_borne" (defArgs sBorne) (defBody sBorne) (defScope sBorne) .none kV23 dc23 pm23 an23 cd23 ct23), sl23⟩) (c23 : PySem.W.codeIn K cd23 "_law_borne" = true) (k23 : PySem.W.keepIn K (.ref f23) = true)
    (a24 : PySem.W.nsIn K mainGlobals "_law_drawn" = some (some (.ref f24))) (l24 : K.lookup f24 = some ⟨oc24, od24, .func (PySem.W.fnOf "_law_drawn" "_law_drawn" (defArgs sDrawn) (defBody sDrawn) (defScope sDrawn) .none kV24 dc24 pm24 an24 cd24 ct24), sl24⟩) (c24 : PySem.W.codeIn K cd24 "_law_drawn" = true) (k24 : PySem.W.keepIn K (.ref f24) = true)
    (a25 : PySem.W.nsIn K mainGlobals "_law_other" = some (some (.ref f25))) (l25 : K.lookup f25 = some ⟨oc25, od25, .func (PySem.W.fnOf "_law_other" "_law_other" (defArgs sOther) (defBody sOther) (defScope sOther) .none kV25 dc25 pm25 an25 cd25 ct25), sl25⟩) (c25 : PySem.W.codeIn K cd25 "_law_other" = true) (k25 : PySem.W.keepIn K (.ref f25) = true)
    (a26 : PySem.W.nsIn K mainGlobals "_law_bent" = some (some (.ref f26))) (l26 : K.lookup f26 = some ⟨oc26, od26, .func (PySem.W.fnOf "_law_bent" "_law_bent" (defArgs sBent) (defBody sBent) (defScope sBent) .none kV26 dc26 pm26 an26 cd26 ct26), sl26⟩) (c26 : PySem.W.codeIn K cd26 "_law_bent" = true) (k26 : PySem.W.keepIn K (.ref f26) = true)
    (a27 : PySem.W.nsIn K mainGlobals "_law_told" = some (some (.ref f27))) (l27 : K.lookup f27 = some ⟨oc27, od27, .func (PySem.W.fnOf "_law_told" "_law_told" (defArgs sTold) (defBody sTold) (defScope sTold) .none kV27 dc27 pm27 an27 cd27 ct27), sl27⟩) (c27 : PySem.W.codeIn K cd27 "_law_told" = true) (k27 : PySem.W.keepIn K (.ref f27) = true)
    (a28 : PySem.W.nsIn K mainGlobals "law" = some (some (.ref f28))) (l28 : K.lookup f28 = some ⟨oc28, od28, .func (PySem.W.fnOf "law" "law" (defArgs sLaw) (defBody sLaw) (defScope sLaw) .none kV28 dc28 pm28 an28 cd28 ct28), sl28⟩) (c28 : PySem.W.codeIn K cd28 "law" = true) (k28 : PySem.W.keepIn K (.ref f28) = true)
    (z1 : PySem.W.nsIn K mainGlobals "isinstance" = some none)
    (z2 : PySem.W.nsIn K mainGlobals "len" = some none)
    (z3 : PySem.W.nsIn K mainGlobals "int" = some none)
    (z4 : PySem.W.nsIn K mainGlobals "bool" = some none)
    (z5 : PySem.W.nsIn K mainGlobals "tuple" = some none)
    (z6 : PySem.W.nsIn K mainGlobals "list" = some none)
    (z7 : PySem.W.nsIn K mainGlobals "abs" = some none)
    (z8 : PySem.W.nsIn K mainGlobals "range" = some none)
    (z9 : PySem.W.nsIn K mainGlobals "sum" = some none)
    (z10 : PySem.W.nsIn K mainGlobals "zip" = some none)
    (z11 : PySem.W.nsIn K mainGlobals "sorted" = some none)
    (z12 : PySem.W.nsIn K mainGlobals "enumerate" = some none)
    (z13 : PySem.W.nsIn K mainGlobals "any" = some none)
    (z14 : PySem.W.nsIn K mainGlobals "all" = some none)
    (z15 : PySem.W.nsIn K mainGlobals "dict" = some none)
    {tk1 : Tok} (v1 : PySem.W.nsIn K mainGlobals "LONG_BITS" = some (some (.int 8000 tk1)))
    {t0 t1 : Tok} (nN1 : PySem.W.nsIn K mainGlobals "NOUGHT" = some (some (.ref nA))) (nN2 : K.lookup nA = some ⟨.type "tuple", odN, .seq #[.int 0 t0, .int 1 t1] nN, slN⟩) :
    ∃ fd : FuncData, (∀ (s : Shared) (v : Value), BindsTo s fd ⟨[v], []⟩ [("script", v)]) ∧ ∀ base : Heap, K.In base → base.Ns mainGlobals mg → FnOk l.prog w K mg base CX0 9 fa fd ["script"] (spLaw K) := by
  have e := hfa.symm.trans (PySem.W.mg_of X G a28)
  cases e
  have T : Txt mg := ⟨PySem.W.mg_none_of X G z1, PySem.W.mg_none_of X G z2, PySem.W.mg_none_of X G z3, PySem.W.mg_none_of X G z4, PySem.W.mg_none_of X G z5, PySem.W.mg_none_of X G z6, PySem.W.mg_none_of X G z7, PySem.W.mg_none_of X G z8, ⟨_, PySem.W.mg_of X G v1⟩, PySem.W.mg_none_of X G z9, PySem.W.mg_none_of X G z10, PySem.W.mg_none_of X G z11, PySem.W.mg_none_of X G z12, PySem.W.mg_none_of X G z13, PySem.W.mg_none_of X G z14, PySem.W.mg_none_of X G z15⟩
  have N : Ngt K mg := ⟨nA, PySem.W.mg_of X G nN1, fun H => .inr ⟨_, _, _, nN2, rfl, rfl, by show 2 ≤ sizeLine; decide, .cons ⟨_, rfl⟩ (.cons ⟨_, rfl⟩ .nil)⟩⟩
  have F1 := fun_mk (st := sGcd) l1 c1 k1
  have F2 := fun_mk (st := sMul) l2 c2 k2
  have F3 := fun_mk (st := sDiv) l3 c3 k3
  have F4 := fun_mk (st := sCommon) l4 c4 k4
  have F5 := fun_mk (st := sAllM) l5 c5 k5
  have F6 := fun_mk (st := sSqd) l6 c6 k6
  have F7 := fun_mk (st := sWSq) l7 c7 k7
  have F8 := fun_mk (st := sCome) l8 c8 k8
  have F9 := fun_mk (st := sAre) l9 c9 k9
  have F10 := fun_mk (st := sDraw) l10 c10 k10
  have F11 := fun_mk (st := sLow) l11 c11 k11
  have F12 := fun_mk (st := sPlus) l12 c12 k12
  have F13 := fun_mk (st := sLMul) l13 c13 k13
  have F14 := fun_mk (st := sLike) l14 c14 k14
  have F15 := fun_mk (st := sPut) l15 c15 k15
  have F16 := fun_mk (st := sAdded) l16 c16 k16
  have F17 := fun_mk (st := sProd) l17 c17 k17
  have F18 := fun_mk (st := sScaled) l18 c18 k18
  have F19 := fun_mk (st := sSame) l19 c19 k19
  have F20 := fun_mk (st := sLSum) l20 c20 k20
  have F21 := fun_mk (st := sNum) l21 c21 k21
  have F22 := fun_mk (st := sNumber) l22 c22 k22
  have F23 := fun_mk (st := sBorne) l23 c23 k23
  have F24 := fun_mk (st := sDrawn) l24 c24 k24
  have F25 := fun_mk (st := sOther) l25 c25 k25
  have F26 := fun_mk (st := sBent) l26 c26 k26
  have F27 := fun_mk (st := sTold) l27 c27 k27
  have F28 := fun_mk (st := sLaw) l28 c28 k28
  have b1 := F1.binds (ps := ["one", "other"]) fun _ _ _ _ _ _ us hl => by obtain ⟨_, _, rfl⟩ := len2 hl; rfl
  have D1 : Df K mg "greatest_divisor" sGcd ["one", "other"] f1 _ := ⟨F1, b1, PySem.W.mg_of X G a1⟩
  have b2 := F2.binds (ps := ["one", "other"]) fun _ _ _ _ _ _ us hl => by obtain ⟨_, _, rfl⟩ := len2 hl; rfl
  have D2 : Df K mg "multiplied" sMul ["one", "other"] f2 _ := ⟨F2, b2, PySem.W.mg_of X G a2⟩
  have b3 := F3.binds (ps := ["one", "other"]) fun _ _ _ _ _ _ us hl => by obtain ⟨_, _, rfl⟩ := len2 hl; rfl
  have D3 : Df K mg "divided" sDiv ["one", "other"] f3 _ := ⟨F3, b3, PySem.W.mg_of X G a3⟩
  have b4 := F4.binds (ps := ["one", "other"]) fun _ _ _ _ _ _ us hl => by obtain ⟨_, _, rfl⟩ := len2 hl; rfl
  have D4 : Df K mg "common_multiple" sCommon ["one", "other"] f4 _ := ⟨F4, b4, PySem.W.mg_of X G a4⟩
  have b5 := F5.binds (ps := ["numbers"]) fun _ _ _ _ _ _ us hl => by obtain ⟨_, rfl⟩ := len1 hl; rfl
  have D5 : Df K mg "all_multiple" sAllM ["numbers"] f5 _ := ⟨F5, b5, PySem.W.mg_of X G a5⟩
  have b6 := F6.binds (ps := ["terms"]) fun _ _ _ _ _ _ us hl => by obtain ⟨_, rfl⟩ := len1 hl; rfl
  have D6 : Df K mg "squared" sSqd ["terms"] f6 _ := ⟨F6, b6, PySem.W.mg_of X G a6⟩
  have b7 := F7.binds (ps := ["weight", "one"]) fun _ _ _ _ _ _ us hl => by obtain ⟨_, _, rfl⟩ := len2 hl; rfl
  have D7 : Df K mg "weighted_square" sWSq ["weight", "one"] f7 _ := ⟨F7, b7, PySem.W.mg_of X G a7⟩
  have b8 := F8.binds (ps := ["one", "shares"]) fun _ _ _ _ _ _ us hl => by obtain ⟨_, _, rfl⟩ := len2 hl; rfl
  have D8 : Df K mg "come_to" sCome ["one", "shares"] f8 _ := ⟨F8, b8, PySem.W.mg_of X G a8⟩
  have b9 := F9.binds (ps := ["one", "some"]) fun _ _ _ _ _ _ us hl => by obtain ⟨_, _, rfl⟩ := len2 hl; rfl
  have D9 : Df K mg "are_squares" sAre ["one", "some"] f9 _ := ⟨F9, b9, PySem.W.mg_of X G a9⟩
  have b10 := F10.binds (ps := ["tape", "many"]) fun _ _ _ _ _ _ us hl => by obtain ⟨_, _, rfl⟩ := len2 hl; rfl
  have D10 : Df K mg "_law_draw" sDraw ["tape", "many"] f10 _ := ⟨F10, b10, PySem.W.mg_of X G a10⟩
  have b11 := F11.binds (ps := ["top", "bottom"]) fun _ _ _ _ _ _ us hl => by obtain ⟨_, _, rfl⟩ := len2 hl; rfl
  have D11 : Df K mg "_law_low" sLow ["top", "bottom"] f11 _ := ⟨F11, b11, PySem.W.mg_of X G a11⟩
  have b12 := F12.binds (ps := ["one", "other"]) fun _ _ _ _ _ _ us hl => by obtain ⟨_, _, rfl⟩ := len2 hl; rfl
  have D12 : Df K mg "_law_plus" sPlus ["one", "other"] f12 _ := ⟨F12, b12, PySem.W.mg_of X G a12⟩
  have b13 := F13.binds (ps := ["one", "other"]) fun _ _ _ _ _ _ us hl => by obtain ⟨_, _, rfl⟩ := len2 hl; rfl
  have D13 : Df K mg "_law_mul" sLMul ["one", "other"] f13 _ := ⟨F13, b13, PySem.W.mg_of X G a13⟩
  have b14 := F14.binds (ps := ["one", "other"]) fun _ _ _ _ _ _ us hl => by obtain ⟨_, _, rfl⟩ := len2 hl; rfl
  have D14 : Df K mg "_law_like" sLike ["one", "other"] f14 _ := ⟨F14, b14, PySem.W.mg_of X G a14⟩
  have b15 := F15.binds (ps := ["found", "powers", "number"]) fun _ _ _ _ _ _ us hl => by obtain ⟨_, _, _, rfl⟩ := len3 hl; rfl
  have D15 : Df K mg "_law_put" sPut ["found", "powers", "number"] f15 _ := ⟨F15, b15, PySem.W.mg_of X G a15⟩
  have b16 := F16.binds (ps := ["one", "other"]) fun _ _ _ _ _ _ us hl => by obtain ⟨_, _, rfl⟩ := len2 hl; rfl
  have D16 : Df K mg "_law_added" sAdded ["one", "other"] f16 _ := ⟨F16, b16, PySem.W.mg_of X G a16⟩
  have b17 := F17.binds (ps := ["one", "other"]) fun _ _ _ _ _ _ us hl => by obtain ⟨_, _, rfl⟩ := len2 hl; rfl
  have D17 : Df K mg "_law_product" sProd ["one", "other"] f17 _ := ⟨F17, b17, PySem.W.mg_of X G a17⟩
  have b18 := F18.binds (ps := ["one", "number"]) fun _ _ _ _ _ _ us hl => by obtain ⟨_, _, rfl⟩ := len2 hl; rfl
  have D18 : Df K mg "_law_scaled" sScaled ["one", "number"] f18 _ := ⟨F18, b18, PySem.W.mg_of X G a18⟩
  have b19 := F19.binds (ps := ["one", "other"]) fun _ _ _ _ _ _ us hl => by obtain ⟨_, _, rfl⟩ := len2 hl; rfl
  have D19 : Df K mg "_law_same" sSame ["one", "other"] f19 _ := ⟨F19, b19, PySem.W.mg_of X G a19⟩
  have b20 := F20.binds (ps := ["many", "one"]) fun _ _ _ _ _ _ us hl => by obtain ⟨_, _, rfl⟩ := len2 hl; rfl
  have D20 : Df K mg "_law_sum" sLSum ["many", "one"] f20 _ := ⟨F20, b20, PySem.W.mg_of X G a20⟩
  have b21 := F21.binds (ps := ["thing"]) fun _ _ _ _ _ _ us hl => by obtain ⟨_, rfl⟩ := len1 hl; rfl
  have D21 : Df K mg "_law_is_number" sNum ["thing"] f21 _ := ⟨F21, b21, PySem.W.mg_of X G a21⟩
  have b22 := F22.binds (ps := ["tape"]) fun _ _ _ _ _ _ us hl => by obtain ⟨_, rfl⟩ := len1 hl; rfl
  have D22 : Df K mg "_law_number" sNumber ["tape"] f22 _ := ⟨F22, b22, PySem.W.mg_of X G a22⟩
  have b23 := F23.binds (ps := ["one", "many", "some"]) fun _ _ _ _ _ _ us hl => by obtain ⟨_, _, _, rfl⟩ := len3 hl; rfl
  have D23 : Df K mg "_law_borne" sBorne ["one", "many", "some"] f23 _ := ⟨F23, b23, PySem.W.mg_of X G a23⟩
  have b24 := F24.binds (ps := ["tape", "many"]) fun _ _ _ _ _ _ us hl => by obtain ⟨_, _, rfl⟩ := len2 hl; rfl
  have D24 : Df K mg "_law_drawn" sDrawn ["tape", "many"] f24 _ := ⟨F24, b24, PySem.W.mg_of X G a24⟩
  have b25 := F25.binds (ps := ["tape", "many", "some"]) fun _ _ _ _ _ _ us hl => by obtain ⟨_, _, _, rfl⟩ := len3 hl; rfl
  have D25 : Df K mg "_law_other" sOther ["tape", "many", "some"] f25 _ := ⟨F25, b25, PySem.W.mg_of X G a25⟩
  have b26 := F26.binds (ps := ["tape", "many", "some"]) fun _ _ _ _ _ _ us hl => by obtain ⟨_, _, _, rfl⟩ := len3 hl; rfl
  have D26 : Df K mg "_law_bent" sBent ["tape", "many", "some"] f26 _ := ⟨F26, b26, PySem.W.mg_of X G a26⟩
  have b27 := F27.binds (ps := ["one", "many", "some", "due"]) fun _ _ _ _ _ _ us hl => by obtain ⟨_, _, _, _, rfl⟩ := len4 hl; rfl
  have D27 : Df K mg "_law_told" sTold ["one", "many", "some", "due"] f27 _ := ⟨F27, b27, PySem.W.mg_of X G a27⟩
  refine ⟨PySem.W.fnOf "law" "law" (defArgs sLaw) (defBody sLaw) (defScope sLaw) .none kV28 dc28 pm28 an28 cd28 ct28, fun s v => .of_eq rfl, fun base _ _ => ?_⟩
  have Gd := ok_draw (P := l.prog) (w := w) (base := base) (mg := mg) F10 T
  have Gl := ok_low (P := l.prog) (w := w) (base := base) (mg := mg) F11 T
  have Gp := ok_plus (P := l.prog) (w := w) (base := base) (mg := mg) F12
  have Gn := ok_number (P := l.prog) (w := w) (base := base) (mg := mg) F22 T D10 D11
  have Gu := ok_put (P := l.prog) (w := w) (base := base) (mg := mg) F15 D12
  have Gm := ok_lmul (P := l.prog) (w := w) (base := base) (mg := mg) F13
  have Gk := ok_like (P := l.prog) (w := w) (base := base) (mg := mg) F14
  have Ga := ok_ladd (P := l.prog) (w := w) (base := base) (mg := mg) F16 T D15 Gu
  have Gq := ok_sq (P := l.prog) (w := w) (base := base) (mg := mg) F17 T D15 Gu D13 Gm
  have Gs := ok_scaled (P := l.prog) (w := w) (base := base) (mg := mg) F18 D13 Gm
  have Ge := ok_same (P := l.prog) (w := w) (base := base) (mg := mg) F19 T D14 Gk
  have Gsum := ok_lsum (P := l.prog) (w := w) (base := base) (mg := mg) F20 T D11 Gl
  have Gdv := ok_divN (P := l.prog) (w := w) (base := base) (mg := mg) F3 T D2 D1
  have Gcm := ok_common (P := l.prog) (w := w) (base := base) (mg := mg) F4 D3 Gdv
  have Gam := ok_allm (P := l.prog) (w := w) (base := base) (mg := mg) F5 D4 Gcm
  have Gsd := ok_sqd (P := l.prog) (w := w) (base := base) (mg := mg) F6 T
  have Gws := ok_wsq (P := l.prog) (w := w) (base := base) (mg := mg) F7 T D5 Gam D6 Gsd
  have Gct := ok_come (P := l.prog) (w := w) (base := base) (mg := mg) F8 T N D5 Gam
  have Gar := ok_are (P := l.prog) (w := w) (base := base) (mg := mg) F9 T N D8 Gct D7 Gws
  have Gf := ok_found (P := l.prog) (w := w) (base := base) (mg := mg) F24 T D10 Gd D15 Gu D22 Gn
  have Gin := ok_numA (P := l.prog) (w := w) (base := base) (mg := mg) F21 T D11 Gl
  have Gbo := ok_borne (P := l.prog) (w := w) (base := base) (mg := mg) F23 T D21 Gin D17 Gq D16 Ga D18 Gs D19 Ge
  have Gto := ok_told (P := l.prog) (w := w) (base := base) (mg := mg) F27 T D11 Gl D20 Gsum D9 Gar D23 Gbo
  have Got := ok_other (P := l.prog) (w := w) (base := base) (mg := mg) F25 D10 Gd D11 Gl D18 Gs D24 Gf
  have Gbe := ok_bent (P := l.prog) (w := w) (base := base) (mg := mg) F26 T D10 Gd D12 Gp D22 Gn D16 Ga D24 Gf
  exact ok_law F28 T D10 Gd D22 Gn D24 Gf D17 Gq D18 Gs D16 Ga D25 Got D26 Gbe D27 Gto D15 Gu
theorem walk {l : PySem.W.OpenLaw} {q : Program} {loose : List Str} {XP : (Str → Option Value) → Heap → Prop} {YP : World → Heap → Prop} {d : DefRec} {K : Params → PySem.W.Frag} (hn : l.most = some 63) (hdf : d.params.defaults = [])
    (hY : ∀ (w : World) (h : Heap), YP w h → (K w.params).In h)
    (F : ∀ (w : World) (mg : Str → Option Value) (fa : Addr) (h : Heap), (K w.params).In h → h.Ns mainGlobals mg → mg d.name = some (.ref fa) →
      ∃ fd : FuncData, (∀ (s : Shared) (u : Value), BindsTo s fd ⟨[u], []⟩ [("script", u)]) ∧ ∀ base : Heap, (K w.params).In base → base.Ns mainGlobals mg → FnOk l.prog w (K w.params) mg base CX0 9 fa fd ["script"] (spLaw (K w.params))) :
    PySem.W.WalkO q loose XP YP l.row.toRowW d [] (fun f vs => PySem.call f vs) :=
  L2.walk_of (n := 63) (k := 9) (x := "script") (CX := fun _ => CX0) (sp := fun w => spLaw (K w.params)) hn (by decide) hdf ⟨rfl, by decide, by decide⟩ hY F (fun _ _ a ns hl _ hS => ⟨a, ns, rfl, hS, hl, fun _ => rfl⟩) fun _ _ _ _ _ z => z
end Lw

open PySem PySem.W PyProof.Rows
namespace Lw
noncomputable def view14 : Program := { PySem.Challenge.pw_lowwater_k14_squares_looked_at with main := { PySem.Challenge.pw_lowwater_k14_squares_looked_at.main with body := ([1,2,4,5,6,7,8,9,10,12,13,14,15,16,17,18,20,21,22,23,24,25,26,27,28,29,30,31,32,33,34,35,36,37,38,39] : List Nat).filterMap fun i => PySem.Challenge.pw_lowwater_k14_squares_looked_at.main.body[i]? } }
end Lw
local macro_rules | `(tactic| o_head $H) => `(tactic| refine holds_open (q := Lw.view14) (loose := [Str.ofString "LowwaterError"]) (Xt := fun s => xlAt Lw.view14 [] s && recOk (RowW.records (PySem.Challenge.rw_lowwater_k14_squares_looked_at).row.toRowW) s) (XP := XL Lw.view14 []) (Yf := Hook.obs $H) (Ya := Hook.val $H) (YP := Hook.says $H) (N := 3104) (fun w => by kernel_rfl) (Hook.of $H) (Hook.keeps $H) (fun s e => xl_of s (Bool.and_eq_true_iff.mp e).1) XL.keeps (by rfl) (by rfl) (by rfl) (fun s e => recFacts_of (Bool.and_eq_true_iff.mp e).2) (by rfl) (by first | assumption | decide +kernel) (by decide +kernel) ⟨rfl, rfl, rfl, rfl, rfl, by decide +kernel⟩ ?hw ?hc)
set_option maxRecDepth 100000 in
set_option maxHeartbeats 0 in
theorem PySem.Challenge.cw_lowwater_k14_squares_looked_at_holds : PySem.Challenge.rw_lowwater_k14_squares_looked_at.Holds := by
  w_on; o_law; k_head; (case hw => w_witness2)
  k_fill
  refine Lw.walk (l := PySem.Challenge.rw_lowwater_k14_squares_looked_at) rfl rfl (fun w h Y => PySem.W.kIn_of Y) ?F
  case F =>
    intro w mg fa h KX G hmg
    refine' Lw.all_mk KX G hmg ?a1 ?l1 ?c1 ?k1 ?a2 ?l2 ?c2 ?k2 ?a3 ?l3 ?c3 ?k3 ?a4 ?l4 ?c4 ?k4 ?a5 ?l5 ?c5 ?k5 ?a6 ?l6 ?c6 ?k6 ?a7 ?l7 ?c7 ?k7 ?a8 ?l8 ?c8 ?k8 ?a9 ?l9 ?c9 ?k9 ?a10 ?l10 ?c10 ?k10 ?a11 ?l11 ?c11 ?k11 ?a12 ?l12 ?c12 ?k12 ?a13 ?l13 ?c13 ?k13 ?a14 ?l14 ?c14 ?k14 ?a15 ?l15 ?c15 ?k15 ?a16 ?l16 ?c16 ?k16 ?a17 ?l17 ?c17 ?k17 ?a18 ?l18 ?c18 ?k18 ?a19 ?l19 ?c19 ?k19 ?a20 ?l20 ?c20 ?k20 ?a21 ?l21 ?c21 ?k21 ?a22 ?l22 ?c22 ?k22 ?a23 ?l23 ?c23 ?k23 ?a24 ?l24 ?c24 ?k24 ?a25 ?l25 ?c25 ?k25 ?a26 ?l26 ?c26 ?k26 ?a27 ?l27 ?c27 ?k27 ?a28 ?l28 ?c28 ?k28 ?z1 ?z2 ?z3 ?z4 ?z5 ?z6 ?z7 ?z8 ?z9 ?z10 ?z11 ?z12 ?z13 ?z14 ?z15 ?v1 ?nN1 ?nN2
    (case a1 => k_is)
    (case l1 => k_is)
    (case c1 => k_is)
    (case k1 => k_is)
    (case a2 => k_is)
    (case l2 => k_is)
    (case c2 => k_is)
    (case k2 => k_is)
    (case a3 => k_is)
    (case l3 => k_is)
    (case c3 => k_is)
    (case k3 => k_is)
    (case a4 => k_is)
    (case l4 => k_is)
    (case c4 => k_is)
    (case k4 => k_is)
    (case a5 => k_is)
    (case l5 => k_is)
    (case c5 => k_is)
    (case k5 => k_is)
    (case a6 => k_is)
    (case l6 => k_is)
    (case c6 => k_is)
    (case k6 => k_is)
    (case a7 => k_is)
    (case l7 => k_is)
    (case c7 => k_is)
    (case k7 => k_is)
    (case a8 => k_is)
    (case l8 => k_is)
    (case c8 => k_is)
    (case k8 => k_is)
    (case a9 => k_is)
    (case l9 => k_is)
    (case c9 => k_is)
    (case k9 => k_is)
    (case a10 => k_is)
    (case l10 => k_is)
    (case c10 => k_is)
    (case k10 => k_is)
    (case a11 => k_is)
    (case l11 => k_is)
    (case c11 => k_is)
    (case k11 => k_is)
    (case a12 => k_is)
    (case l12 => k_is)
    (case c12 => k_is)
    (case k12 => k_is)
    (case a13 => k_is)
    (case l13 => k_is)
    (case c13 => k_is)
    (case k13 => k_is)
    (case a14 => k_is)
    (case l14 => k_is)
    (case c14 => k_is)
    (case k14 => k_is)
    (case a15 => k_is)
    (case l15 => k_is)
    (case c15 => k_is)
    (case k15 => k_is)
    (case a16 => k_is)
    (case l16 => k_is)
    (case c16 => k_is)
    (case k16 => k_is)
    (case a17 => k_is)
    (case l17 => k_is)
    (case c17 => k_is)
    (case k17 => k_is)
    (case a18 => k_is)
    (case l18 => k_is)
    (case c18 => k_is)
    (case k18 => k_is)
    (case a19 => k_is)
    (case l19 => k_is)
    (case c19 => k_is)
    (case k19 => k_is)
    (case a20 => k_is)
    (case l20 => k_is)
    (case c20 => k_is)
    (case k20 => k_is)
    (case a21 => k_is)
    (case l21 => k_is)
    (case c21 => k_is)
    (case k21 => k_is)
    (case a22 => k_is)
    (case l22 => k_is)
    (case c22 => k_is)
    (case k22 => k_is)
    (case a23 => k_is)
    (case l23 => k_is)
    (case c23 => k_is)
    (case k23 => k_is)
    (case a24 => k_is)
    (case l24 => k_is)
    (case c24 => k_is)
    (case k24 => k_is)
    (case a25 => k_is)
    (case l25 => k_is)
    (case c25 => k_is)
    (case k25 => k_is)
    (case a26 => k_is)
    (case l26 => k_is)
    (case c26 => k_is)
    (case k26 => k_is)
    (case a27 => k_is)
    (case l27 => k_is)
    (case c27 => k_is)
    (case k27 => k_is)
    (case a28 => k_is)
    (case l28 => k_is)
    (case c28 => k_is)
    (case k28 => k_is)
    (case z1 => k_is)
    (case z2 => k_is)
    (case z3 => k_is)
    (case z4 => k_is)
    (case z5 => k_is)
    (case z6 => k_is)
    (case z7 => k_is)
    (case z8 => k_is)
    (case z9 => k_is)
    (case z10 => k_is)
    (case z11 => k_is)
    (case z12 => k_is)
    (case z13 => k_is)
    (case z14 => k_is)
    (case z15 => k_is)
    (case v1 => k_is)
    (case nN1 => k_is)
    (case nN2 => k_is)

