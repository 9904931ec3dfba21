import PyProof.Rows.All
import Wide.All
import OpenK.AllK
import Wide.FinOn
import Lean
import PyProof.EqAt
import PyProof.EqKinds
import PyProof.TupleCall
import PySem.Challenge.RW_lowwater_k07_sums_shown
set_option Elab.async false
set_option linter.all false
set_option maxRecDepth 100000
namespace L2
open PySem PySem.Spec PyProof.Rows

noncomputable abbrev Key := Sum Int Str
noncomputable def keyIs : Key → Value → Bool
  | .inl k, v => Value.isInt k v
  | .inr x, v => Value.isStrOf x v
noncomputable def keyH (w : World) : Key → Int
  | .inl k => hashInt k
  | .inr x => hashStr w x
theorem keyIs_shape : ∀ {k : Key} {v : Value}, keyIs k v = true → (∃ i t, k = Sum.inl i ∧ v = Value.int i t) ∨ (∃ x t, k = Sum.inr x ∧ v = Value.str x t)
  | .inl i, v, h => by
    obtain ⟨t, e⟩ := Value.isInt_shape (k := i) (v := v) h
    exact .inl ⟨i, t, rfl, e⟩
  | .inr x, v, h => by
    obtain ⟨t, e⟩ := Value.isStrOf_shape (x := x) (v := v) h
    exact .inr ⟨x, t, rfl, e⟩
theorem keyIs_int (i : Int) (t : Tok) : keyIs (.inl i) (.int i t) = true := by simp [keyIs, Value.isInt]
theorem keyIs_str (x : Str) (t : Tok) : keyIs (.inr x) (.str x t) = true := by simp [keyIs, Value.isStrOf]
theorem key_ll (a b : Int) : decide ((Sum.inl a : Key) = Sum.inl b) = (a == b) := by
  by_cases e : a = b
  · subst e; simp
  · have h : ¬ (Sum.inl a : Key) = Sum.inl b := fun q => e (Sum.inl.inj q)
    rw [decide_eq_false h]
    exact (beq_eq_false_iff_ne.mpr e).symm
theorem key_rr (a b : Str) : decide ((Sum.inr a : Key) = Sum.inr b) = decide (a = b) := by
  by_cases e : a = b
  · subst e; simp
  · have h : ¬ (Sum.inr a : Key) = Sum.inr b := fun q => e (Sum.inr.inj q)
    rw [decide_eq_false h, decide_eq_false e]
theorem key_lr (a : Int) (b : Str) : decide ((Sum.inl a : Key) = Sum.inr b) = false := decide_eq_false (fun q => nomatch q)
theorem key_rl (a : Str) (b : Int) : decide ((Sum.inr a : Key) = Sum.inl b) = false := decide_eq_false (fun q => nomatch q)

noncomputable def mixKind (prog : Program) (w : World) : PySem.KeyKind prog w Key where
  is := keyIs
  hash := keyH w
  inj := fun v a b ha hb => by
    rcases keyIs_shape ha with ⟨i, t, rfl, rfl⟩ | ⟨x, t, rfl, rfl⟩
    · rcases keyIs_shape hb with ⟨j, u, rfl, e⟩ | ⟨y, u, rfl, e⟩
      · injection e with e1 _; rw [e1]
      · exact nomatch e
    · rcases keyIs_shape hb with ⟨j, u, rfl, e⟩ | ⟨y, u, rfl, e⟩
      · exact nomatch e
      · injection e with e1 _; rw [e1]
  byValue := fun k v h => by
    rcases keyIs_shape h with ⟨i, t, rfl, rfl⟩ | ⟨x, t, rfl, rfl⟩ <;> rfl
  pyHash := fun hv h => by
    rcases keyIs_shape hv with ⟨i, t, rfl, rfl⟩ | ⟨x, t, rfl, rfl⟩
    · exact wpAny_pyHash_int h
    · exact wpAny_pyHash_str h
  eqBool := fun hu hv h => by
    rcases keyIs_shape hu with ⟨i, t, rfl, rfl⟩ | ⟨x, t, rfl, rfl⟩
    · rcases keyIs_shape hv with ⟨j, u, rfl, rfl⟩ | ⟨y, u, rfl, rfl⟩
      · rw [key_ll] at h; exact wpAny_eqBool_int h
      · rw [key_lr] at h; exact SeqAt.EqAt.int_str i t y u _ _ _ _ h
    · rcases keyIs_shape hv with ⟨j, u, rfl, rfl⟩ | ⟨y, u, rfl, rfl⟩
      · rw [key_rl] at h; exact SeqAt.EqAt.str_int x t j u _ _ _ _ h
      · rw [key_rr] at h; exact wpAny_eqBool_str h
  «strs» := fun k x t v h => by
    rcases keyIs_shape h with ⟨i, u, rfl, e⟩ | ⟨y, u, rfl, e⟩
    · exact nomatch e
    · injection e with e1 _
      subst e1
      cases v <;> rfl

theorem mixKind_int (prog : Program) (w : World) (i : Int) (t : Tok) : (mixKind prog w).is (.inl i) (.int i t) = true := keyIs_int i t
theorem mixKind_str (prog : Program) (w : World) (x : Str) (t : Tok) : (mixKind prog w).is (.inr x) (.str x t) = true := keyIs_str x t
end L2

namespace L2
open PySem PySem.Spec PyProof.Rows

inductive V where
  | non | bl (b : Bool) | int (i : Int) | str (x : Str) | byt (b : Array UInt8) | flt (b : UInt64) | ref (a : Addr) | ty (n : String)
  deriving DecidableEq

noncomputable def RelV : V → Value → Prop
  | .non, u => u = Value.none
  | .bl b, u => u = Value.bool b
  | .int i, u => ∃ t, u = Value.int i t
  | .str x, u => ∃ t, u = Value.str x t
  | .byt b, u => ∃ t, u = Value.bytes b t
  | .flt b, u => ∃ t, u = Value.float b t
  | .ref a, u => u = Value.ref a
  | .ty n, u => u = Value.type n

noncomputable abbrev Vals : List V → List Value → Prop := Paired RelV
theorem Vals.length {xs : List V} {us : List Value} (r : Vals xs us) : xs.length = us.length := Paired.length r
theorem Vals.get : ∀ {xs : List V} {us : List Value} {i : Nat} {x : V}, Vals xs us → xs[i]? = some x → ∃ u, us[i]? = some u ∧ RelV x u
  | _, _, _, _, .nil, e => by simp at e
  | _, _, 0, _, .cons r _, e => by simp at e; subst e; exact ⟨_, rfl, r⟩
  | _, _, i + 1, x, .cons _ t, e => by
    obtain ⟨u, h1, h2⟩ := Vals.get (i := i) (x := x) t (by simpa using e)
    exact ⟨u, by simpa using h1, h2⟩
theorem Vals.set {x : V} {u : Value} (r : RelV x u) : ∀ {xs : List V} {us : List Value} (i : Nat), Vals xs us → Vals (xs.set i x) (us.set i u)
  | _, _, _, .nil => .nil
  | _, _, 0, .cons _ t => .cons r t
  | _, _, i + 1, .cons q t => .cons q (Vals.set r i t)
theorem Vals.append : ∀ {xs ys : List V} {us ws : List Value}, Vals xs us → Vals ys ws → Vals (xs ++ ys) (us ++ ws)
  | _, _, _, _, .nil, s => s
  | _, _, _, _, .cons r t, s => .cons r (Vals.append t s)
theorem Vals.take : ∀ {xs : List V} {us : List Value} (n : Nat), Vals xs us → Vals (xs.take n) (us.take n)
  | _, _, 0, _ => .nil
  | _, _, _ + 1, .nil => .nil
  | _, _, n + 1, .cons r t => .cons r (Vals.take n t)
theorem Vals.drop : ∀ {xs : List V} {us : List Value} (n : Nat), Vals xs us → Vals (xs.drop n) (us.drop n)
  | _, _, 0, r => r
  | _, _, _ + 1, .nil => .nil
  | _, _, n + 1, .cons _ t => Vals.drop n t

noncomputable def RelO : Option V → Option Value → Prop
  | some v, some u => RelV v u
  | none, none => True
  | _, _ => False
noncomputable def KV {κ : Type} : List (κ × V) → List (κ × Value) → Prop := Paired fun (p : κ × V) (q : κ × Value) => p.1 = q.1 ∧ RelV p.2 q.2

noncomputable def kV : Key → V
  | .inl i => .int i
  | .inr x => .str x

inductive HO where
  | lst (xs : List V)
  | tup (xs : List V)
  | dK (kvs : List (Key × V)) | dT (kvs : List (List Key × V))
  | set (S : Int → Bool) (n : Nat)
  | ins (C dx : Addr) (fs : List (Str × V))
  | own (x : Addr)
  | xd (fs : List (Str × V))
  | met (f x : Addr)
  | rng (lo hi : Int)
  | frz (o : Obj) (u : HO)
  | tbl (ps : Array Value)
  | ext (φ : Heap → Prop)

noncomputable abbrev Hp := Addr → Option HO
noncomputable def upd (H : Hp) (a : Addr) (o : HO) : Hp := fun b => if b = a then some o else H b
theorem upd_same {H : Hp} {a : Addr} {o : HO} : upd H a o a = some o := by unfold upd; rw [if_pos rfl]
theorem upd_ne {H : Hp} {a b : Addr} {o : HO} (h : b ≠ a) : upd H a o b = H b := by unfold upd; rw [if_neg h]
theorem ne_of {H : Hp} {a b : Addr} {o u : HO} (h : H a = some o) (h' : H b = some u) (d : o ≠ u) : a ≠ b := by
  intro e; subst e; rw [h] at h'; exact d (Option.some.inj h')
theorem ne_of_none {H : Hp} {a b : Addr} {o : HO} (h : H a = some o) (h' : H b = none) : a ≠ b := by
  intro e; subst e; rw [h] at h'; cases h'

section
variable (P : Program) (w : World)
noncomputable def ObjOk (H : Hp) (h : Heap) (a : Addr) : HO → Prop
  | .lst xs => xs.length ≤ sizeLine ∧ ∃ (its : List Value) (n : Nat), Vals xs its ∧ h.get? a = some { cls := .type "list", data := .seq its.toArray n }
  | .tup xs => xs.length ≤ sizeLine ∧ ∃ its : List Value, Vals xs its ∧ IsTup h a its.toArray
  | .dK kvs => kvs.length ≤ sizeLine ∧ (a == sysModules) = false ∧ ∃ vs, KV kvs vs ∧ h.DictOf (mixKind P w) a vs
  | .dT kvs => kvs.length ≤ sizeLine ∧ (a == sysModules) = false ∧ ∃ xs : List (List Key × Addr × Value),
      Paired (fun (p : List Key × V) (q : List Key × Addr × Value) => p.1 = q.1 ∧ H q.2.1 = some (.tup (p.1.map kV)) ∧ RelV p.2 q.2.2) kvs xs ∧
      ∃ o es ep, h.get? a = some o ∧ o.ExactDict ∧ o.data = .dict es ep ∧ es.toList = xs.map (entryOfKey (tupleKind (mixKind P w))) ∧ (xs.map (·.1)).Nodup
  | .set S n => h.SetOf (intKind P w) a S n
  | .ins C dx fs => H dx = some (.own a) ∧ fs.length ≤ 1000 ∧ dx ≠ a ∧ h.get? a = some (PySem.W.instObj C dx) ∧
      ∃ mA, h.Ns1 dx mA ∧ (∀ f, RelO (fs.lookup f) (mA f)) ∧ PySem.Within mA (fs.map (·.1))
  | .own _ => ∃ o, h.get? a = some o
  | .xd fs => ∃ mA, h.Ns1 a mA ∧ ∀ f, RelO (fs.lookup f) (mA f)
  | .rng lo hi => ∃ t u v, h.get? a = some { cls := .type "range", data := .fields #[.int lo t, .int hi u, .int 1 v] }
  | .frz o u => h.get? a = some o ∧ ObjOk H h a u
  | .tbl ps => h.get? a = some { cls := .none, data := .fields ps }
  | .met f x => h.get? a = some (PySem.W.methodObj (.ref f) (.ref x))
  | .ext φ => φ h ∧ (∃ o, h.get? a = some o) ∧ ∀ h1 h2 : Heap, φ h1 → (∀ o, h1.get? a = some o → h2.get? a = some o) → φ h2
noncomputable def HOk (H : Hp) (h : Heap) : Prop := ∀ a o, H a = some o → ObjOk P w H h a o
end

section
variable {P : Program} {w : World} {H H' : Hp} {h h' : Heap} {a : Addr} {o : HO}
theorem ObjOk.lt (x : ObjOk P w H h a o) : a < h.objs.size := by
  cases o with
  | lst xs => obtain ⟨_, _, _, _, e⟩ := x; exact Heap.lt_size e
  | tup xs => obtain ⟨_, _, _, p⟩ := x; exact p.lt
  | dK kvs => obtain ⟨_, _, _, _, o, _, _, e, _⟩ := x; exact Heap.lt_size e
  | dT kvs => obtain ⟨_, _, _, _, o, _, _, e, _⟩ := x; exact Heap.lt_size e
  | set S n => obtain ⟨o, _, _, _, e, _⟩ := x; exact Heap.lt_size e
  | ins C dx fs => obtain ⟨_, _, _, e, _⟩ := x; exact Heap.lt_size e
  | own y => obtain ⟨_, e⟩ := x; exact Heap.lt_size e
  | xd fs => obtain ⟨_, ⟨_, _, _, e, _⟩, _⟩ := x; exact Heap.lt_size e
  | rng lo hi => obtain ⟨_, _, _, e⟩ := x; exact Heap.lt_size e
  | frz ob u => obtain ⟨e, _⟩ := x; exact Heap.lt_size e
  | tbl ps => exact Heap.lt_size (show h.get? a = some _ from x)
  | met f y => exact Heap.lt_size (show h.get? a = some _ from x)
  | ext φ => obtain ⟨_, ⟨_, e⟩, _⟩ := x; exact Heap.lt_size e
theorem Paired.mapP {α β : Type} {F G : α → β → Prop} : ∀ {l₁ : List α} {l₂ : List β}, Paired F l₁ l₂ → (∀ a b, F a b → G a b) → Paired G l₁ l₂
  | _, _, .nil, _ => .nil
  | _, _, .cons r t, f => .cons (f _ _ r) (Paired.mapP t f)
theorem ObjOk.stay (x : ObjOk P w H h a o) (k : ∀ b u, (b = a ∨ H b = some (.own a)) → h.get? b = some u → h'.get? b = some u)
    (ho : ∀ b, H b = some (.own a) → H' b = some (.own a)) (ht : ∀ b xs, H b = some (.tup xs) → H' b = some (.tup xs)) : ObjOk P w H' h' a o := by
  induction o with
  | lst xs => obtain ⟨z, its, n, r, e⟩ := x; exact ⟨z, its, n, r, k _ _ (.inl rfl) e⟩
  | tup xs => obtain ⟨z, its, r, ob, e, c⟩ := x; exact ⟨z, its, r, ob, k _ _ (.inl rfl) e, c⟩
  | dK kvs => obtain ⟨z, y, vs, r, ob, es, ep, e, c⟩ := x; exact ⟨z, y, vs, r, ob, es, ep, k _ _ (.inl rfl) e, c⟩
  | dT kvs =>
    obtain ⟨z, y, xs, r, ob, es, ep, e, c⟩ := x
    exact ⟨z, y, xs, Paired.mapP r fun p q z => ⟨z.1, ht _ _ z.2.1, z.2.2⟩, ob, es, ep, k _ _ (.inl rfl) e, c⟩
  | set S n => obtain ⟨ob, es, ep, t, e, c⟩ := x; exact ⟨ob, es, ep, t, k _ _ (.inl rfl) e, c⟩
  | ins C dx fs =>
    obtain ⟨d, z, ne, e, mA, ⟨od, es, ep, e2, c⟩, r⟩ := x
    exact ⟨ho _ d, z, ne, k _ _ (.inl rfl) e, mA, ⟨od, es, ep, k _ _ (.inr d) e2, c⟩, r⟩
  | own y => obtain ⟨ob, e⟩ := x; exact ⟨ob, k _ _ (.inl rfl) e⟩
  | xd fs => obtain ⟨mA, ⟨od, es, ep, e, c⟩, r⟩ := x; exact ⟨mA, ⟨od, es, ep, k _ _ (.inl rfl) e, c⟩, r⟩
  | rng lo hi => obtain ⟨t, u, v, e⟩ := x; exact ⟨t, u, v, k _ _ (.inl rfl) e⟩
  | frz ob u ih => obtain ⟨e, q⟩ := x; exact ⟨k _ _ (.inl rfl) e, ih q⟩
  | tbl ps =>
    have e : h.get? a = some { cls := .none, data := .fields ps } := x
    show h'.get? a = some { cls := .none, data := .fields ps }
    exact k a _ (.inl rfl) e
  | met f y =>
    have e : h.get? a = some (PySem.W.methodObj (.ref f) (.ref y)) := x
    show h'.get? a = some (PySem.W.methodObj (.ref f) (.ref y))
    exact k a _ (.inl rfl) e
  | ext φ => obtain ⟨p, ⟨o, e⟩, st⟩ := x; exact ⟨st _ _ p fun o q => k _ _ (.inl rfl) q, ⟨o, k _ _ (.inl rfl) e⟩, st⟩
theorem HOk.lt (x : HOk P w H h) (e : H a = some o) : a < h.objs.size := (x a o e).lt
theorem HOk.fresh (x : HOk P w H h) (e : h.objs.size ≤ a) : H a = none := by
  cases q : H a with
  | none => rfl
  | some u => exact absurd (Nat.lt_of_lt_of_le (x.lt q) e) (Nat.lt_irrefl _)
theorem HOk.kept (x : HOk P w H h) (k : ∀ b u, h.get? b = some u → h'.get? b = some u) : HOk P w H h' := fun a o e =>
  (x a o e).stay (fun b u _ q => k b u q) (fun _ q => q) fun _ _ q => q
theorem HOk.laid (x : HOk P w H h) (k : ∀ b u, h.get? b = some u → h'.get? b = some u) (hp : h.objs.size ≤ a) (new : ObjOk P w (upd H a o) h' a o) : HOk P w (upd H a o) h' := fun b u e => by
  have hn := x.fresh hp
  by_cases hb : b = a
  · subst hb; rw [upd_same] at e; cases e; exact new
  · rw [upd_ne hb] at e
    exact (x b u e).stay (fun c v _ q => k c v q) (fun c q => by rw [upd_ne (ne_of_none q hn)]; exact q) fun c xs q => by rw [upd_ne (ne_of_none q hn)]; exact q
end

noncomputable def Rd (H : Hp) (a : Addr) (u : HO) : Prop := H a = some u ∨ ∃ o, H a = some (.frz o u)
theorem Rd.ok {P : Program} {w : World} {H : Hp} {h : Heap} {a : Addr} {u : HO} (r : Rd H a u) (x : HOk P w H h) : ObjOk P w H h a u := by
  rcases r with r | ⟨o, r⟩
  · exact x a u r
  · obtain ⟨_, q⟩ := x a _ r
    exact q
noncomputable def Mut : Option HO → Prop
  | some (.lst _) => True
  | some (.dK _) => True
  | some (.dT _) => True
  | some (.set _ _) => True
  | some (.ins _ _ _) => True
  | some (.ext _) => True
  | _ => False
section
variable {P : Program} {w : World} {H : Hp} {h h' : Heap} {x e : Addr} {o' : HO}
theorem HOk.write (ok : HOk P w H h) (mu : Mut (H x)) (he : e = x ∨ H e = some (.own x)) (k : ∀ b u, b ≠ e → h.get? b = some u → h'.get? b = some u) (heo : ∃ u, h'.get? e = some u)
    (new : ObjOk P w (upd H x o') h' x o') : HOk P w (upd H x o') h' := fun b u q => by
  have nown : ∀ c y, H c = some (.own y) → c ≠ x := fun c y r z => by subst z; rw [r] at mu; exact mu
  have ntup : ∀ c xs, H c = some (.tup xs) → c ≠ x := fun c xs r z => by subst z; rw [r] at mu; exact mu
  by_cases hb : b = x
  · subst hb; rw [upd_same] at q; cases q; exact new
  · rw [upd_ne hb] at q
    by_cases hbe : b = e
    · have q' : H b = some (.own x) := by
        rcases he with z | z
        · exact absurd (hbe.trans z) hb
        · rw [hbe]; exact z
      rw [q] at q'; cases q'
      obtain ⟨v, hv⟩ := heo
      exact ⟨v, by rw [hbe]; exact hv⟩
    · refine (ok b u q).stay (fun c v hc r => k c v ?_ r) (fun c r => by rw [upd_ne (nown c b r)]; exact r) fun c xs r => by rw [upd_ne (ntup c xs r)]; exact r
      rcases hc with rfl | hc
      · exact hbe
      · rintro rfl
        rcases he with z | z
        · exact nown c b hc z
        · rw [hc] at z; cases z; exact hb rfl
end

structure Un (fs ex : List Addr) (H H' : Hp) (h h' : Heap) : Prop where
  keep : ∀ b o, h.get? b = some o → H b = none → b ∉ fs → b ∉ ex → h'.get? b = some o
  slot : ∀ b o, h.get? b = some o → H b = none → b ∈ fs → b ∉ ex → ∃ sl, h'.get? b = some { o with slots := sl }
  free : ∀ b o, h.get? b = some o → H b = none → b ∉ ex → H' b = none
  there : ∀ b o, h.get? b = some o → b ∉ ex → ∃ o', h'.get? b = some o'
  tups : ∀ b xs, H b = some (.tup xs) → H' b = some (.tup xs)
  frzs : ∀ b o u, H b = some (.frz o u) → H' b = some (.frz o u)
  tbls : ∀ b ps, H b = some (.tbl ps) → ∃ more, H' b = some (.tbl (ps ++ more))
section
variable {fs fs' ex ex' : List Addr} {H H1 H2 : Hp} {h h1 h2 h' : Heap} {a x e : Addr} {o : HO}
theorem Un.any (u : Un fs ex H H1 h h1) {b : Addr} {ob : Obj} (q : h.get? b = some ob) (n : H b = none) (hx : b ∉ ex) : ∃ sl, h1.get? b = some { ob with slots := sl } := by
  by_cases hb : b ∈ fs
  · exact u.slot b ob q n hb hx
  · exact ⟨ob.slots, u.keep b ob q n hb hx⟩
theorem Un.kept (k : ∀ b u, h.get? b = some u → h'.get? b = some u) : Un fs ex H H h h' :=
  ⟨fun b ob q _ _ _ => k b ob q, fun b ob q _ _ _ => ⟨ob.slots, k b ob q⟩, fun _ _ _ n _ => n, fun b ob q _ => ⟨ob, k b ob q⟩, fun _ _ q => q, fun _ _ _ q => q, fun _ ps q => ⟨#[], by rw [q]; simp⟩⟩
theorem Un.refl : Un fs ex H H h h := Un.kept fun _ _ q => q
theorem Un.laid (k : ∀ b u, h.get? b = some u → h'.get? b = some u) (hp : h.objs.size ≤ a) (hn : H a = none) : Un fs ex H (upd H a o) h h' where
  keep := fun b u q _ _ _ => k b u q
  slot := fun b u q _ _ _ => ⟨u.slots, k b u q⟩
  free := fun b u q n _ => by rw [upd_ne (Nat.ne_of_lt (Nat.lt_of_lt_of_le (Heap.lt_size q) hp))]; exact n
  there := fun b u q _ => ⟨u, k b u q⟩
  tups := fun b xs q => by rw [upd_ne (ne_of_none q hn)]; exact q
  frzs := fun b u xs q => by rw [upd_ne (ne_of_none q hn)]; exact q
  tbls := fun b ps q => ⟨#[], by rw [upd_ne (ne_of_none q hn), q]; simp⟩
theorem Un.write (mu : Mut (H x)) (he : e = x ∨ H e = some (.own x)) (k : ∀ b u, b ≠ e → h.get? b = some u → h'.get? b = some u) (heo : ∃ u, h'.get? e = some u) : Un fs ex H (upd H x o) h h' := by
  have hx : ∀ b, H b = none → b ≠ x := fun b n z => by subst z; rw [n] at mu; exact mu
  have hb : ∀ b, H b = none → b ≠ e := fun b n z => by
    subst z
    rcases he with r | r
    · exact hx b n r
    · rw [n] at r; cases r
  have hm : ∀ b u, H b = some u → ¬ Mut (some u) → b ≠ x := fun b u q nm z => by subst z; rw [q] at mu; exact nm mu
  refine ⟨fun b u q n _ _ => k b u (hb b n) q, fun b u q n _ _ => ⟨u.slots, k b u (hb b n) q⟩, fun b u q n _ => by rw [upd_ne (hx b n)]; exact n, fun b u q _ => ?_,
    fun b xs q => by rw [upd_ne (hm b _ q fun z => z)]; exact q, fun b u xs q => by rw [upd_ne (hm b _ q fun z => z)]; exact q, fun b ps q => ⟨#[], by rw [upd_ne (hm b _ q fun z => z), q]; simp⟩⟩
  by_cases hbe : b = e
  · subst hbe; exact heo
  · exact ⟨u, k b u hbe q⟩
end

noncomputable def trk (h : Heap) (H : Hp) : List Addr := (List.range h.objs.size).filter fun a => (H a).isSome
noncomputable def hidT (h : Heap) (H : Hp) : Heap := PySem.W.hideAll h (trk h H)
theorem hidT_size (h : Heap) (H : Hp) : (hidT h H).objs.size = h.objs.size := PySem.W.hideAll_size _ _
theorem hidT_get {h : Heap} {H : Hp} {b : Addr} {o : Obj} (e : h.get? b = some o) (n : H b = none) : (hidT h H).get? b = some o :=
  PySem.W.hideAll_get _ e fun hm => by
    have q : (H b).isSome = true := (List.mem_filter.mp hm).2
    rw [n] at q; simp at q
theorem of_hidT {h : Heap} {H : Hp} {b : Addr} {o : Obj} (e : (hidT h H).get? b = some o) : h.get? b = some o ∧ H b = none := by
  have e' : h.get? b = some o := PySem.W.of_hideAll (trk h H) e
  refine ⟨e', ?_⟩
  cases q : H b with
  | none => rfl
  | some x =>
    have hm : b ∈ trk h H := List.mem_filter.mpr ⟨List.mem_range.mpr (Heap.lt_size e'), by simp [q]⟩
    have z : (hidT h H).get? b = none := PySem.W.hideAll_none (trk h H) hm
    rw [z] at e; cases e

noncomputable def allNews (g h : Heap) (L : Addr) : List (Addr × Obj) := (List.range h.objs.size).filterMap fun a => if a = L ∨ (g.get? a).isSome = true then none else (h.get? a).map fun o => (a, o)
theorem mem_allNews {g h : Heap} {L a : Addr} {o : Obj} (h1 : a ≠ L) (h2 : g.get? a = none) (h3 : h.get? a = some o) : (a, o) ∈ allNews g h L :=
  List.mem_filterMap.mpr ⟨a, List.mem_range.mpr (Heap.lt_size h3), by simp [h1, h2, h3]⟩
theorem of_mem_allNews {g h : Heap} {L : Addr} {p : Addr × Obj} (hp : p ∈ allNews g h L) : p.1 ≠ L ∧ g.get? p.1 = none ∧ h.get? p.1 = some p.2 := by
  obtain ⟨b, _, e⟩ := List.mem_filterMap.mp hp
  split at e
  · cases e
  · rename_i hn
    cases q : h.get? b with
    | none => rw [q] at e; simp at e
    | some u =>
      rw [q] at e
      simp only [Option.map_some, Option.some.injEq] at e
      subst e
      refine ⟨fun z => hn (.inl z), ?_, q⟩
      show g.get? b = none
      cases r : g.get? b with
      | none => rfl
      | some v => exact (hn (.inr (by simp [r]))).elim
theorem news_all {g h : Heap} {L : Addr} : News g L h (allNews g h L) := fun p hp => let ⟨a, b, c⟩ := of_mem_allNews hp; ⟨c, a, b⟩
end L2

namespace L2
open PySem PySem.Spec PyProof.Rows

structure Mod (K : PySem.W.Frag) (mg : Str → Option Value) (base : Heap) : Prop where
  kin : K.In base
  glob : base.Ns mainGlobals mg
  blt : ∃ mb, base.Ns builtinsNs mb ∧ ∀ x : Str, x ≠ "__name__" → mb x = bootBuiltins x
  nolimit : base.NoLimit

structure Cx where
  prog : Program
  w : World
  K : PySem.W.Frag
  mg : Str → Option Value
  base : Heap
  A : Around
  N : List Str
  s₀ : Shared
  H₀ : Hp
  env : Env
  outer : List Env
  stack : List Env
  ex : List Addr
  fn : Str → Bool
  calm : Bool
  pn : List (Addr × Obj)
  xe : Value → Shared → Prop
noncomputable def frs (l : List Env) : List Addr := l.filterMap (·.frame)
noncomputable abbrev Cx.fs (X : Cx) : List Addr := frs X.outer

noncomputable def Vis (sc : Scope) (x : Str) : Prop := sc.names.lookup x = some .local ∨ sc.names.lookup x = some .cell ∨ sc.names.lookup x = some .free
noncomputable def Loc (sc : Scope) (x : Str) : Prop := sc.names.lookup x = some .local ∨ sc.names.lookup x = some .cell
noncomputable def Look (env : Env) (h : Heap) (m : Str → Option Value) (x : Str) (u : Value) : Prop :=
  (env.kindOf x = some .local ∧ m x = some u) ∨ ((env.kindOf x = some .cell ∨ env.kindOf x = some .free) ∧ ∃ c, env.cells.lookup x = some c ∧ h.IsCell c (some u))

structure Cx.Ok (X : Cx) : Prop where
  mod : Mod X.K X.mg X.base
  kind : X.env.scope.kind = .function
  glob : X.env.globals = mainGlobals
  blt : X.env.builtins = builtinsNs
  above : X.s₀.heap.objs.size ≤ X.env.locals
  inj : ∀ x y c, X.env.cells.lookup x = some c → X.env.cells.lookup y = some c → x = y
  has : ∀ x, (X.env.kindOf x = some .cell ∨ X.env.kindOf x = some .free) → ∃ c, X.env.cells.lookup x = some c
  cab : ∀ x c, X.fn x = true → X.env.cells.lookup x = some c → X.s₀.heap.objs.size ≤ c
  hd : X.calm = true → X.A.handled = none
  frames : X.A.frames = some X.stack
  stk : X.stack = X.outer ∨ (X.stack = X.env :: X.outer ∧ X.env.frame = some X.env.locals)
  exf : ∀ b ∈ X.ex, b ≠ X.env.locals ∧ ∀ x c, X.env.cells.lookup x = some c → c ≠ b
  bs : ∀ b o, X.base.get? b = some o → X.s₀.heap.get? b = some o ∧ X.H₀ b = none
  bsz : X.base.objs.size ≤ X.s₀.heap.objs.size
  noex : ∀ b o, X.base.get? b = some o → b ∉ X.ex
  exfs : ∀ b ∈ X.ex, b ∉ X.fs
  funs : X.s₀.heap.FunFrames X.base X.outer
  frf : ∀ b ∈ X.fs, X.H₀ b = none

structure Inv (X : Cx) (pins : List (Addr × Obj)) (σ : List (Option V)) (H : Hp) (s : Shared) : Prop where
  ok : X.Ok
  os : s.os = X.s₀.os
  bare : AllBare s.gens
  base : Un X.fs X.ex X.H₀ H X.s₀.heap s.heap
  loc : ∃ m, s.heap.Ns X.env.locals m ∧ ∀ (i : Nat) (x : Str) (v : V), X.N[i]? = some x → σ[i]? = some (some v) → Vis X.env.scope x → ∃ u, RelV v u ∧ Look X.env s.heap m x u
  cell : ∀ x c, X.env.cells.lookup x = some c → ∃ v, s.heap.IsCell c v
  free : H X.env.locals = none
  freeC : ∀ x c, X.env.cells.lookup x = some c → H c = none
  pin : ∀ p ∈ X.pn ++ pins, s.heap.get? p.1 = some p.2 ∧ H p.1 = none ∧ p.1 ≠ X.env.locals ∧ p.1 ∉ X.fs ∧ ∀ v, p.2.data ≠ .cell v
  hok : HOk X.prog X.w H s.heap
  len : σ.length = X.N.length

section
variable {X : Cx} {pins : List (Addr × Obj)} {σ : List (Option V)} {H H' : Hp} {s : Shared} {h' : Heap}

theorem Cx.Ok.nofr (ok : X.Ok) {b : Addr} {o : Obj} (e : X.base.get? b = some o) : b ∉ X.fs := fun hb => by
  have := (ok.funs.mem hb).1
  rw [e] at this; cases this
theorem Inv.bs (I : Inv X pins σ H s) : ∀ b o, X.base.get? b = some o → s.heap.get? b = some o ∧ H b = none := fun b o e =>
  ⟨I.base.keep b o (I.ok.bs b o e).1 (I.ok.bs b o e).2 (I.ok.nofr e) (I.ok.noex b o e), I.base.free b o (I.ok.bs b o e).1 (I.ok.bs b o e).2 (I.ok.noex b o e)⟩
theorem Inv.bk (I : Inv X pins σ H s) : ∀ b o, X.base.get? b = some o → s.heap.get? b = some o := fun b o e => (I.bs b o e).1
theorem Inv.mod (I : Inv X pins σ H s) : Mod X.K X.mg X.base := I.ok.mod
theorem Inv.kIn (I : Inv X pins σ H s) : X.K.In s.heap := I.ok.mod.kin.keeps I.bk
theorem Inv.fr (I : Inv X pins σ H s) : ∃ m, Fr X.base X.env.locals s.heap m :=
  let ⟨m, hn, _⟩ := I.loc
  ⟨m, hn, I.bk, Nat.le_trans I.ok.bsz I.ok.above⟩
theorem Inv.lt (I : Inv X pins σ H s) : X.env.locals < s.heap.objs.size := let ⟨_, hn, _⟩ := I.loc; hn.lt
theorem Inv.sz (I : Inv X pins σ H s) : X.s₀.heap.objs.size ≤ s.heap.objs.size := Nat.le_trans I.ok.above (Nat.le_of_lt I.lt)
theorem Inv.nofs (I : Inv X pins σ H s) {a : Addr} (h : s.heap.objs.size ≤ a) : a ∉ X.fs := fun hb => by
  obtain ⟨_, o, ho, _⟩ := I.ok.funs.mem hb
  exact absurd (Nat.lt_of_lt_of_le (Heap.lt_size ho) (Nat.le_trans I.sz h)) (Nat.lt_irrefl _)
theorem Inv.cne (I : Inv X pins σ H s) : ∀ x c, X.env.cells.lookup x = some c → c ≠ X.env.locals := fun x c e z => by
  obtain ⟨v, o, ho, hd⟩ := I.cell x c e
  obtain ⟨m, ⟨o', es, ep, ho', hd', _⟩, _⟩ := I.loc
  rw [z, ho'] at ho; cases ho; rw [hd'] at hd; cases hd
theorem Inv.funs (I : Inv X pins σ H s) : s.heap.FunFrames X.base X.outer := by
  have all : ∀ (l : List Env), (∀ b ∈ frs l, b ∈ X.fs) → X.s₀.heap.FunFrames X.base l → s.heap.FunFrames X.base l := by
    intro l
    induction l with
    | nil => intro _ _; trivial
    | cons env r ih =>
      intro hs hl
      obtain ⟨hk, ⟨L, o, hf, hn, ho, hd⟩, hr⟩ := hl
      have hL : L ∈ X.fs := hs L (by unfold frs; rw [List.filterMap_cons, hf]; exact List.mem_cons_self)
      obtain ⟨sl, e⟩ := I.base.slot L o ho (I.ok.frf L hL) hL fun z => I.ok.exfs L z hL
      exact ⟨hk, ⟨L, _, hf, hn, e, hd⟩, ih (fun b hb => hs b (by unfold frs; rw [List.filterMap_cons, hf]; exact List.mem_cons_of_mem _ hb)) hr⟩
  exact all X.outer (fun _ hb => hb) I.ok.funs

theorem Inv.stack (I : Inv X pins σ H s) : s.heap.FunFrames X.base X.stack := by
  rcases I.ok.stk with e | ⟨e, hf⟩
  · rw [e]; exact I.funs
  · rw [e]
    obtain ⟨m, hn, _⟩ := I.loc
    refine .cons (by rw [I.ok.kind]; decide) hf hn ?_ I.funs
    exact Heap.get?_none_of_le (Nat.le_trans I.ok.bsz I.ok.above)
theorem Inv.stkSub (I : Inv X pins σ H s) : ∀ b ∈ frs X.stack, b ∈ X.env.locals :: X.fs := fun b hb => by
  rcases I.ok.stk with e | ⟨e, hf⟩
  · rw [e] at hb; exact List.mem_cons_of_mem _ hb
  · rw [e] at hb
    unfold frs at hb
    rw [List.filterMap_cons, hf] at hb
    exact hb
theorem Inv.stkFree (I : Inv X pins σ H s) : ∀ b ∈ frs X.stack, H b = none := fun b hb => by
  rcases List.mem_cons.mp (I.stkSub b hb) with e | hb
  · rw [e]; exact I.free
  · obtain ⟨_, o, ho, _⟩ := I.ok.funs.mem hb
    exact I.base.free b o ho (I.ok.frf b hb) fun z => I.ok.exfs b z hb

theorem Inv.step {g' : Array GenState} {t' : Nat} {d' : Drawn} {ch : List Addr} (I : Inv X pins σ H s)
    (hch : ∀ b ∈ ch, (b ∈ X.ex ∨ X.s₀.heap.objs.size ≤ b) ∧ b ≠ X.env.locals ∧ (∀ x c, X.env.cells.lookup x = some c → c ≠ b) ∧ ∀ p ∈ X.pn ++ pins, p.1 ≠ b)
    (keep : ∀ b o, b ≠ X.env.locals → b ∉ X.fs → b ∉ ch → s.heap.get? b = some o → H b = none → h'.get? b = some o)
    (slot : ∀ b o, b ≠ X.env.locals → b ∈ X.fs → b ∉ ch → s.heap.get? b = some o → H b = none → ∃ sl, h'.get? b = some { o with slots := sl }) (free : ∀ b o, b ∉ ch → s.heap.get? b = some o → H b = none → H' b = none)
    (there : ∀ b o, b ∉ ch → s.heap.get? b = some o → ∃ o', h'.get? b = some o')
    (tups : ∀ b xs, H b = some (.tup xs) → H' b = some (.tup xs)) (frzs : ∀ b o u, H b = some (.frz o u) → H' b = some (.frz o u)) (tbls : ∀ b ps, H b = some (.tbl ps) → ∃ more, H' b = some (.tbl (ps ++ more)))
    (ns : ∀ m, s.heap.Ns X.env.locals m → h'.Ns X.env.locals m) (hok : HOk X.prog X.w H' h') (hg : AllBare g') :
    Inv X pins σ H' { s with heap := h', gens := g', drawn := d', toks := t' } := by
  have neL : ∀ b o, X.s₀.heap.get? b = some o → b ≠ X.env.locals := fun b o e => Nat.ne_of_lt (Nat.lt_of_lt_of_le (Heap.lt_size e) I.ok.above)
  have neC : ∀ b o, X.s₀.heap.get? b = some o → b ∉ X.ex → b ∉ ch := fun b o e hx hb => by
    rcases (hch b hb).1 with z | z
    · exact hx z
    · exact absurd (Nat.lt_of_lt_of_le (Heap.lt_size e) z) (Nat.lt_irrefl _)
  have cellK : ∀ x c, X.env.cells.lookup x = some c → ∀ v, s.heap.IsCell c v → h'.IsCell c v := fun x c e v ⟨o, ho, hd⟩ => by
    have nch : c ∉ ch := fun z => (hch c z).2.2.1 x c e rfl
    by_cases hc : c ∈ X.fs
    · obtain ⟨sl, q⟩ := slot c o (I.cne x c e) hc nch ho (I.freeC x c e)
      exact ⟨_, q, hd⟩
    · exact ⟨o, keep c o (I.cne x c e) hc nch ho (I.freeC x c e), hd⟩
  refine ⟨I.ok, I.os, hg, ⟨fun b o e n hb hx => ?_, fun b o e n hb hx => ?_, fun b o e n hx => ?_, fun b o e hx => ?_, fun b xs e => tups b xs (I.base.tups b xs e), fun b o xs e => frzs b o xs (I.base.frzs b o xs e), fun b ps e => ?_⟩, ?_, fun x c e => ?_, ?_, fun x c e => ?_, fun p hp => ?_, hok, I.len⟩
  · exact keep b o (neL b o e) hb (neC b o e hx) (I.base.keep b o e n hb hx) (I.base.free b o e n hx)
  · obtain ⟨sl, e1⟩ := I.base.slot b o e n hb hx
    obtain ⟨sl', e2⟩ := slot b _ (neL b o e) hb (neC b o e hx) e1 (I.base.free b o e n hx)
    exact ⟨sl', e2⟩
  · obtain ⟨o', e1⟩ := I.base.there b o e hx
    exact free b o' (neC b o e hx) e1 (I.base.free b o e n hx)
  · obtain ⟨o', e1⟩ := I.base.there b o e hx
    exact there b o' (neC b o e hx) e1
  · obtain ⟨m1, e1⟩ := I.base.tbls b ps e
    obtain ⟨m2, e2⟩ := tbls b _ e1
    exact ⟨m1 ++ m2, by rw [e2, Array.append_assoc]⟩
  · obtain ⟨m, hn, hl⟩ := I.loc
    refine ⟨m, ns m hn, fun i x v e1 e2 e3 => ?_⟩
    obtain ⟨u, r, l⟩ := hl i x v e1 e2 e3
    refine ⟨u, r, ?_⟩
    rcases l with l | ⟨k, c, e, z⟩
    · exact .inl l
    · exact .inr ⟨k, c, e, cellK x c e _ z⟩
  · obtain ⟨v, z⟩ := I.cell x c e
    exact ⟨v, cellK x c e v z⟩
  · obtain ⟨m, ⟨o, _, _, ho, _⟩, _⟩ := I.loc
    exact free _ o (fun z => (hch _ z).2.1 rfl) ho I.free
  · obtain ⟨v, o, ho, hd⟩ := I.cell x c e
    exact free c o (fun z => (hch c z).2.2.1 x c e rfl) ho (I.freeC x c e)
  · obtain ⟨e, n, ne, nf, d⟩ := I.pin p hp
    have nch : p.1 ∉ ch := fun z => (hch p.1 z).2.2.2 p hp rfl
    exact ⟨keep p.1 p.2 ne nf nch e n, free p.1 p.2 nch e n, ne, nf, d⟩
theorem Inv.un {t' : Nat} (I : Inv X pins σ H s) (u : Un X.fs [] H H' s.heap h') (hok : HOk X.prog X.w H' h') : Inv X pins σ H' { s with heap := h', toks := t' } := by
  obtain ⟨m, ⟨o, es, ep, ho, r⟩, _⟩ := id I.loc
  obtain ⟨sl, hL⟩ := u.any ho I.free (by simp)
  exact I.step (g' := s.gens) (d' := s.drawn) (ch := []) (fun _ z => nomatch z) (fun b o _ hb _ e n => u.keep b o e n hb (by simp)) (fun b o _ hb _ e n => u.slot b o e n hb (by simp)) (fun b o _ e n => u.free b o e n (by simp)) (fun b o _ e => u.there b o e (by simp)) u.tups u.frzs u.tbls (fun m' hm => by
    obtain ⟨o', es', ep', ho', r'⟩ := hm
    rw [ho] at ho'; cases ho'
    exact ⟨_, es', ep', hL, r'⟩) hok I.bare
theorem Inv.call {g' : Array GenState} {t' : Nat} {d' : Drawn} {ch : List Addr} (I : Inv X pins σ H s) (u : Un (frs X.stack) ch H H' s.heap h') (hok : HOk X.prog X.w H' h') (hg : AllBare g')
    (hch : ∀ b ∈ ch, (b ∈ X.ex ∨ X.s₀.heap.objs.size ≤ b) ∧ b ≠ X.env.locals ∧ (∀ x c, X.env.cells.lookup x = some c → c ≠ b) ∧ ∀ p ∈ X.pn ++ pins, p.1 ≠ b) :
    Inv X pins σ H' { s with heap := h', gens := g', drawn := d', toks := t' } := by
  obtain ⟨m, ⟨o, es, ep, ho, r⟩, _⟩ := id I.loc
  obtain ⟨sl, hL⟩ := u.any ho I.free fun z => (hch _ z).2.1 rfl
  exact I.step (ch := ch) hch (fun b o hL hb hc e n => u.keep b o e n (fun z => (List.mem_cons.mp (I.stkSub b z)).elim hL hb) hc) (fun b o _ _ hc e n => u.any e n hc) (fun b o hc e n => u.free b o e n hc) (fun b o hc e => u.there b o e hc) u.tups u.frzs u.tbls (fun m' hm => by
    obtain ⟨o', es', ep', ho', r'⟩ := hm
    rw [ho] at ho'; cases ho'
    exact ⟨_, es', ep', hL, r'⟩) hok hg
theorem Inv.turned {t' : Nat} {it : Addr} (I : Inv X pins σ H s) (k : ∀ b o, b ≠ it → s.heap.get? b = some o → h'.get? b = some o) (hn : H it = none) (hL : it ≠ X.env.locals)
    (h1 : it ∈ X.ex ∨ X.s₀.heap.objs.size ≤ it) (h2 : ∀ x c, X.env.cells.lookup x = some c → c ≠ it) (h3 : ∀ p ∈ X.pn ++ pins, p.1 ≠ it) : Inv X pins σ H { s with heap := h', toks := t' } := by
  have nit : ∀ b u, H b = some u → b ≠ it := fun b u e z => by rw [z, hn] at e; cases e
  refine I.step (g' := s.gens) (d' := s.drawn) (ch := [it]) (fun b hb => ?_) (fun b o _ _ hc e _ => k b o (fun z => hc (by simp [z])) e) (fun b o _ _ hc e _ => ⟨o.slots, k b o (fun z => hc (by simp [z])) e⟩) (fun _ _ _ _ n => n)
    (fun b o hc e => ⟨o, k b o (fun z => hc (by simp [z])) e⟩) (fun _ _ e => e) (fun _ _ _ e => e) (fun b ps e => ⟨#[], by rw [e]; simp⟩) (fun m hm => ?_) (fun b u e => ?_) I.bare
  · have e : b = it := by simpa using hb
    subst e
    exact ⟨h1, hL, h2, h3⟩
  · obtain ⟨o, es, ep, ho, r⟩ := hm
    exact ⟨o, es, ep, k _ o (Ne.symm hL) ho, r⟩
  · refine (I.hok b u e).stay (fun c v hc q => k c v ?_ q) (fun _ q => q) fun _ _ q => q
    rcases hc with z | z
    · rw [z]; exact nit b u e
    · exact nit c _ z
theorem Inv.tok (I : Inv X pins σ H s) (t : Nat) : Inv X pins σ H { s with toks := t } := I.un (h' := s.heap) (t' := t) Un.refl I.hok
theorem Inv.kept {t' : Nat} (I : Inv X pins σ H s) (k : ∀ b u, s.heap.get? b = some u → h'.get? b = some u) : Inv X pins σ H { s with heap := h', toks := t' } := I.un (Un.kept k) (I.hok.kept k)
theorem Inv.laid {a : Addr} {o : HO} {t' : Nat} (I : Inv X pins σ H s) (k : ∀ b u, s.heap.get? b = some u → h'.get? b = some u) (hp : s.heap.objs.size ≤ a) (new : ObjOk X.prog X.w (upd H a o) h' a o) :
    Inv X pins σ (upd H a o) { s with heap := h', toks := t' } := I.un (Un.laid k hp (I.hok.fresh hp)) (I.hok.laid k hp new)
theorem Inv.write {x e : Addr} {o : HO} {t' : Nat} (I : Inv X pins σ H s) (mu : Mut (H x)) (he : e = x ∨ H e = some (.own x)) (k : ∀ b u, b ≠ e → s.heap.get? b = some u → h'.get? b = some u) (heo : ∃ u, h'.get? e = some u)
    (new : ObjOk X.prog X.w (upd H x o) h' x o) : Inv X pins σ (upd H x o) { s with heap := h', toks := t' } := I.un (Un.write mu he k heo) (I.hok.write mu he k heo new)
theorem Inv.weak {σ' : List (Option V)} (I : Inv X pins σ H s) (hl : σ'.length = σ.length) (w : ∀ (i : Nat) v, σ'[i]? = some (some v) → σ[i]? = some (some v)) : Inv X pins σ' H s :=
  ⟨I.ok, I.os, I.bare, I.base, let ⟨m, hn, hl'⟩ := I.loc; ⟨m, hn, fun i x v e1 e2 e3 => hl' i x v e1 (w i v e2) e3⟩, I.cell, I.free, I.freeC, I.pin, I.hok, hl.trans I.len⟩
theorem Inv.pins_of {pins' : List (Addr × Obj)} (I : Inv X pins σ H s) (h : ∀ p ∈ pins', s.heap.get? p.1 = some p.2 ∧ H p.1 = none ∧ p.1 ≠ X.env.locals ∧ p.1 ∉ X.fs ∧ ∀ v, p.2.data ≠ .cell v) : Inv X pins' σ H s :=
  ⟨I.ok, I.os, I.bare, I.base, I.loc, I.cell, I.free, I.freeC, fun p hp => (List.mem_append.mp hp).elim (fun z => I.pin p (List.mem_append_left _ z)) (h p), I.hok, I.len⟩

theorem nodup_ix {N : List Str} (hN : N.Nodup) {i j : Nat} {x : Str} (a : N[i]? = some x) (b : N[j]? = some x) : i = j := by
  obtain ⟨h1, e1⟩ := List.getElem?_eq_some_iff.mp a
  obtain ⟨h2, e2⟩ := List.getElem?_eq_some_iff.mp b
  exact (List.getElem_inj hN).mp (e1.trans e2.symm)

theorem store_ok2 {M : Model} {A : Around} {E : Value → Shared → Prop} {i : Nat} {x : Str} {v : V} {u : Value} {Q : Unit → Shared → Prop} (I : Inv X pins σ H s) (hN : X.N.Nodup) (hi : X.N[i]? = some x) (hx : Loc X.env.scope x) (r : RelV v u)
    (h : ∀ s', Inv X pins (σ.set i (some v)) H s' → (∃ a, Heap.SameBut a s.heap s'.heap ∧ (a = X.env.locals ∨ X.env.cells.lookup x = some a)) → Q () s') (hf : X.fn x = true ∨ X.env.scope.names.lookup x = some .local := by first | exact .inl rfl | exact .inr rfl | assumption) : wpAny M A (storeName X.env x u) Q E s := by
  obtain ⟨m, hn, hl⟩ := id I.loc
  have hcls : (X.env.scope.kind == .class || (X.env.scope.kind == .module && X.env.locals != X.env.globals)) = false := by rw [I.ok.kind]; rfl
  have hiσ : i < σ.length := by rw [I.len]; exact (List.getElem?_eq_some_iff.mp hi).1
  have cne := I.cne
  have tracked : ∀ {a : Addr} {h' : Heap}, (∃ o, s.heap.get? a = some o ∧ H a = none) → Heap.SameBut a s.heap h' → HOk X.prog X.w H h' := fun {a h'} ha hs b ob e => by
    obtain ⟨_, _, hfree⟩ := ha
    refine (I.hok b ob e).stay (fun c w' hc q => (hs.2 c ?_).trans q) (fun _ q => q) fun _ _ q => q
    rintro rfl
    rcases hc with rfl | hc
    · rw [hfree] at e; cases e
    · rw [hfree] at hc; cases hc
  rcases hx with hk | hk
  · refine wpAny_storeName_local hk hn (fun h' hn' hs => ?_) hcls
    obtain ⟨oL, _, _, hoL, _⟩ := id hn
    refine h _ ⟨I.ok, I.os, I.bare, ⟨fun b o e n hb hx => ?_, fun b o e n hb hx => ?_, I.base.free, fun b o e hx => ?_, I.base.tups, I.base.frzs, I.base.tbls⟩, ⟨_, hn', fun j y v' e1 e2 e3 => ?_⟩, fun y c e => ?_, I.free, I.freeC, fun p hp => ?_, tracked ⟨oL, hoL, I.free⟩ hs, by simpa using I.len⟩ ⟨_, hs, .inl rfl⟩
    · exact (hs.2 b (Nat.ne_of_lt (Nat.lt_of_lt_of_le (Heap.lt_size e) I.ok.above))).trans (I.base.keep b o e n hb hx)
    · obtain ⟨sl, e1⟩ := I.base.slot b o e n hb hx
      exact ⟨sl, (hs.2 b (Nat.ne_of_lt (Nat.lt_of_lt_of_le (Heap.lt_size e) I.ok.above))).trans e1⟩
    · obtain ⟨o', e1⟩ := I.base.there b o e hx
      exact ⟨o', (hs.2 b (Nat.ne_of_lt (Nat.lt_of_lt_of_le (Heap.lt_size e) I.ok.above))).trans e1⟩
    · by_cases hj : j = i
      · subst hj
        rw [hi] at e1; cases e1
        rw [List.getElem?_set_self hiσ] at e2
        cases e2
        exact ⟨u, r, .inl ⟨hk, by simp⟩⟩
      · rw [List.getElem?_set_ne (Ne.symm hj)] at e2
        obtain ⟨u', r', q⟩ := hl j y v' e1 e2 e3
        refine ⟨u', r', ?_⟩
        rcases q with ⟨k, e⟩ | ⟨k, c, e, z⟩
        · refine .inl ⟨k, ?_⟩
          have : y ≠ x := fun e => hj (nodup_ix hN e1 (e ▸ hi))
          simp [this, e]
        · exact .inr ⟨k, c, e, z.sameBut hs (cne y c e)⟩
    · obtain ⟨w', z⟩ := I.cell y c e
      exact ⟨w', z.sameBut hs (cne y c e)⟩
    · obtain ⟨e, n, ne, nf, d⟩ := I.pin p hp
      exact ⟨(hs.2 p.1 ne).trans e, n, ne, nf, d⟩
  · have hfn : X.fn x = true := by
      rcases hf with z | z
      · exact z
      · rw [z] at hk; cases hk
    obtain ⟨c, hc⟩ := I.ok.has x (.inl hk)
    obtain ⟨w', z⟩ := I.cell x c hc
    refine wpAny_storeName_cell I.ok.kind hk hc z (fun h' hc' hs => ?_)
    obtain ⟨oc, hoc, hocd⟩ := id z
    refine h { s with heap := h' } ⟨I.ok, I.os, I.bare, ⟨fun b o e n hb hx => ?_, fun b o e n hb hx => ?_, I.base.free, fun b o e hx => ?_, I.base.tups, I.base.frzs, I.base.tbls⟩, ⟨m, hn.sameBut hs (Ne.symm (cne x c hc)), fun j y v' e1 e2 e3 => ?_⟩, fun y c' e => ?_, I.free, I.freeC, fun p hp => ?_, tracked ⟨oc, hoc, I.freeC x c hc⟩ hs, by simpa using I.len⟩ ⟨c, hs, .inr hc⟩
    · exact (hs.2 b (Nat.ne_of_lt (Nat.lt_of_lt_of_le (Heap.lt_size e) (I.ok.cab x c hfn hc)))).trans (I.base.keep b o e n hb hx)
    · obtain ⟨sl, e1⟩ := I.base.slot b o e n hb hx
      exact ⟨sl, (hs.2 b (Nat.ne_of_lt (Nat.lt_of_lt_of_le (Heap.lt_size e) (I.ok.cab x c hfn hc)))).trans e1⟩
    · obtain ⟨o', e1⟩ := I.base.there b o e hx
      exact ⟨o', (hs.2 b (Nat.ne_of_lt (Nat.lt_of_lt_of_le (Heap.lt_size e) (I.ok.cab x c hfn hc)))).trans e1⟩
    · by_cases hj : j = i
      · subst hj
        rw [hi] at e1; cases e1
        rw [List.getElem?_set_self hiσ] at e2
        cases e2
        exact ⟨u, r, .inr ⟨.inl hk, c, hc, hc'⟩⟩
      · rw [List.getElem?_set_ne (Ne.symm hj)] at e2
        obtain ⟨u', r', q⟩ := hl j y v' e1 e2 e3
        refine ⟨u', r', ?_⟩
        rcases q with q | ⟨k, c', e, z'⟩
        · exact .inl q
        · refine .inr ⟨k, c', e, z'.sameBut hs ?_⟩
          rintro rfl
          exact hj (nodup_ix hN e1 (I.ok.inj _ _ _ e hc ▸ hi))
    · by_cases hcc : c' = c
      · subst hcc; exact ⟨_, hc'⟩
      · obtain ⟨w2, z2⟩ := I.cell y c' e
        exact ⟨w2, z2.sameBut hs hcc⟩
    · obtain ⟨e, n, ne, nf, d⟩ := I.pin p hp
      refine ⟨(hs.2 p.1 ?_).trans e, n, ne, nf, d⟩
      intro q
      rw [q, hoc] at e
      have q' : oc = p.2 := Option.some.inj e
      exact d w' (by rw [← q']; exact hocd)
theorem store_ok {M : Model} {A : Around} {E : Value → Shared → Prop} {i : Nat} {x : Str} {v : V} {u : Value} {Q : Unit → Shared → Prop} (I : Inv X pins σ H s) (hN : X.N.Nodup) (hi : X.N[i]? = some x) (hx : Loc X.env.scope x) (r : RelV v u)
    (h : ∀ s', Inv X pins (σ.set i (some v)) H s' → Q () s') (hf : X.fn x = true ∨ X.env.scope.names.lookup x = some .local := by first | exact .inl rfl | exact .inr rfl | assumption) : wpAny M A (storeName X.env x u) Q E s :=
  store_ok2 I hN hi hx r (fun s' I' _ => h s' I') hf
theorem Inv.call' {s' : Shared} {ch : List Addr} (I : Inv X pins σ H s) (ho : s'.os = s.os) (u : Un (frs X.stack) ch H H' s.heap s'.heap) (hok : HOk X.prog X.w H' s'.heap) (hg : AllBare s'.gens)
    (hch : ∀ b ∈ ch, (b ∈ X.ex ∨ X.s₀.heap.objs.size ≤ b) ∧ b ≠ X.env.locals ∧ (∀ x c, X.env.cells.lookup x = some c → c ≠ b) ∧ ∀ p ∈ X.pn ++ pins, p.1 ≠ b) : Inv X pins σ H' s' := by
  obtain ⟨h', g', d', t', o'⟩ := s'
  have e : o' = s.os := ho
  subst e
  exact I.call (g' := g') (t' := t') (d' := d') u hok hg hch
end

noncomputable abbrev XK := Value → Option Addr → Hp → Prop
noncomputable abbrev St := List (Option V)
noncomputable abbrev VK := V → Hp → Prop
noncomputable abbrev TE := St → Hp → VK → Prop
noncomputable abbrev TT := St → Hp → (Bool → Hp → Prop) → Prop
noncomputable abbrev TA := St → Hp → (List V → Hp → Prop) → Prop
structure Ends where
  nx : St → Hp → Prop
  rt : VK
  bk : St → Hp → Prop := fun _ _ => False
  ct : St → Hp → Prop := fun _ _ => False
noncomputable abbrev TS := Ends → St → Hp → Prop

noncomputable def EP (X : Cx) (pins : List (Addr × Obj)) (σ : St) (Q : VK) (u : Value) (s' : Shared) : Prop := ∃ v H', Inv X pins σ H' s' ∧ RelV v u ∧ Q v H'
noncomputable def TP (X : Cx) (pins : List (Addr × Obj)) (σ : St) (Q : Bool → Hp → Prop) (b : Bool) (s' : Shared) : Prop := ∃ H', Inv X pins σ H' s' ∧ Q b H'
noncomputable def AP (X : Cx) (pins : List (Addr × Obj)) (σ : St) (Q : List V → Hp → Prop) (us : List Value) (s' : Shared) : Prop := ∃ vs H', Inv X pins σ H' s' ∧ Vals vs us ∧ Q vs H'
noncomputable def SP (X : Cx) (pins : List (Addr × Obj)) (D : Ends) (f : Flow) (s' : Shared) : Prop :=
  match f with
  | .next => ∃ σ' H', Inv X pins σ' H' s' ∧ D.nx σ' H'
  | .brk => ∃ σ' H', Inv X pins σ' H' s' ∧ D.bk σ' H'
  | .cont => ∃ σ' H', Inv X pins σ' H' s' ∧ D.ct σ' H'
  | .ret u => ∃ v σ' H', Inv X pins σ' H' s' ∧ RelV v u ∧ D.rt v H'

noncomputable def PE (X : Cx) (e : Expr) (t : TE) : Prop :=
  ∀ (pins : List (Addr × Obj)) (s : Shared) (σ : St) (H : Hp) (Q : VK), Inv X pins σ H s → t σ H Q → wpAny (model X.prog X.w) X.A (eval e X.env) (EP X pins σ Q) X.xe s
noncomputable def PT (X : Cx) (e : Expr) (t : TT) : Prop :=
  ∀ (pins : List (Addr × Obj)) (s : Shared) (σ : St) (H : Hp) (Q : Bool → Hp → Prop), Inv X pins σ H s → t σ H Q → wpAny (model X.prog X.w) X.A (isTrue e X.env (eval e X.env)) (TP X pins σ Q) X.xe s
noncomputable def PW (X : Cx) (e : Expr) (t : TT) : Prop :=
  ∀ (whole : Sem Value) (pins : List (Addr × Obj)) (s : Shared) (σ : St) (H : Hp) (Q : Bool → Hp → Prop), Inv X pins σ H s → t σ H Q → wpAny (model X.prog X.w) X.A (isTrue e X.env whole) (TP X pins σ Q) X.xe s
theorem PW.pt {X : Cx} {e : Expr} {t : TT} (h : PW X e t) : PT X e t := h _
noncomputable def PA (X : Cx) (es : List Expr) (t : TA) : Prop :=
  ∀ (pos : Pos) (pins : List (Addr × Obj)) (s : Shared) (σ : St) (H : Hp) (Q : List V → Hp → Prop), Inv X pins σ H s → t σ H Q → wpAny (model X.prog X.w) X.A (spliced (backTo pos (starEach es X.env))) (AP X pins σ Q) X.xe s
noncomputable def PS (X : Cx) (st : Stmt) (t : TS) : Prop :=
  ∀ (pins : List (Addr × Obj)) (s : Shared) (σ : St) (H : Hp) (D : Ends), Inv X pins σ H s → t D σ H → wpAny (model X.prog X.w) X.A (exec st X.env) (SP X pins D) X.xe s
noncomputable def PSs (X : Cx) (st : List Stmt) (t : TS) : Prop :=
  ∀ (pins : List (Addr × Obj)) (s : Shared) (σ : St) (H : Hp) (D : Ends), Inv X pins σ H s → t D σ H → wpAny (model X.prog X.w) X.A (execs st X.env) (SP X pins D) X.xe s
theorem thn {α : Type} {t : Sem α} {Q Q' : α → Shared → Prop} {M : Model} {A : Around} {E : Value → Shared → Prop} {s : Shared} (h : wpAny M A t Q E s) (hQ : ∀ a s, Q a s → Q' a s) : wpAny M A t Q' E s := wpAny_mono h hQ fun _ _ x => x
end L2

namespace L2
open PySem PySem.Spec PyProof.Rows
section
variable {X : Cx}

theorem bin {a b : Expr} {ta tb : TE} (ha : PE X a ta) (hb : PE X b tb) {pins : List (Addr × Obj)} {s : Shared} {σ : St} {H : Hp} {R : V → V → Hp → Prop} (I : Inv X pins σ H s) (h : ta σ H fun x H1 => tb σ H1 fun y H2 => R x y H2)
    {α : Type} {Q : α → Shared → Prop} {f : Value → Value → Sem α}
    (hf : ∀ v u s2 x y H2, Inv X pins σ H2 s2 → RelV x v → RelV y u → R x y H2 → wpAny (model X.prog X.w) X.A (f v u) Q X.xe s2) :
    wpAny (model X.prog X.w) X.A (eval a X.env) (fun v s₁ => wpAny (model X.prog X.w) X.A (eval b X.env) (fun u s₂ => wpAny (model X.prog X.w) X.A (f v u) Q X.xe s₂) X.xe s₁) X.xe s := by
  refine thn (ha pins s σ H _ I h) fun v s1 ⟨x, H1, I1, r1, q1⟩ => ?_
  refine thn (hb pins s1 σ H1 _ I1 q1) fun u s2 ⟨y, H2, I2, r2, q2⟩ => ?_
  exact hf v u s2 x y H2 I2 r1 r2 q2

noncomputable def tVar (i : Nat) : TE := fun σ H Q => ∃ v, σ[i]? = some (some v) ∧ Q v H
noncomputable def tC (v : V) : TE := fun _ H Q => Q v H
theorem pe_var {i : Nat} {x : Str} {pos : Pos} (hN : X.N[i]? = some x) (hv : Vis X.env.scope x) (hd : (x == ("__debug__" : Str)) = false := by decide) (hcd : (x == ("__classdict__" : Str)) = false := by decide) : PE X (.Name x pos) (tVar i) := by
  intro pins s σ H Q I h
  obtain ⟨v, e, h⟩ := h
  obtain ⟨m, hn, hl⟩ := I.loc
  obtain ⟨u, r, l⟩ := hl i x v hN e hv
  have fin : EP X pins σ Q u s := ⟨v, H, I, r, h⟩
  rcases l with ⟨hk, hm⟩ | ⟨hk, c, hc, hcell⟩
  · exact wpAny_Name (wpAny_loadName_local I.ok.kind hk hn hm fin) hd
  · rcases hk with hk | hk
    · exact wpAny_Name (wpAny_loadName_cell I.ok.kind hk hc hcell fin) hd
    · exact wpAny_Name (wpAny_loadName_free I.ok.kind hk hc hcell fin hcd) hd
theorem pe_int {i j pos} : PE X (.Constant (.int i) j pos) (tC (.int i)) := fun _ _ _ H _ I h => wpAny_Constant_int ⟨.int i, H, I.tok _, ⟨_, rfl⟩, h⟩
theorem pe_bl {b j pos} : PE X (.Constant (.bool b) j pos) (tC (.bl b)) := fun _ _ _ H _ I h => Constant_bool ⟨.bl b, H, I, rfl, h⟩
theorem pe_str {x j pos} : PE X (.Constant (.str x) j pos) (tC (.str x)) := fun _ _ _ H _ I h => Calls.Constant_str ⟨.str x, H, I.tok _, ⟨_, rfl⟩, h⟩

noncomputable def Gl (X : Cx) (x : Str) : Prop := X.env.kindOf x = some .globalImplicit
theorem ld_glob {E : Value → Shared → Prop} {pins : List (Addr × Obj)} {s : Shared} {σ : St} {H : Hp} {x : Str} {u : Value} {pos : Pos} {Q : Value → Shared → Prop} (I : Inv X pins σ H s) (hg : Gl X x) (hm : X.mg x = some u) (h : Q u s)
    (hd : (x == ("__debug__" : Str)) = false := by decide) : wpAny (model X.prog X.w) X.A (eval (.Name x pos) X.env) Q E s :=
  Calls.Name_function_global I.ok.kind hg (Calls.loadGlobal_global (by rw [I.ok.glob]; exact I.mod.glob.keeps I.bk) hm h) hd
theorem ld_blt {E : Value → Shared → Prop} {pins : List (Addr × Obj)} {s : Shared} {σ : St} {H : Hp} {x : Str} {u : Value} {pos : Pos} {Q : Value → Shared → Prop} (I : Inv X pins σ H s) (hg : Gl X x) (hm : X.mg x = none) (hv : bootBuiltins x = some u) (h : Q u s)
    (hn : x ≠ "__name__" := by decide) (hd : (x == ("__debug__" : Str)) = false := by decide) : wpAny (model X.prog X.w) X.A (eval (.Name x pos) X.env) Q E s := by
  obtain ⟨mb, h1, h2⟩ := I.mod.blt
  exact Calls.Name_function_global I.ok.kind hg (Calls.loadGlobal_builtin (by rw [I.ok.glob]; exact I.mod.glob.keeps I.bk) hm (by rw [I.ok.blt]; exact h1.keeps I.bk) ((h2 x hn).trans hv) h) hd
theorem pe_glob {x : Str} {v : V} {u : Value} {pos : Pos} (hg : Gl X x) (hm : X.mg x = some u) (r : RelV v u) (hd : (x == ("__debug__" : Str)) = false := by decide) : PE X (.Name x pos) (tC v) :=
  fun _ _ _ H _ I h => ld_glob I hg hm ⟨v, H, I, r, h⟩ hd
theorem pe_bltn {x : Str} {v : V} {u : Value} {pos : Pos} (hg : Gl X x) (hm : X.mg x = none) (hv : bootBuiltins x = some u) (r : RelV v u) (hn : x ≠ "__name__" := by decide) (hd : (x == ("__debug__" : Str)) = false := by decide) : PE X (.Name x pos) (tC v) :=
  fun _ _ _ H _ I h => ld_blt I hg hm hv ⟨v, H, I, r, h⟩ hn hd

variable {a b : Expr} {ta tb : TE} {pos : Pos}

noncomputable def PC (X : Cx) (op : CmpOp) (a b : Expr) (t : TE) : Prop :=
  ∀ (pins : List (Addr × Obj)) (s : Shared) (σ : St) (H : Hp) (Q : VK), Inv X pins σ H s → t σ H Q →
    wpAny (model X.prog X.w) X.A (eval a X.env) (fun v s₁ => wpAny (model X.prog X.w) X.A (eval b X.env) (fun u s₂ => wpAny (model X.prog X.w) X.A (compareOp op v u) (EP X pins σ Q) X.xe s₂) X.xe s₁) X.xe s
noncomputable def tB (t : TE) : TT := fun σ H Q => t σ H fun x H1 => ∃ c, x = .bl c ∧ Q c H1
theorem pt_cmp {op : CmpOp} {t : TE} (h : PC X op a b t) (h1 : behindInMarks op b = false := by first | exact nobehind _ (by decide) (by decide) | rfl) : PT X (.Compare a [op] [b] pos) (tB t) := by
  intro pins s σ H Q I hw
  refine wpAny_isTrue_Compare1 (thn (h pins s σ H _ I hw) fun v s1 h1 => thn h1 fun u s2 h2 => thn h2 fun c s3 ⟨x, H1, I1, r1, q1⟩ => ?_) h1
  obtain ⟨d, rfl, q⟩ := q1
  cases r1
  exact wpAny_truthy_bool ⟨H1, I1, q⟩
theorem pt_val {e : Expr} {t : TE} (h : PE X e t) (he : ∀ whole, isTrue e X.env whole = (do let v ← whole; standAt e.pos; holding [v] (truthy v)) := by intro _; rfl) : PT X e (tB t) := by
  intro pins s σ H Q I hw
  refine isTrue_plain (thn (h pins s σ H _ I hw) fun v s1 ⟨x, H1, I1, r1, q1⟩ => ?_) (he _)
  obtain ⟨d, rfl, q⟩ := q1
  cases r1
  exact wpAny_truthy_bool ⟨H1, I1, q⟩

variable {tA tB' : TT} {rest : List Expr}
noncomputable def tOr (t u : TT) : TT := fun σ H Q => t σ H fun c H1 => if c = true then Q true H1 else u σ H1 Q
noncomputable def tNot (t : TT) : TT := fun σ H Q => t σ H fun c H1 => Q (!c) H1
theorem pw_or1 (ha : PT X a tA) : PW X (.BoolOp .Or [a] pos) tA := by
  intro wh pins s σ H Q I h
  refine isTrue_or (thn (ha pins s σ H Q I h) fun c s1 e => ?_)
  cases c with
  | false => exact isTrue_or_nil e
  | true => exact e
theorem pw_or (ha : PT X a tA) (hb : PW X (.BoolOp .Or (b :: rest) pos) tB') : PW X (.BoolOp .Or (a :: b :: rest) pos) (tOr tA tB') := by
  intro wh pins s σ H Q I h
  refine isTrue_or (thn (ha pins s σ H _ I h) fun c s1 ⟨H1, I1, q1⟩ => ?_)
  cases c with
  | true => exact ⟨H1, I1, q1⟩
  | false => exact hb wh pins s1 σ H1 Q I1 q1
theorem pt_not (ha : PT X a tA) : PT X (.UnaryOp .Not a pos) (tNot tA) := by
  intro pins s σ H Q I h
  exact isTrue_not (ha pins s σ H (fun c H1 => Q (!c) H1) I h)
noncomputable def tAndV (ta tb : TE) : TE := fun σ H Q => ta σ H fun x H1 => ∃ c, x = .bl c ∧ if c = true then tb σ H1 Q else Q (.bl false) H1
noncomputable def tNotV (ta : TE) : TE := fun σ H Q => ta σ H fun x H1 => ∃ c, x = .bl c ∧ Q (.bl (!c)) H1
theorem pe_one {op} {t : TE} (h : PE X a t) : PE X (.BoolOp op [a] pos) t := fun pins s σ H Q I hw => BoolOp_one (h pins s σ H Q I hw)
theorem pe_and (ha : PE X a ta) (hb : PE X (.BoolOp .And (b :: rest) pos) tb) : PE X (.BoolOp .And (a :: b :: rest) pos) (tAndV ta tb) := by
  intro pins s σ H Q I h
  refine BoolOp_and (thn (ha pins s σ H _ I h) fun v s1 ⟨x, H1, I1, r1, q1⟩ => ?_)
  obtain ⟨c, rfl, q1⟩ := q1
  cases r1
  refine wpAny_truthy_bool ?_
  cases c with
  | true => exact hb pins s1 σ H1 Q I1 q1
  | false => exact ⟨.bl false, H1, I1, rfl, q1⟩
theorem pe_not (ha : PE X a ta) : PE X (.UnaryOp .Not a pos) (tNotV ta) := by
  intro pins s σ H Q I h
  refine UnaryOp_ (thn (ha pins s σ H _ I h) fun v s1 ⟨x, H1, I1, r1, q1⟩ => ?_)
  obtain ⟨c, rfl, q1⟩ := q1
  cases r1
  exact not_of (wpAny_truthy_bool ⟨.bl (!c), H1, I1, rfl, q1⟩)
noncomputable def tIf (t : TT) (ta tb : TE) : TE := fun σ H Q => t σ H fun c H1 => if c = true then ta σ H1 Q else tb σ H1 Q
theorem pe_ifExp {c : Expr} (hc : PT X c tA) (ha : PE X a ta) (hb : PE X b tb) : PE X (.IfExp c a b pos) (tIf tA ta tb) := by
  intro pins s σ H Q I h
  refine wpAny_IfExp (thn (hc pins s σ H _ I h) fun d s1 ⟨H1, I1, q1⟩ => ?_)
  cases d with
  | true => exact ha pins s1 σ H1 Q I1 q1
  | false => exact hb pins s1 σ H1 Q I1 q1
end
end L2

namespace L2
open PySem PySem.Spec PyProof.Rows

noncomputable def SqL (K : PySem.W.Frag) (H : Hp) (a : Addr) (xs : List V) : Prop :=
  Rd H a (.lst xs) ∨
    ∃ (o : Obj) (its : Array Value) (n : Nat), K.lookup a = some o ∧ o.cls = .type "list" ∧ o.dict = none ∧ o.data = .seq its n ∧ its.size ≤ sizeLine ∧ Vals xs its.toList
noncomputable def SqT (K : PySem.W.Frag) (H : Hp) (a : Addr) (xs : List V) : Prop :=
  Rd H a (.tup xs) ∨
    ∃ (o : Obj) (its : Array Value) (n : Nat), K.lookup a = some o ∧ o.cls = .type "tuple" ∧ o.data = .seq its n ∧ its.size ≤ sizeLine ∧ Vals xs its.toList
noncomputable def absV : Value → Option V
  | .none => some .non
  | .bool b => some (.bl b)
  | .int i _ => some (.int i)
  | .str x _ => some (.str x)
  | .bytes b _ => some (.byt b)
  | .float b _ => some (.flt b)
  | .ref a => some (.ref a)
  | .type n => some (.ty n)
  | _ => none
theorem RelV.abs {x : V} {u : Value} (r : RelV x u) : absV u = some x := by
  cases x with
  | non => cases r; rfl
  | bl _ => cases r; rfl
  | int _ => obtain ⟨t, rfl⟩ := r; rfl
  | str _ => obtain ⟨t, rfl⟩ := r; rfl
  | byt _ => obtain ⟨t, rfl⟩ := r; rfl
  | flt _ => obtain ⟨t, rfl⟩ := r; rfl
  | ref _ => cases r; rfl
  | ty _ => cases r; rfl
theorem RelV.inj {x y : V} {u : Value} (r : RelV x u) (q : RelV y u) : x = y := Option.some.inj (r.abs.symm.trans q.abs)
theorem Vals.inj : ∀ {xs ys : List V} {us : List Value}, Vals xs us → Vals ys us → xs = ys
  | _, _, _, .nil, .nil => rfl
  | _, _, _, .cons r t, .cons r' t' => by rw [r.inj r', Vals.inj t t']
section
variable {X : Cx} {pins : List (Addr × Obj)} {σ : St} {H : Hp} {s : Shared} {a : Addr} {xs ys : List V}
theorem SqL.of {K : PySem.W.Frag} (h : H a = some (.lst xs)) : SqL K H a xs := .inl (.inl h)
theorem SqT.of {K : PySem.W.Frag} (h : H a = some (.tup xs)) : SqT K H a xs := .inl (.inl h)
theorem Inv.list (I : Inv X pins σ H s) (h : SqL X.K H a xs) : ∃ its : List Value, Vals xs its ∧ PlainL s.heap a its.toArray ∧ xs.length ≤ sizeLine := by
  rcases h with h | ⟨o, its, n, hk, hc, hd, hs, hz, r⟩
  · obtain ⟨z, its, n, r, e⟩ := h.ok I.hok
    exact ⟨its, r, ⟨_, n, e, rfl, rfl, rfl⟩, z⟩
  · refine ⟨its.toList, r, ⟨o, n, I.kIn a o hk, hc, hd, by simpa using hs⟩, ?_⟩
    have e := r.length
    simp only [Array.length_toList] at e
    omega
theorem Inv.tuple (I : Inv X pins σ H s) (h : SqT X.K H a xs) : ∃ its : List Value, Vals xs its ∧ IsTup s.heap a its.toArray ∧ xs.length ≤ sizeLine := by
  rcases h with h | ⟨o, its, n, hk, hc, hs, hz, r⟩
  · obtain ⟨z, its, r, p⟩ := h.ok I.hok
    exact ⟨its, r, p, z⟩
  · refine ⟨its.toList, r, ⟨o, I.kIn a o hk, hc, n, by simpa using hs⟩, ?_⟩
    have e := r.length
    simp only [Array.length_toList] at e
    omega
theorem Inv.list_inj (I : Inv X pins σ H s) (h : SqL X.K H a xs) (h' : SqL X.K H a ys) : xs = ys := by
  obtain ⟨its, r, ⟨o, n, e, _, _, d⟩, _⟩ := I.list h
  obtain ⟨its', r', ⟨o', n', e', _, _, d'⟩, _⟩ := I.list h'
  rw [e] at e'; cases e'
  rw [d] at d'
  injection d' with d1 _
  have : its = its' := by simpa using congrArg Array.toList d1
  subst this
  exact r.inj r'
theorem Inv.tuple_inj (I : Inv X pins σ H s) (h : SqT X.K H a xs) (h' : SqT X.K H a ys) : xs = ys := by
  obtain ⟨its, r, ⟨o, e, _, n, d⟩, _⟩ := I.tuple h
  obtain ⟨its', r', ⟨o', e', _, n', d'⟩, _⟩ := I.tuple h'
  rw [e] at e'; cases e'
  rw [d] at d'
  injection d' with d1 _
  have : its = its' := by simpa using congrArg Array.toList d1
  subst this
  exact r.inj r'
end

noncomputable abbrev Cx.wish (X : Cx) (E : Value → Shared → Prop) : Cx := { X with xe := E }
noncomputable abbrev Cx.nox (X : Cx) : Cx := X.wish fun _ _ => False
theorem Cx.Ok.wish {X : Cx} (ok : X.Ok) (E : Value → Shared → Prop) : (X.wish E).Ok :=
  ⟨ok.mod, ok.kind, ok.glob, ok.blt, ok.above, ok.inj, ok.has, ok.cab, ok.hd, ok.frames, ok.stk, ok.exf, ok.bs, ok.bsz, ok.noex, ok.exfs, ok.funs, ok.frf⟩
theorem Cx.Ok.unwish {X : Cx} {E : Value → Shared → Prop} (ok : (X.wish E).Ok) : X.Ok :=
  ⟨ok.mod, ok.kind, ok.glob, ok.blt, ok.above, ok.inj, ok.has, ok.cab, ok.hd, ok.frames, ok.stk, ok.exf, ok.bs, ok.bsz, ok.noex, ok.exfs, ok.funs, ok.frf⟩
section
variable {X : Cx} {pins : List (Addr × Obj)} {σ : St} {H : Hp} {s : Shared} {E : Value → Shared → Prop}
theorem Inv.wish (I : Inv X pins σ H s) (E : Value → Shared → Prop) : Inv (X.wish E) pins σ H s := ⟨I.ok.wish E, I.os, I.bare, I.base, I.loc, I.cell, I.free, I.freeC, I.pin, I.hok, I.len⟩
theorem Inv.unwish (I : Inv (X.wish E) pins σ H s) : Inv X pins σ H s := ⟨I.ok.unwish, I.os, I.bare, I.base, I.loc, I.cell, I.free, I.freeC, I.pin, I.hok, I.len⟩
theorem SP.unwish {D : Ends} {f : Flow} {s' : Shared} (h : SP (X.wish E) pins D f s') : SP X pins D f s' := by
  cases f with
  | next => obtain ⟨σ', H', I, q⟩ := h; exact ⟨σ', H', I.unwish, q⟩
  | brk => obtain ⟨σ', H', I, q⟩ := h; exact ⟨σ', H', I.unwish, q⟩
  | cont => obtain ⟨σ', H', I, q⟩ := h; exact ⟨σ', H', I.unwish, q⟩
  | ret u => obtain ⟨v, σ', H', I, r, q⟩ := h; exact ⟨v, σ', H', I.unwish, r, q⟩
theorem PSs.nox {st : List Stmt} {t : TS} (h : PSs X.nox st t) : PSs X st t := fun pins s σ H D I hw =>
  wpAny_mono (h pins s σ H D (I.wish _) hw) (fun _ _ q => q.unwish) fun _ _ z => False.elim z
end

section
variable {X : Cx} {st : Stmt} {rest : List Stmt} {t u : TS} {e : Expr} {te : TE} {pos : Pos}
noncomputable def tNext : TS := fun D σ H => D.nx σ H
noncomputable def tSeq (t u : TS) : TS := fun D σ H => t { D with nx := u D } σ H
theorem pss_nil : PSs X [] tNext := fun _ _ σ H _ I h => wpAny_execs_nil ⟨σ, H, I, h⟩
theorem pss_cons (h1 : PS X st t) (h2 : PSs X rest u) : PSs X (st :: rest) (tSeq t u) := by
  intro pins s σ H D I h
  refine wpAny_execs_cons (thn (h1 pins s σ H { D with nx := u D } I h) fun f s1 q => ?_)
  cases f with
  | next =>
    obtain ⟨σ', H', I', q⟩ := q
    exact h2 pins s1 σ' H' D I' q
  | ret v => exact q
  | brk => exact q
  | cont => exact q
theorem pss_one (h1 : PS X st t) : PSs X [st] t := by
  intro pins s σ H D I h
  refine wpAny_execs_cons (thn (h1 pins s σ H D I h) fun f s1 q => ?_)
  cases f with
  | next => exact wpAny_execs_nil q
  | ret v => exact q
  | brk => exact q
  | cont => exact q
theorem Inv.quiet {pins : List (Addr × Obj)} {σ : St} {H : Hp} {s : Shared} (I : Inv X pins σ H s) : interactive X.env = false := by simp [interactive, I.ok.kind]
noncomputable def tDrop (te : TE) : TS := fun D σ H => te σ H fun _ H1 => D.nx σ H1
theorem ps_expr (he : PE X e te) (hs : swapsWith e none pos.line X.env = pure false := by rfl) : PS X (.Expr e pos) (tDrop te) := by
  intro pins s σ H D I h
  exact wpAny_Expr_any (thn (he pins s σ H _ I h) fun v s1 ⟨x, H1, I1, r1, q1⟩ => ⟨σ, H1, I1, q1⟩) I.quiet hs
noncomputable def tRet (te : TE) : TS := fun D σ H => te σ H D.rt
theorem ps_ret (he : PE X e te) : PS X (.Return (some e) pos) (tRet te) := by
  intro pins s σ H D I h
  exact wpAny_Return_some (thn (he pins s σ H _ I h) fun v s1 ⟨x, H1, I1, r1, q1⟩ => ⟨x, σ, H1, I1, r1, q1⟩)
noncomputable def tIfS (c : TT) (t u : TS) : TS := fun D σ H => c σ H fun b H1 => if b = true then t D σ H1 else u D σ H1
theorem ps_if {c : Expr} {a b : List Stmt} {tc : TT} (hc : PT X c tc) (ha : PSs X a t) (hb : PSs X b u) : PS X (.If c a b pos) (tIfS tc t u) := by
  intro pins s σ H D I h
  refine wpAny_If (thn (hc pins s σ H _ I h) fun d s1 ⟨H1, I1, q1⟩ => ?_)
  cases d with
  | true => exact ha pins s1 σ H1 D I1 q1
  | false => exact hb pins s1 σ H1 D I1 q1
noncomputable def tNever : TS := fun _ _ _ => False
theorem ps_never : PS X st tNever := fun _ _ _ _ _ _ h => h.elim
theorem pss_never {sts : List Stmt} : PSs X sts tNever := fun _ _ _ _ _ _ h => h.elim
end

noncomputable abbrev TG := V → St → Hp → (St → Hp → Prop) → Prop
noncomputable abbrev TGs := List V → St → Hp → (St → Hp → Prop) → Prop
noncomputable def PG (X : Cx) (target : Expr) (t : TG) : Prop :=
  ∀ (pins : List (Addr × Obj)) (s : Shared) (σ : St) (H : Hp) (v : V) (u : Value) (Q : St → Hp → Prop), Inv X pins σ H s → RelV v u → t v σ H Q →
    wpAny (model X.prog X.w) X.A (assign target X.env u) (fun _ s' => ∃ σ' H', Inv X pins σ' H' s' ∧ Q σ' H') X.xe s
noncomputable def PGs (X : Cx) (ts : List Expr) (t : TGs) : Prop :=
  ∀ (pins : List (Addr × Obj)) (s : Shared) (σ : St) (H : Hp) (vs : List V) (us : List Value) (Q : St → Hp → Prop), Inv X pins σ H s → Vals vs us → t vs σ H Q →
    wpAny (model X.prog X.w) X.A (assignInOrder ((assignEach ts X.env).map (·.2)) us) (fun _ s' => ∃ σ' H', Inv X pins σ' H' s' ∧ Q σ' H') X.xe s
noncomputable abbrev TSet := V → V → V → Hp → (Hp → Prop) → Prop
noncomputable def PSet (X : Cx) (t : TSet) : Prop :=
  ∀ (pins : List (Addr × Obj)) (s : Shared) (σ : St) (H : Hp) (o i v : V) (ov iv u : Value) (Q : Hp → Prop), Inv X pins σ H s → RelV o ov → RelV i iv → RelV v u → t o i v H Q →
    wpAny (model X.prog X.w) X.A (setItem ov iv u) (fun _ s' => ∃ H', Inv X pins σ H' s' ∧ Q H') X.xe s
noncomputable abbrev TIp := V → V → Hp → VK → Prop
noncomputable def PIp (X : Cx) (op : Operator) (t : TIp) : Prop :=
  ∀ (pins : List (Addr × Obj)) (s : Shared) (σ : St) (H : Hp) (x y : V) (v u : Value) (Q : VK), Inv X pins σ H s → RelV x v → RelV y u → t x y H Q →
    wpAny (model X.prog X.w) X.A (inplaceOp op v u) (EP X pins σ Q) X.xe s
section
variable {X : Cx} {pos : Pos}
noncomputable def gName (i : Nat) : TG := fun v σ H Q => Q (σ.set i (some v)) H
theorem pg_name {i : Nat} {x : Str} (hN : X.N.Nodup) (hi : X.N[i]? = some x) (hx : Loc X.env.scope x) (hf : X.fn x = true ∨ X.env.scope.names.lookup x = some .local := by first | exact .inl rfl | exact .inr rfl | assumption) : PG X (.Name x pos) (gName i) := by
  intro pins s σ H v u Q I r h
  exact wpAny_assign_Name (store_ok I hN hi hx r (fun s' I' => ⟨_, H, I', h⟩) hf)
noncomputable def gNil : TGs := fun vs σ H Q => vs = [] ∧ Q σ H
noncomputable def gCons (t : TG) (u : TGs) : TGs := fun vs σ H Q => ∃ v r, vs = v :: r ∧ t v σ H fun σ' H' => u r σ' H' Q
theorem pgs_nil : PGs X [] gNil := by
  intro pins s σ H vs us Q I r h
  obtain ⟨e, h⟩ := h
  subst e
  cases r
  exact assignInOrder_nil ⟨σ, H, I, h⟩
theorem pgs_cons {e : Expr} {es : List Expr} {t : TG} {u : TGs} (h1 : PG X e t) (h2 : PGs X es u)
    (hs : (assignEach (e :: es) X.env).map (·.2) = assign e X.env :: (assignEach es X.env).map (·.2) := by rfl) : PGs X (e :: es) (gCons t u) := by
  intro pins s σ H vs us Q I r h
  obtain ⟨v, vr, e1, h⟩ := h
  subst e1
  cases r with
  | cons r rr =>
    rw [hs]
    refine assignInOrder_cons (thn (h1 pins s σ H _ _ _ I r h) fun _ s1 ⟨σ1, H1, I1, q1⟩ => ?_)
    exact h2 pins s1 σ1 H1 _ _ Q I1 rr q1
noncomputable def gTup (K : PySem.W.Frag) (n : Nat) (t : TGs) : TG := fun v σ H Q => ∃ a xs, v = .ref a ∧ SqT K H a xs ∧ xs.length = n ∧ t xs σ H Q
theorem pg_tup {es : List Expr} {k : Nat} {t : TGs} {n : Nat} (hc : X.calm = true) (h : PGs X es t)
    (hn : (assignEach es X.env).length = n := by rfl) (hst : (assignEach es X.env).findIdx? (·.1) = none := by rfl) : PG X (.Tuple es k pos) (gTup X.K n t) := by
  intro pins s σ H v u Q I r hw
  obtain ⟨a, xs, e1, hq, hl, hw⟩ := hw
  subst e1
  cases r
  obtain ⟨its, rv, ht, hz⟩ := I.tuple hq
  refine assign_Tuple_tuple (I.ok.hd hc) ht (by simp [hn, ← hl, rv.length]) hst fun h' hx => ?_
  have I1 : Inv X pins σ H { s with heap := h' } := I.kept (t' := s.toks) fun b o e => hx b o (Nat.ne_of_lt (Heap.lt_size e)) e
  exact h pins _ σ H xs _ Q I1 (by simpa using rv) hw
noncomputable def gSub (to ti : TE) (t : TSet) : TG := fun v σ H Q => to σ H fun o H1 => ti σ H1 fun i H2 => t o i v H2 fun H3 => Q σ H3
theorem pg_sub {o i : Expr} {to ti : TE} {t : TSet} (ho : PE X o to) (hi : PE X i ti) (hs : PSet X t)
    (ha : ∀ v, assign (.Subscript o i pos) X.env v = (do
      let ov ← holding [v] (eval o X.env)
      let iv ← holding [v, ov] (eval i X.env)
      standAt pos
      holding [v, ov, iv] (setItem ov iv v)
      release [v, ov, iv] []) := by intro _; rfl) : PG X (.Subscript o i pos) (gSub to ti t) := by
  intro pins s σ H v u Q I r h
  rw [ha]
  refine wpAny_bind (wpAny_holding (thn (ho pins s σ H _ I h) fun ov s1 ⟨x, H1, I1, r1, q1⟩ => ?_))
  refine wpAny_bind (wpAny_holding (thn (hi pins s1 σ H1 _ I1 q1) fun iv s2 ⟨y, H2, I2, r2, q2⟩ => ?_))
  refine wpAny_bind (wpAny_standAt (wpAny_bind (wpAny_holding (thn (hs pins s2 σ H2 x y v ov iv u _ I2 r1 r2 r q2) fun _ s3 ⟨H3, I3, q3⟩ => ?_))))
  exact wpAny_release ⟨σ, H3, I3, q3⟩
noncomputable def tAsg (te : TE) (g : TG) : TS := fun D σ H => te σ H fun x H1 => g x σ H1 D.nx
theorem ps_asg {tg e : Expr} {te : TE} {g : TG} (he : PE X e te) (hg : PG X tg g) (hs : swapsWithSole [tg] e pos.line X.env = pure false := by rfl) (hw : swappedStores [tg] e X.env = pure none := by rfl)
    (h1 : (assignEach [tg] X.env).map (·.2) = [assign tg X.env] := by rfl) : PS X (.Assign [tg] e pos) (tAsg te g) := by
  intro pins s σ H D I h
  refine wpAny_Assign_stores (thn (he pins s σ H _ I h) fun v s1 ⟨x, H1, I1, r1, q1⟩ => ?_) hs hw
  rw [h1]
  exact thn (hg pins s1 σ H1 x v _ I1 r1 q1) fun _ s2 q => q
theorem ps_set {i : Nat} {x : Str} {e : Expr} {te : TE} {pos' : Pos} (hN : X.N.Nodup) (hi : X.N[i]? = some x) (hx : Loc X.env.scope x) (he : PE X e te) (hs : swapsWith e (some (.Name x pos')) pos.line X.env = pure false := by rfl) (hf : X.fn x = true ∨ X.env.scope.names.lookup x = some .local := by first | exact .inl rfl | exact .inr rfl | assumption) :
    PS X (.Assign [.Name x pos'] e pos) (tAsg te (gName i)) := by
  intro pins s σ H D I h
  refine wpAny_Assign_Name (thn (he pins s σ H _ I h) fun v s1 ⟨y, H1, I1, r1, q1⟩ => ?_) hs
  exact store_ok I1 hN hi hx r1 (fun s2 I2 => ⟨_, H1, I2, q1⟩) hf
noncomputable def tPar (i j : Nat) (ta : TA) : TS := fun D σ H => ta σ H fun vs H1 => ∃ v w, vs = [v, w] ∧ D.nx ((σ.set i (some v)).set j (some w)) H1
theorem ps_par {i j : Nat} {x y : Str} {a b : Expr} {ta : TA} {px py pt : Pos} {kt k2 pt2} (hc : X.calm = true) (hN : X.N.Nodup) (hi : X.N[i]? = some x) (hj : X.N[j]? = some y) (hij : i ≠ j)
    (hx : X.env.scope.names.lookup x = some .local) (hy : X.env.scope.names.lookup y = some .local) (ha : PA X [a, b] ta)
    (hw : swappedStores [.Tuple [.Name x px, .Name y py] kt pt] (.Tuple [a, b] k2 pt2) X.env = pure (some [x, y]))
    (hs : swapsWithSole [.Tuple [.Name x px, .Name y py] kt pt] (.Tuple [a, b] k2 pt2) pos.line X.env = pure false := by rfl) :
    PS X (.Assign [.Tuple [.Name x px, .Name y py] kt pt] (.Tuple [a, b] k2 pt2) pos) (tPar i j ta) := by
  intro pins s σ H D I h
  rw [exec_Assign_arm]
  refine wpAny_bind (wpAny_standAt ?_)
  rw [hs]
  refine wpAny_bind (wpAny_pure ?_)
  rw [if_neg (by decide)]
  refine wpAny_bind (Tuple_ (thn (ha _ pins s σ H _ I h) fun us s1 ⟨vs, H1, I1, r1, q1⟩ => ?_))
  obtain ⟨v, w, e1, q1⟩ := q1
  subst e1
  obtain ⟨u1, u2, rfl, rv, rw'⟩ : ∃ u1 u2, us = [u1, u2] ∧ RelV v u1 ∧ RelV w u2 := by
    cases r1 with
    | cons p q =>
      cases q with
      | cons p' q' =>
        cases q'
        exact ⟨_, _, rfl, p, p'⟩
  refine wpAny_newObj_type ?_ (by show 2 ≤ sizeLine; decide)
  have I2 : Inv X pins σ H1 { s1 with heap := s1.heap.push { cls := .type "tuple", data := .seq [u1, u2].toArray } } := I1.kept (t' := s1.toks) fun b o e => Heap.get?_push_of_some _ e
  rw [hw]
  refine wpAny_bind (wpAny_pure ?_)
  show wpAny (model X.prog X.w) X.A (do rule "assign.swapped-stores"; let items ← unpackItems (.ref s1.heap.objs.size) 2 none; assignInOrder [fun v => bindName X.env y v, fun v => bindName X.env x v] items.reverse; pure Flow.next) _ _ _
  refine wpAny_bind (wpAny_rule (wpAny_bind (unpackItems_tuple (items := #[u1, u2]) (I.ok.hd hc) (IsTup.new s1.heap _) fun h' hx' => ?_)))
  have I3 := I2.kept (h' := h') (t' := s1.toks) fun b o e => hx' b o (Nat.ne_of_lt (Heap.lt_size e)) e
  show wpAny _ _ (assignInOrder [fun v => bindName X.env y v, fun v => bindName X.env x v] [u2, u1] >>= fun _ => pure Flow.next) _ _ _
  refine wpAny_bind (assignInOrder_cons (wpAny_bindName (store_ok I3 hN hj (.inl hy) rw' (fun s2 I4 => ?_) (.inr hy))))
  refine assignInOrder_cons (wpAny_bindName (store_ok I4 hN hi (.inl hx) rv (fun s3 I5 => assignInOrder_nil (wpAny_pure ?_)) (.inr hx)))
  rw [List.set_comm _ _ (Ne.symm hij)] at I5
  exact ⟨_, H1, I5, q1⟩
noncomputable def tAugS (to ti te : TE) (tget : V → V → Hp → VK → Prop) (tip : TIp) (tset : TSet) : TS := fun D σ H => to σ H fun o H1 => ti σ H1 fun i H2 => tget o i H2 fun x H3 => te σ H3 fun y H4 => tip x y H4 fun z H5 => tset o i z H5 fun H6 => D.nx σ H6
noncomputable def PGet (X : Cx) (t : V → V → Hp → VK → Prop) : Prop :=
  ∀ (pins : List (Addr × Obj)) (s : Shared) (σ : St) (H : Hp) (o i : V) (ov iv : Value) (Q : VK), Inv X pins σ H s → RelV o ov → RelV i iv → t o i H Q →
    wpAny (model X.prog X.w) X.A (getItem ov iv) (EP X pins σ Q) X.xe s
theorem ps_augS {o i e : Expr} {to ti te : TE} {tget : V → V → Hp → VK → Prop} {tip : TIp} {tset : TSet} {op : Operator} {tpos : Pos} (ho : PE X o to) (hi : PE X i ti) (hg : PGet X tget) (he : PE X e te) (hp : PIp X op tip) (hs : PSet X tset)
    (ha : ∀ ov iv new, augStore i ov iv new = (do holding [new, ov, iv] (setItem ov iv new); release [new, ov, iv] []; pure .next) := by intros; rfl) : PS X (.AugAssign (.Subscript o i tpos) op e pos) (tAugS to ti te tget tip tset) := by
  intro pins s σ H D I h
  refine wpAny_AugAssign_SubscriptAny (thn (ho pins s σ H _ I h) fun ov s1 ⟨x1, H1, I1, r1, q1⟩ => ?_) ha
  refine thn (hi pins s1 σ H1 _ I1 q1) fun iv s2 ⟨x2, H2, I2, r2, q2⟩ => ?_
  refine thn (hg pins s2 σ H2 x1 x2 ov iv _ I2 r1 r2 q2) fun old s3 ⟨x3, H3, I3, r3, q3⟩ => ?_
  refine thn (he pins s3 σ H3 _ I3 q3) fun v s4 ⟨x4, H4, I4, r4, q4⟩ => ?_
  refine thn (hp pins s4 σ H4 x3 x4 old v _ I4 r3 r4 q4) fun new s5 ⟨x5, H5, I5, r5, q5⟩ => ?_
  exact thn (hs pins s5 σ H5 x1 x2 x5 ov iv new _ I5 r1 r2 r5 q5) fun _ s6 ⟨H6, I6, q6⟩ => ⟨σ, H6, I6, q6⟩
noncomputable def ipI (f : Int → Int → Int) : TIp := fun x y H Q => ∃ i j, x = .int i ∧ y = .int j ∧ Q (.int (f i j)) H
theorem ip_add : PIp X .Add (ipI fun i j => i + j) := by
  intro pins s σ H x y v u Q I r1 r2 h
  obtain ⟨i, j, e1, e2, q⟩ := h
  subst e1; subst e2
  obtain ⟨t, rfl⟩ := r1
  obtain ⟨t', rfl⟩ := r2
  exact iadd_int ⟨.int _, H, I.tok _, ⟨_, rfl⟩, q⟩
end

section
variable {X : Cx} {pos : Pos}
noncomputable def tWhile (c : TT) (tb : TS) : TS := fun D σ H => ∃ W : Nat → St → Hp → Prop, (∃ m, W m σ H) ∧ ∀ m σ H, W m σ H →
  c σ H fun b H1 => if b = true then ∃ N : St → Hp → Prop, (∀ σ' H', N σ' H' → ∃ m', m' < m ∧ W m' σ' H') ∧ tb { D with nx := N, ct := N, bk := D.nx } σ H1 else D.nx σ H1
theorem ps_while {c : Expr} {body : List Stmt} {tc : TT} {tb : TS} (hp : PassesOwn (model X.prog X.w) X.A X.env X.xe) (hc : PT X c tc) (hb : PSs X body tb) : PS X (.While c body [] pos) (tWhile tc tb) := by
  intro pins s σ H D I h
  obtain ⟨W, ⟨m0, w0⟩, turn⟩ := h
  refine wpAny_While (codeAny_whileLoop (fun n s' => ∃ σ' H', Inv X pins σ' H' s' ∧ W n σ' H') ?_ m0 ⟨σ, H, I, w0⟩)
  rintro n s1 ⟨σ1, H1, I1, w1⟩
  refine wpAny_passesOwn hp (thn (hc pins s1 σ1 H1 _ I1 (turn n σ1 H1 w1)) fun b s2 ⟨H2, I2, q2⟩ => ?_)
  cases b with
  | true =>
    obtain ⟨N, hN, q2⟩ := q2
    rw [if_pos rfl]
    refine wpAny_passesOwn hp (thn (hb pins s2 σ1 H2 _ I2 q2) fun f s3 q3 => ?_)
    cases f with
    | next =>
      obtain ⟨σ3, H3, I3, n3⟩ := q3
      obtain ⟨m', hm, w3⟩ := hN σ3 H3 n3
      exact ⟨m', hm, σ3, H3, I3, w3⟩
    | cont =>
      obtain ⟨σ3, H3, I3, n3⟩ := q3
      obtain ⟨m', hm, w3⟩ := hN σ3 H3 n3
      exact ⟨m', hm, σ3, H3, I3, w3⟩
    | brk => exact q3
    | ret v => exact q3
  | false =>
    rw [if_neg Bool.false_ne_true]
    exact wpAny_execs_nil ⟨σ1, H2, I2, q2⟩
end

structure It where
  go : Nat → Hp → Prop
  yld : Nat → Hp → V → Hp → Prop
  stop : Nat → Hp → Prop
noncomputable def FpOk (X : Cx) (pins : List (Addr × Obj)) (H : Hp) (b : Addr) : Prop :=
  H b = none ∧ b ≠ X.env.locals ∧ b ∉ X.fs ∧ (b ∈ X.ex ∨ X.s₀.heap.objs.size ≤ b) ∧ (∀ x c, X.env.cells.lookup x = some c → c ≠ b) ∧ ∀ p ∈ X.pn ++ pins, p.1 ≠ b
theorem Inv.fpOk {X : Cx} {pins : List (Addr × Obj)} {σ : St} {H H' : Hp} {s : Shared} {b : Addr} (I : Inv X pins σ H s) (hb : s.heap.objs.size ≤ b) (hn : H' b = none) : FpOk X pins H' b := by
  refine ⟨hn, Nat.ne_of_gt (Nat.lt_of_lt_of_le I.lt hb), I.nofs hb, .inr (Nat.le_trans I.sz hb), fun x c e z => ?_, fun p hp z => ?_⟩
  · obtain ⟨v, q⟩ := I.cell x c e
    exact absurd (Nat.lt_of_lt_of_le q.lt (by rw [z]; exact hb)) (Nat.lt_irrefl _)
  · exact absurd (Nat.lt_of_lt_of_le (Heap.lt_size (I.pin p hp).1) (by rw [z]; exact hb)) (Nat.lt_irrefl _)
structure Turn (P : Program) (w : World) (K : PySem.W.Frag) (tg : Expr) (J : It) (fp : List Addr) (it : Addr) (tn : Nat → Heap → Prop) : Prop where
  mem : it ∈ fp
  obj : ∀ i h, tn i h → ∀ b ∈ fp, ∃ o, h.get? b = some o ∧ ∀ v, o.data ≠ .cell v
  keep : ∀ i h h', tn i h → (∀ b ∈ fp, ∀ o, h.get? b = some o → h'.get? b = some o) → tn i h'
  item : ∀ (X : Cx), X.prog = P → X.w = w → X.K = K → X.calm = true → ∀ (i : Nat) (pins : List (Addr × Obj)) (s : Shared) (σ : St) (H : Hp) (E : Value → Shared → Prop), Inv X pins σ H s → (∀ b ∈ fp, FpOk X pins H b) → tn i s.heap → J.go i H →
    wpAny (model P w) X.A (pyNext (.ref it)) (fun r s1 => ∃ u, r = some u ∧
      wpAny (model P w) X.A (letOwnedTupleGo tg (.ref it) u) (fun _ s2 => ∃ x H', Inv X pins σ H' s2 ∧ RelV x u ∧ J.yld i H x H' ∧ tn (i + 1) s2.heap ∧ ∀ b ∈ fp, H' b = none) E s1) E s
  done : ∀ (X : Cx), X.prog = P → X.w = w → X.K = K → X.calm = true → ∀ (i : Nat) (pins : List (Addr × Obj)) (s : Shared) (σ : St) (H : Hp) (E : Value → Shared → Prop), Inv X pins σ H s → (∀ b ∈ fp, FpOk X pins H b) → tn i s.heap → J.stop i H →
    wpAny (model P w) X.A (pyNext (.ref it)) (fun r s1 => r = none ∧ Inv X pins σ H s1) E s
  self : ∀ (A : Around) (i : Nat) (s : Shared) (Q : Value → Shared → Prop) (E : Value → Shared → Prop), tn i s.heap → Q (.ref it) s → wpAny (model P w) A (pyIter (.ref it)) Q E s
noncomputable abbrev TI := St → Hp → (It → Hp → Prop) → Prop
noncomputable def PIE (X : Cx) (pins : List (Addr × Obj)) (σ : St) (tg : Expr) (R : It → Hp → Prop) (itv : Value) (s2 : Shared) : Prop :=
  ∃ (it : Addr) (fp : List Addr) (tn : Nat → Heap → Prop) (J : It) (H' : Hp), itv = .ref it ∧ Inv X pins σ H' s2 ∧ Turn X.prog X.w X.K tg J fp it tn ∧ tn 0 s2.heap ∧ (∀ b ∈ fp, FpOk X pins H' b) ∧ R J H'
noncomputable def PI (X : Cx) (tg iter : Expr) (wi : TI) : Prop :=
  ∀ (pins : List (Addr × Obj)) (s : Shared) (σ : St) (H : Hp) (R : It → Hp → Prop), Inv X pins σ H s → wi σ H R →
    wpAny (model X.prog X.w) X.A (eval iter X.env) (fun v s1 => wpAny (model X.prog X.w) X.A (pyIter v) (PIE X pins σ tg R) X.xe s1) X.xe s

theorem go_of {M : Model} {A : Around} {E : Value → Shared → Prop} {s : Shared} {tg : Expr} {it : Addr} {u : Value} {o : Obj} {n : String} {vs : Array Value} {Q : Unit → Shared → Prop} (ho : s.heap.get? it = some o) (hc : o.cls = .type n) (hd : o.data = .fields vs)
    (hn : ["enumerate", "zip", "dict_itemiterator", "dict_reverseitemiterator", "odict_iterator", "itertools.zip_longest", "itertools.pairwise"].contains n = false) (hQ : Q () s) : wpAny M A (letOwnedTupleGo tg (.ref it) u) Q E s := by
  unfold letOwnedTupleGo
  cases tg <;> first
    | exact wpAny_pure hQ
    | (cases u <;> first
        | exact wpAny_pure hQ
        | (refine wpAny_bind (wpAny_load ho ?_)
           rw [hc, hd]
           show wpAny M A (if (["enumerate", "zip", "dict_itemiterator", "dict_reverseitemiterator", "odict_iterator", "itertools.zip_longest", "itertools.pairwise"].contains n && vs[0]? == some (rawInt _)) = true then _ else _) Q E s
           rw [if_neg (by intro h; rw [hn, Bool.false_and] at h; cases h)]
           exact wpAny_pure hQ))

noncomputable def Itl (K : PySem.W.Frag) (a : Addr) : It :=
  ⟨fun i H => ∃ xs x, SqL K H a xs ∧ xs[i]? = some x, fun i H x H' => H' = H ∧ ∀ xs, SqL K H a xs → xs[i]? = some x, fun i H => ∃ xs, SqL K H a xs ∧ xs.length ≤ i⟩
noncomputable def Itt (K : PySem.W.Frag) (a : Addr) : It :=
  ⟨fun i H => ∃ xs x, SqT K H a xs ∧ xs[i]? = some x, fun i H x H' => H' = H ∧ ∀ xs, SqT K H a xs → xs[i]? = some x, fun i H => ∃ xs, SqT K H a xs ∧ xs.length ≤ i⟩
noncomputable def Itr (lo : Int) (n : Nat) : It := ⟨fun i _ => i < n, fun i H x H' => H' = H ∧ x = .int (lo + i), fun i _ => n ≤ i⟩
theorem turn_list {P : Program} {w : World} {K : PySem.W.Frag} {tg : Expr} (a it : Addr) : Turn P w K tg (Itl K a) [it] it (fun i h => h.IsListIter it a i) where
  mem := by simp
  obj := fun i h st b hb => by
    have e : b = it := by simpa using hb
    subst e
    obtain ⟨o, e, c, d⟩ := st
    exact ⟨o, e, fun v z => by rw [d] at z; cases z⟩
  keep := fun i h h' st k => st.at fun o e => k it (by simp) o e
  item := by
    intro X hP hw hK hc i pins s σ H E I hf st hg
    subst hP hw hK
    obtain ⟨xs, x, hq, hx⟩ := hg
    obtain ⟨its, rv, p, hz⟩ := I.list hq
    obtain ⟨u, hu, ru⟩ := rv.get hx
    obtain ⟨f0, f1, f2, f3, f4, f5⟩ := hf it (by simp)
    refine wpAny_pyNext_list_item st p.isList (x := u) (by simpa using hu) fun h' st' sb => ?_
    have I1 : Inv X pins σ H { s with heap := h' } := I.turned (t' := s.toks) (fun b o hb e => (sb.2 b hb).trans e) f0 f1 f3 f4 f5
    obtain ⟨o, e, c, d⟩ := id st'
    exact ⟨u, rfl, go_of (s := { s with heap := h' }) e c d (by decide) ⟨x, H, I1, ru, ⟨rfl, fun ys hy => by rw [I.list_inj hy hq]; exact hx⟩, st', fun b hb => (hf b hb).1⟩⟩
  done := by
    intro X hP hw hK hc i pins s σ H E I hf st hg
    subst hP hw hK
    obtain ⟨xs, hq, hx⟩ := hg
    obtain ⟨its, rv, p, hz⟩ := I.list hq
    obtain ⟨f0, f1, f2, f3, f4, f5⟩ := hf it (by simp)
    have hl := rv.length
    exact wpAny_pyNext_list_end (I.ok.hd hc) st p.isList (by simp; omega) fun h' eb => ⟨rfl, I.turned (t' := s.toks) (fun b o hb e => eb b o hb e) f0 f1 f3 f4 f5⟩
  self := fun _ _ _ _ _ st h => wpAny_pyIter_listiter st h
theorem turn_tuple {P : Program} {w : World} {K : PySem.W.Frag} {tg : Expr} (a it : Addr) : Turn P w K tg (Itt K a) [it] it (fun i h => h.IsTupleIter it a i) where
  mem := by simp
  obj := fun i h st b hb => by
    have e : b = it := by simpa using hb
    subst e
    obtain ⟨o, e, c, d⟩ := st
    exact ⟨o, e, fun v z => by rw [d] at z; cases z⟩
  keep := fun i h h' st k => st.at fun o e => k it (by simp) o e
  item := by
    intro X hP hw hK hc i pins s σ H E I hf st hg
    subst hP hw hK
    obtain ⟨xs, x, hq, hx⟩ := hg
    obtain ⟨its, rv, p, hz⟩ := I.tuple hq
    obtain ⟨u, hu, ru⟩ := rv.get hx
    obtain ⟨f0, f1, f2, f3, f4, f5⟩ := hf it (by simp)
    refine wpAny_pyNext_tuple_item st (show s.heap.IsTuple a its.toArray from p) (x := u) (by simpa using hu) fun h' st' sb => ?_
    have I1 : Inv X pins σ H { s with heap := h' } := I.turned (t' := s.toks) (fun b o hb e => (sb.2 b hb).trans e) f0 f1 f3 f4 f5
    obtain ⟨o, e, c, d⟩ := id st'
    exact ⟨u, rfl, go_of (s := { s with heap := h' }) e c d (by decide) ⟨x, H, I1, ru, ⟨rfl, fun ys hy => by rw [I.tuple_inj hy hq]; exact hx⟩, st', fun b hb => (hf b hb).1⟩⟩
  done := by
    intro X hP hw hK hc i pins s σ H E I hf st hg
    subst hP hw hK
    obtain ⟨xs, hq, hx⟩ := hg
    obtain ⟨its, rv, p, hz⟩ := I.tuple hq
    obtain ⟨f0, f1, f2, f3, f4, f5⟩ := hf it (by simp)
    have hl := rv.length
    exact wpAny_pyNext_tuple_end (I.ok.hd hc) st (show s.heap.IsTuple a its.toArray from p) (by simp; omega) fun h' eb => ⟨rfl, I.turned (t' := s.toks) (fun b o hb e => eb b o hb e) f0 f1 f3 f4 f5⟩
  self := fun _ _ _ _ _ st h => wpAny_pyIter_tupleiter st h
theorem turn_range {P : Program} {w : World} {K : PySem.W.Frag} {tg : Expr} (it : Addr) (lo : Int) (n : Nat) : Turn P w K tg (Itr lo n) [it] it (fun i h => IsRangeIter h it (lo + (i : Nat) * 1) ((n : Int) - (i : Nat)) 1) where
  mem := by simp
  obj := fun i h st b hb => by
    have e : b = it := by simpa using hb
    subst e
    exact ⟨_, st, fun v z => by
      have z' : Data.fields _ = Data.cell v := z
      cases z'⟩
  keep := fun i h h' st k => k it (by simp) _ st
  item := by
    intro X hP hw hK hc i pins s σ H E I hf st hg
    subst hP hw hK
    obtain ⟨f0, f1, f2, f3, f4, f5⟩ := hf it (by simp)
    have W := Walks.range (prog := X.prog) (w := X.w) (I.ok.hd hc) it lo 1 n
    refine W.item i s _ _ hg st fun v h' tk hv st' kk => ?_
    obtain ⟨t, rfl⟩ := hv
    have I1 : Inv X pins σ H { s with heap := h', toks := tk } := I.turned (fun b o hb e => kk b o (by simpa using hb) e) f0 f1 f3 f4 f5
    refine ⟨_, rfl, go_of (s := { s with heap := h', toks := tk }) (n := "range_iterator") st' rfl rfl (by decide) ⟨.int (lo + i), H, I1, ⟨t, ?_⟩, ⟨rfl, rfl⟩, st', fun b hb => (hf b hb).1⟩⟩
    rw [Int.mul_one]
  done := by
    intro X hP hw hK hc i pins s σ H E I hf st hg
    subst hP hw hK
    obtain ⟨f0, f1, f2, f3, f4, f5⟩ := hf it (by simp)
    exact wpAny_pyNext_range_end (I.ok.hd hc) st (by have : n ≤ i := hg; omega) fun h' eb => ⟨rfl, I.turned (t' := s.toks) (fun b o hb e => eb b o hb e) f0 f1 f3 f4 f5⟩
  self := fun _ _ _ _ _ st h => wpAny_pyIter_rangeiter st h
end L2

namespace L2
open PySem PySem.Spec PyProof.Rows
section
variable {X : Cx} {tg : Expr}
noncomputable def iList (K : PySem.W.Frag) (tl : TE) : TI := fun σ H R => tl σ H fun x H1 => ∃ a, x = .ref a ∧ (∃ xs, SqL K H1 a xs) ∧ R (Itl K a) H1
noncomputable def iTup (K : PySem.W.Frag) (tl : TE) : TI := fun σ H R => tl σ H fun x H1 => ∃ a, x = .ref a ∧ (∃ xs, SqT K H1 a xs) ∧ R (Itt K a) H1
theorem pi_list {l : Expr} {tl : TE} (hl : PE X l tl) : PI X tg l (iList X.K tl) := by
  intro pins s σ H R I h
  refine thn (hl pins s σ H _ I h) fun v s1 ⟨x, H1, I1, r1, q1⟩ => ?_
  obtain ⟨a, e, ⟨xs, hq⟩, q⟩ := q1
  subst e
  cases r1
  obtain ⟨its, rv, p, hz⟩ := I1.list hq
  refine wpAny_pyIter_list p.isList ?_
  refine ⟨s1.heap.objs.size, [s1.heap.objs.size], _, _, H1, rfl, I1.kept (t' := s1.toks) fun b o e => Heap.get?_push_of_some _ e, turn_list a _, ⟨_, Heap.get?_push_size _ rfl, rfl, rfl⟩, fun b hb => ?_, q⟩
  have e : b = s1.heap.objs.size := by simpa using hb
  subst e
  exact I1.fpOk (Nat.le_refl _) (I1.hok.fresh (Nat.le_refl _))
theorem pi_tup {l : Expr} {tl : TE} (hl : PE X l tl) : PI X tg l (iTup X.K tl) := by
  intro pins s σ H R I h
  refine thn (hl pins s σ H _ I h) fun v s1 ⟨x, H1, I1, r1, q1⟩ => ?_
  obtain ⟨a, e, ⟨xs, hq⟩, q⟩ := q1
  subst e
  cases r1
  obtain ⟨its, rv, p, hz⟩ := I1.tuple hq
  refine wpAny_pyIter_tuple (show s1.heap.IsTuple a its.toArray from p) ?_
  refine ⟨s1.heap.objs.size, [s1.heap.objs.size], _, _, H1, rfl, I1.kept (t' := s1.toks) fun b o e => Heap.get?_push_of_some _ e, turn_tuple a _, ⟨_, Heap.get?_push_size _ rfl, rfl, rfl⟩, fun b hb => ?_, q⟩
  have e : b = s1.heap.objs.size := by simpa using hb
  subst e
  exact I1.fpOk (Nat.le_refl _) (I1.hok.fresh (Nat.le_refl _))
theorem range_it {pins : List (Addr × Obj)} {σ : St} {H : Hp} {s : Shared} {R : It → Hp → Prop} {E : Value → Shared → Prop} {lo hi : Int} {t u v : Tok} {tk : Nat} (I : Inv X pins σ H s) (h1 : -(2 ^ 62) ≤ lo) (h2 : lo < 2 ^ 62) (h3 : -(2 ^ 62) ≤ hi) (h4 : hi < 2 ^ 62)
    (q : R (Itr lo (hi - lo).toNat) H) : wpAny (model X.prog X.w) X.A (pyIter (.ref s.heap.objs.size)) (PIE X pins σ tg R) E { s with heap := s.heap.push { cls := .type "range", data := .fields #[.int lo t, .int hi u, .int 1 v] }, toks := tk } := by
  refine wpAny_pyIter_range (IsRange.new ..) (small_one h1 h2 h3 h4) ?_
  have I1 : Inv X pins σ H { s with heap := s.heap.push { cls := .type "range", data := .fields #[.int lo t, .int hi u, .int 1 v] }, toks := tk } := I.kept fun b o e => Heap.get?_push_of_some _ e
  refine ⟨(s.heap.push { cls := .type "range", data := .fields #[.int lo t, .int hi u, .int 1 v] }).objs.size, [(s.heap.push { cls := .type "range", data := .fields #[.int lo t, .int hi u, .int 1 v] }).objs.size], _, _, H, rfl,
    I1.kept (t' := tk) fun b o e => Heap.get?_push_of_some _ e, turn_range _ lo (hi - lo).toNat, ?_, fun b hb => ?_, q⟩
  · have e1 : lo + ((0 : Nat) : Int) * 1 = lo := by simp
    have e2 : (((hi - lo).toNat : Nat) : Int) - ((0 : Nat) : Int) = Builtin.Range.rangeSize lo hi 1 := by rw [rangeSize_one]; split <;> omega
    show IsRangeIter _ _ (lo + ((0 : Nat) : Int) * 1) ((((hi - lo).toNat : Nat) : Int) - ((0 : Nat) : Int)) 1
    rw [e1, e2]
    exact Heap.get?_push_size _ rfl
  · have e : b = (s.heap.push { cls := .type "range", data := .fields #[.int lo t, .int hi u, .int 1 v] }).objs.size := by simpa using hb
    subst e
    exact I1.fpOk (Nat.le_refl _) (I1.hok.fresh (Nat.le_refl _))
noncomputable def iRng1 (ta : TA) : TI := fun σ H R => ta σ H fun vs H1 => ∃ j : Int, vs = [.int j] ∧ -(2 ^ 62) ≤ j ∧ j < 2 ^ 62 ∧ R (Itr 0 j.toNat) H1
noncomputable def iRng2 (ta : TA) : TI := fun σ H R => ta σ H fun vs H1 => ∃ i j : Int, vs = [.int i, .int j] ∧ (-(2 ^ 62) ≤ i ∧ i < 2 ^ 62 ∧ -(2 ^ 62) ≤ j ∧ j < 2 ^ 62) ∧ R (Itr i (j - i).toNat) H1
theorem pi_range1 {a : Expr} {ta : TA} {p pos : Pos} (hg : Gl X "range") (hm : X.mg "range" = none) (ha : PA X [a] ta) (hs : starEach [a] X.env = [(false, eval a X.env)] := by rfl) : PI X tg (.Call (.Name "range" p) [a] [] pos) (iRng1 ta) := by
  intro pins s σ H R I h
  refine Call_ (ld_blt I hg hm boot_range (PyProof.Rows.callWith_type1 (thn (ha pos pins s σ H _ I h) fun us s1 ⟨vs, H1, I1, r1, q1⟩ => ?_) hs rfl))
  obtain ⟨j, e, q1, q2, q⟩ := q1
  subst e
  cases r1 with
  | cons r rr =>
    cases rr
    obtain ⟨t, rfl⟩ := r
    exact call_range_1 (range_it I1 (by omega) (by omega) q1 q2 (by simpa using q))
theorem pi_range2 {a b : Expr} {ta : TA} {p pos : Pos} (hg : Gl X "range") (hm : X.mg "range" = none) (ha : PA X [a, b] ta) (hs : starEach [a, b] X.env = [(false, eval a X.env), (false, eval b X.env)] := by rfl) (hs2 : starEach [b] X.env = [(false, eval b X.env)] := by rfl) :
    PI X tg (.Call (.Name "range" p) [a, b] [] pos) (iRng2 ta) := by
  intro pins s σ H R I h
  refine Call_ (ld_blt I hg hm boot_range (PyProof.Rows.callWith_type1 (thn (ha pos pins s σ H _ I h) fun us s1 ⟨vs, H1, I1, r1, q1⟩ => ?_) (by rw [hs, hs2]) (by rw [hs2]; rfl)))
  obtain ⟨i, j, e, ⟨q1, q2, q3, q4⟩, q⟩ := q1
  subst e
  cases r1 with
  | cons r rr =>
    cases rr with
    | cons r' rr =>
      cases rr
      obtain ⟨t, rfl⟩ := r
      obtain ⟨t', rfl⟩ := r'
      exact call_range_2 (range_it I1 q1 q2 q3 q4 q)

noncomputable def tFor (wi : TI) (g : TG) (tb : TS) : TS := fun D σ H => wi σ H fun J H1 => ∃ W : Nat → Nat → St → Hp → Prop, (∃ m, W 0 m σ H1) ∧ ∀ i m σ H, W i m σ H →
  (J.stop i H ∧ D.nx σ H) ∨ (J.go i H ∧ ∃ N : St → Hp → Prop, (∀ σ' H', N σ' H' → ∃ m', m' < m ∧ W (i + 1) m' σ' H') ∧ ∀ x H', J.yld i H x H' → g x σ H' fun σ2 H2 => tb { D with nx := N, ct := N, bk := D.nx } σ2 H2)
noncomputable def pinsAt (fp : List Addr) (h : Heap) : List (Addr × Obj) := fp.filterMap fun b => (h.get? b).map fun o => (b, o)
theorem mem_pinsAt {fp : List Addr} {h : Heap} {b : Addr} {o : Obj} (hb : b ∈ fp) (e : h.get? b = some o) : (b, o) ∈ pinsAt fp h := List.mem_filterMap.mpr ⟨b, hb, by rw [e]; rfl⟩
theorem of_pinsAt {fp : List Addr} {h : Heap} {p : Addr × Obj} (hp : p ∈ pinsAt fp h) : p.1 ∈ fp ∧ h.get? p.1 = some p.2 := by
  obtain ⟨b, hb, e⟩ := List.mem_filterMap.mp hp
  cases q : h.get? b with
  | none => rw [q] at e; cases e
  | some o =>
    rw [q] at e
    have e' : (b, o) = p := Option.some.inj e
    subst e'
    exact ⟨hb, q⟩
theorem Inv.pinned {pins : List (Addr × Obj)} {σ : St} {H : Hp} {s : Shared} {fp : List Addr} (I : Inv X pins σ H s) (hf : ∀ b ∈ fp, FpOk X pins H b) (ho : ∀ b ∈ fp, ∃ o, s.heap.get? b = some o ∧ ∀ v, o.data ≠ .cell v) : Inv X (pins ++ pinsAt fp s.heap) σ H s :=
  I.pins_of fun p hp => (List.mem_append.mp hp).elim (fun z => I.pin p (List.mem_append_right _ z)) fun z => by
    obtain ⟨hb, e⟩ := of_pinsAt z
    obtain ⟨f0, f1, f2, _⟩ := hf p.1 hb
    obtain ⟨o, e', d⟩ := ho p.1 hb
    rw [e] at e'; cases e'
    exact ⟨e, f0, f1, f2, d⟩
theorem Inv.unpinned {pins pl : List (Addr × Obj)} {σ : St} {H : Hp} {s : Shared} (I : Inv X (pins ++ pl) σ H s) : Inv X pins σ H s := I.pins_of fun p hp => I.pin p (List.mem_append_right _ (List.mem_append_left _ hp))
theorem ps_for {iter : Expr} {body : List Stmt} {wi : TI} {g : TG} {tb : TS} {pos : Pos} (hp : PassesOwn (model X.prog X.w) X.A X.env X.xe) (hc : X.calm = true) (hi : PI X tg iter wi) (hg : PG X tg g) (hb : PSs X body tb)
    (hs : ∀ x, foldedSetIterable iter X.env x = pure x := by intro _; rfl) : PS X (.For tg iter body [] pos) (tFor wi g tb) := by
  intro pins s σ H D I h
  refine wpAny_For (thn (hi pins s σ H _ I h) fun v s1 h1 => thn h1 fun itv s2 h2 => ?_) hs
  obtain ⟨it, fp, tn, J, H2, e, I2, T, st2, f2, W, ⟨m0, w0⟩, turn⟩ := h2
  subst e
  -- what stays true of the iterator's objects through the loop
  have stat : ∀ {H' : Hp}, (∀ b ∈ fp, H' b = none) → ∀ b ∈ fp, FpOk X pins H' b := fun hn b hb => ⟨hn b hb, (f2 b hb).2⟩
  refine codeAny_forLoop_any (fun n s' => ∃ i σ' H', Inv X pins σ' H' s' ∧ tn i s'.heap ∧ (∀ b ∈ fp, H' b = none) ∧ W i n σ' H') ?_ m0 ⟨0, σ, H2, I2, st2, fun b hb => (f2 b hb).1, w0⟩
  rintro n s3 ⟨i, σ3, H3, I3, st3, fr3, w3⟩
  rcases turn i n σ3 H3 w3 with ⟨stop, qn⟩ | ⟨go, N, hN, step⟩
  · refine wpAny_passesOwn hp (thn (T.done X rfl rfl rfl hc i pins s3 σ3 H3 X.xe I3 (stat fr3) st3 stop) fun r s4 ⟨hr, I4⟩ => ?_)
    subst hr
    exact wpAny_execs_nil ⟨σ3, H3, I4, qn⟩
  · refine wpAny_passesOwn hp (thn (T.item X rfl rfl rfl hc i pins s3 σ3 H3 X.xe I3 (stat fr3) st3 go) fun r s4 ⟨u, hr, h4⟩ => ?_)
    subst hr
    refine wpAny_passesOwn hp (thn h4 fun _ s5 ⟨x, H5, I5, r5, y5, st5, fr5⟩ => ?_)
    have I5' := I5.pinned (stat fr5) (T.obj _ _ st5)
    refine wpAny_passesOwn hp (thn (hg _ s5 σ3 H5 x u _ I5' r5 (step x H5 y5)) fun _ s6 ⟨σ6, H6, I6, q6⟩ => ?_)
    refine wpAny_passesOwn hp (thn (hb _ s6 σ6 H6 _ I6 q6) fun f s7 q7 => ?_)
    have again : ∀ {σ7 : St} {H7 : Hp}, Inv X (pins ++ pinsAt fp s5.heap) σ7 H7 s7 → N σ7 H7 → ∃ m, m < n ∧ ∃ i σ' H', Inv X pins σ' H' s7 ∧ tn i s7.heap ∧ (∀ b ∈ fp, H' b = none) ∧ W i m σ' H' := fun {σ7 H7} I7 n7 => by
      obtain ⟨m', hm, w7⟩ := hN σ7 H7 n7
      refine ⟨m', hm, i + 1, σ7, H7, I7.unpinned, T.keep _ _ _ st5 fun b hb o e => (I7.pin (b, o) (List.mem_append_right _ (List.mem_append_right _ (mem_pinsAt hb e)))).1, fun b hb => ?_, w7⟩
      obtain ⟨o, e, d⟩ := T.obj _ _ st5 b hb
      exact (I7.pin (b, o) (List.mem_append_right _ (List.mem_append_right _ (mem_pinsAt hb e)))).2.1
    cases f with
    | next => obtain ⟨σ7, H7, I7, n7⟩ := q7; exact again I7 n7
    | cont => obtain ⟨σ7, H7, I7, n7⟩ := q7; exact again I7 n7
    | brk => obtain ⟨σ7, H7, I7, q7⟩ := q7; exact ⟨σ7, H7, I7.unpinned, q7⟩
    | ret v => obtain ⟨x7, σ7, H7, I7, r7, q7⟩ := q7; exact ⟨x7, σ7, H7, I7.unpinned, r7, q7⟩
end

theorem for_list {K : PySem.W.Frag} {a : Addr} {xs : List V} {g : TG} {tb : TS} {D : Ends} {σ : St} {H : Hp} (Pv : Nat → St → Hp → Prop) (h0 : Pv 0 σ H) (hl : ∀ i σ H, i ≤ xs.length → Pv i σ H → SqL K H a xs)
    (hs : ∀ i x σ H, xs[i]? = some x → Pv i σ H → g x σ H fun σ2 H2 => tb { D with nx := Pv (i + 1), ct := Pv (i + 1), bk := D.nx } σ2 H2) (hd : ∀ σ H, Pv xs.length σ H → D.nx σ H) :
    ∃ W : Nat → Nat → St → Hp → Prop, (∃ m, W 0 m σ H) ∧ ∀ i m σ H, W i m σ H →
      ((Itl K a).stop i H ∧ D.nx σ H) ∨ ((Itl K a).go i H ∧ ∃ N : St → Hp → Prop, (∀ σ' H', N σ' H' → ∃ m', m' < m ∧ W (i + 1) m' σ' H') ∧ ∀ x H', (Itl K a).yld i H x H' → g x σ H' fun σ2 H2 => tb { D with nx := N, ct := N, bk := D.nx } σ2 H2) := by
  refine ⟨fun i m σ H => m = xs.length - i ∧ i ≤ xs.length ∧ Pv i σ H, ⟨xs.length, by simp, Nat.zero_le _, h0⟩, ?_⟩
  rintro i m σ H ⟨rfl, hi, p⟩
  have q := hl i σ H hi p
  by_cases hlt : i < xs.length
  · refine .inr ⟨⟨xs, xs[i], q, by simp [hlt]⟩, Pv (i + 1), fun σ' H' p' => ⟨xs.length - (i + 1), by omega, rfl, hlt, p'⟩, fun x H' y => ?_⟩
    obtain ⟨e, y⟩ := y
    subst e
    exact hs i x σ _ (y xs q) p
  · have e : i = xs.length := by omega
    subst e
    exact .inl ⟨⟨xs, q, Nat.le_refl _⟩, hd σ H p⟩
theorem for_tup {K : PySem.W.Frag} {a : Addr} {xs : List V} {g : TG} {tb : TS} {D : Ends} {σ : St} {H : Hp} (Pv : Nat → St → Hp → Prop) (h0 : Pv 0 σ H) (hl : ∀ i σ H, i ≤ xs.length → Pv i σ H → SqT K H a xs)
    (hs : ∀ i x σ H, xs[i]? = some x → Pv i σ H → g x σ H fun σ2 H2 => tb { D with nx := Pv (i + 1), ct := Pv (i + 1), bk := D.nx } σ2 H2) (hd : ∀ σ H, Pv xs.length σ H → D.nx σ H) :
    ∃ W : Nat → Nat → St → Hp → Prop, (∃ m, W 0 m σ H) ∧ ∀ i m σ H, W i m σ H →
      ((Itt K a).stop i H ∧ D.nx σ H) ∨ ((Itt K a).go i H ∧ ∃ N : St → Hp → Prop, (∀ σ' H', N σ' H' → ∃ m', m' < m ∧ W (i + 1) m' σ' H') ∧ ∀ x H', (Itt K a).yld i H x H' → g x σ H' fun σ2 H2 => tb { D with nx := N, ct := N, bk := D.nx } σ2 H2) := by
  refine ⟨fun i m σ H => m = xs.length - i ∧ i ≤ xs.length ∧ Pv i σ H, ⟨xs.length, by simp, Nat.zero_le _, h0⟩, ?_⟩
  rintro i m σ H ⟨rfl, hi, p⟩
  have q := hl i σ H hi p
  by_cases hlt : i < xs.length
  · refine .inr ⟨⟨xs, xs[i], q, by simp [hlt]⟩, Pv (i + 1), fun σ' H' p' => ⟨xs.length - (i + 1), by omega, rfl, hlt, p'⟩, fun x H' y => ?_⟩
    obtain ⟨e, y⟩ := y
    subst e
    exact hs i x σ _ (y xs q) p
  · have e : i = xs.length := by omega
    subst e
    exact .inl ⟨⟨xs, q, Nat.le_refl _⟩, hd σ H p⟩
theorem for_range {lo : Int} {n : Nat} {g : TG} {tb : TS} {D : Ends} {σ : St} {H : Hp} (Pv : Nat → St → Hp → Prop) (h0 : Pv 0 σ H)
    (hs : ∀ i σ H, i < n → Pv i σ H → g (.int (lo + i)) σ H fun σ2 H2 => tb { D with nx := Pv (i + 1), ct := Pv (i + 1), bk := D.nx } σ2 H2) (hd : ∀ σ H, Pv n σ H → D.nx σ H) :
    ∃ W : Nat → Nat → St → Hp → Prop, (∃ m, W 0 m σ H) ∧ ∀ i m σ H, W i m σ H →
      ((Itr lo n).stop i H ∧ D.nx σ H) ∨ ((Itr lo n).go i H ∧ ∃ N : St → Hp → Prop, (∀ σ' H', N σ' H' → ∃ m', m' < m ∧ W (i + 1) m' σ' H') ∧ ∀ x H', (Itr lo n).yld i H x H' → g x σ H' fun σ2 H2 => tb { D with nx := N, ct := N, bk := D.nx } σ2 H2) := by
  refine ⟨fun i m σ H => m = n - i ∧ i ≤ n ∧ Pv i σ H, ⟨n, by simp, Nat.zero_le _, h0⟩, ?_⟩
  rintro i m σ H ⟨rfl, hi, p⟩
  by_cases hlt : i < n
  · refine .inr ⟨hlt, Pv (i + 1), fun σ' H' p' => ⟨n - (i + 1), by omega, rfl, hlt, p'⟩, fun x H' y => ?_⟩
    obtain ⟨e, y⟩ := y
    subst e y
    exact hs i σ _ hlt p
  · have e : i = n := by omega
    subst e
    exact .inl ⟨Nat.le_refl _, hd σ H p⟩
theorem while_by {c : TT} {tb : TS} {D : Ends} {σ : St} {H : Hp} (Pv : St → Hp → Prop) (μ : St → Hp → Nat) (h0 : Pv σ H)
    (hs : ∀ σ H, Pv σ H → c σ H fun b H1 => if b = true then tb { D with nx := fun σ' H' => Pv σ' H' ∧ μ σ' H' < μ σ H, ct := fun σ' H' => Pv σ' H' ∧ μ σ' H' < μ σ H, bk := D.nx } σ H1 else D.nx σ H1)
    (mono : ∀ σ H Q Q', (∀ b H1, Q b H1 → Q' b H1) → c σ H Q → c σ H Q') : tWhile c tb D σ H := by
  refine ⟨fun m σ H => m = μ σ H ∧ Pv σ H, ⟨_, rfl, h0⟩, ?_⟩
  rintro m σ H ⟨rfl, p⟩
  refine mono σ H _ _ (fun b H1 q => ?_) (hs σ H p)
  cases b with
  | true => exact ⟨_, fun σ' H' ⟨p', l⟩ => ⟨_, l, rfl, p'⟩, q⟩
  | false => exact q
end L2

namespace L2
open PySem PySem.Spec PyProof.Rows

noncomputable abbrev R2 := V → V → Hp → VK → Prop
noncomputable def OpR (X : Cx) (f : Value → Value → Sem Value) (r : R2) : Prop :=
  ∀ (pins : List (Addr × Obj)) (s : Shared) (σ : St) (H : Hp) (x y : V) (v u : Value) (Q : VK), Inv X pins σ H s → RelV x v → RelV y u → r x y H Q →
    wpAny (model X.prog X.w) X.A (f v u) (EP X pins σ Q) X.xe s
noncomputable def UnR (X : Cx) (f : Value → Sem Value) (r : V → Hp → VK → Prop) : Prop :=
  ∀ (pins : List (Addr × Obj)) (s : Shared) (σ : St) (H : Hp) (x : V) (v : Value) (Q : VK), Inv X pins σ H s → RelV x v → r x H Q →
    wpAny (model X.prog X.w) X.A (f v) (EP X pins σ Q) X.xe s
noncomputable def CallR (X : Cx) (f : Value) (r : List V → Hp → VK → Prop) : Prop :=
  ∀ (pins : List (Addr × Obj)) (s : Shared) (σ : St) (H : Hp) (xs : List V) (us : List Value) (Q : VK), Inv X pins σ H s → Vals xs us → r xs H Q →
    wpAny (model X.prog X.w) X.A (call f us) (EP X pins σ Q) X.xe s

noncomputable def tOp (r : R2) (ta tb : TE) : TE := fun σ H Q => ta σ H fun x H1 => tb σ H1 fun y H2 => r x y H2 Q
noncomputable def tUn (r : V → Hp → VK → Prop) (ta : TE) : TE := fun σ H Q => ta σ H fun x H1 => r x H1 Q
noncomputable def rI (C : Int → Int → Prop) (g : Int → Int → V) : R2 := fun x y H Q => ∃ i j, x = .int i ∧ y = .int j ∧ C i j ∧ Q (g i j) H
noncomputable def rI0 (g : Int → Int → V) : R2 := fun x y H Q => ∃ i j, x = .int i ∧ y = .int j ∧ Q (g i j) H
noncomputable def rU (g : Int → V) : V → Hp → VK → Prop := fun x H Q => ∃ i, x = .int i ∧ Q (g i) H

section
variable {X : Cx} {a b c : Expr} {ta tb tc : TE} {pos : Pos}

theorem binT (ha : PE X a ta) (hb : PE X b tb) {pins : List (Addr × Obj)} {s : Shared} {σ : St} {H : Hp} {R : V → V → Hp → Prop} (I : Inv X pins σ H s)
    (h : ta σ H fun x H1 => tb σ H1 fun y H2 => R x y H2) {Q : Value → Shared → Prop} {f : Value → Value → Sem Value}
    (hf : ∀ v u s2 x y H2, Inv X pins σ H2 s2 → RelV x v → RelV y u → R x y H2 → wpAny (model X.prog X.w) X.A (f v u) Q X.xe s2) :
    wpAny (model X.prog X.w) X.A (eval a X.env) (fun v s₁ => wpAny (model X.prog X.w) X.A (eval b X.env) (fun u s₂ => wpAny (model X.prog X.w) X.A (f v u) Q X.xe s₂) X.xe s₁) X.xe s := by
  refine thn (ha pins s σ H _ I h) fun v s1 ⟨x, H1, I1, r1, q1⟩ => ?_
  refine thn (hb pins s1 σ H1 _ I1 q1) fun u s2 ⟨y, H2, I2, r2, q2⟩ => ?_
  exact hf v u s2 x y H2 I2 r1 r2 q2

theorem pe_op {op : Operator} {r : R2} (ho : OpR X (binaryOp op) r) (ha : PE X a ta) (hb : PE X b tb) : PE X (.BinOp a op b pos) (tOp r ta tb) := by
  intro pins s σ H Q I h
  exact wpAny_BinOp (binT ha hb I h fun v u s2 x y H2 I2 rx ry q => ho pins s2 σ H2 x y v u Q I2 rx ry q)
theorem pe_un {op : UnaryOp} {r : V → Hp → VK → Prop} (ho : UnR X (unaryOp op) r) (ha : PE X a ta) : PE X (.UnaryOp op a pos) (tUn r ta) := by
  intro pins s σ H Q I h
  exact UnaryOp_ (thn (ha pins s σ H _ I h) fun v s1 ⟨x, H1, I1, r1, q1⟩ => ho pins s1 σ H1 x v Q I1 r1 q1)

theorem opI {f : Value → Value → Sem Value} {C : Int → Int → Prop} {g : Int → Int → Int}
    (rule : ∀ (i j : Int) (t u : Tok) (s : Shared) (Q : Value → Shared → Prop) (E : Value → Shared → Prop), C i j → Q (.int (g i j) s.toks) { s with toks := s.toks + 1 } → wpAny (model X.prog X.w) X.A (f (.int i t) (.int j u)) Q E s) :
    OpR X f (rI C fun i j => .int (g i j)) := by
  intro pins s σ H x y v u Q I rx ry h
  obtain ⟨i, j, rfl, rfl, hc, q⟩ := h
  obtain ⟨t, rfl⟩ := rx
  obtain ⟨t', rfl⟩ := ry
  exact rule i j t t' s _ _ hc ⟨.int (g i j), H, I.tok _, ⟨_, rfl⟩, q⟩
theorem opI0 {f : Value → Value → Sem Value} {g : Int → Int → Int}
    (rule : ∀ (i j : Int) (t u : Tok) (s : Shared) (Q : Value → Shared → Prop) (E : Value → Shared → Prop), Q (.int (g i j) s.toks) { s with toks := s.toks + 1 } → wpAny (model X.prog X.w) X.A (f (.int i t) (.int j u)) Q E s) :
    OpR X f (rI0 fun i j => .int (g i j)) := by
  intro pins s σ H x y v u Q I rx ry h
  obtain ⟨i, j, rfl, rfl, q⟩ := h
  obtain ⟨t, rfl⟩ := rx
  obtain ⟨t', rfl⟩ := ry
  exact rule i j t t' s _ _ ⟨.int (g i j), H, I.tok _, ⟨_, rfl⟩, q⟩
theorem opB0 {f : Value → Value → Sem Value} {g : Int → Int → Bool}
    (rule : ∀ (i j : Int) (t u : Tok) (s : Shared) (Q : Value → Shared → Prop) (E : Value → Shared → Prop), Q (.bool (g i j)) s → wpAny (model X.prog X.w) X.A (f (.int i t) (.int j u)) Q E s) :
    OpR X f (rI0 fun i j => .bl (g i j)) := by
  intro pins s σ H x y v u Q I rx ry h
  obtain ⟨i, j, rfl, rfl, q⟩ := h
  obtain ⟨t, rfl⟩ := rx
  obtain ⟨t', rfl⟩ := ry
  exact rule i j t t' s _ _ ⟨.bl (g i j), H, I, rfl, q⟩

noncomputable def CDiv (i j : Int) : Prop := 0 < j ∧ j < 1073741824
noncomputable def CPow (i j : Int) : Prop := 0 ≤ j ∧ j ≤ 1000000 ∧ i.natAbs < 2 ^ 64
noncomputable def CMul (i j : Int) : Prop := (-(2 ^ 64) < i ∧ i < 2 ^ 64) ∨ (-(2 ^ 64) < j ∧ j < 2 ^ 64)
theorem CMul.ok {i j : Int} (h : CMul i j) : IntMulOk i j := by
  rcases h with ⟨h1, h2⟩ | ⟨h1, h2⟩
  · exact .of_left (intBits_le_64 h1 h2)
  · exact .of_right (intBits_le_64 h1 h2)

theorem op_add : OpR X (binaryOp .Add) (rI0 fun i j => .int (i + j)) := opI0 fun _ _ _ _ _ _ _ q => add_int q
theorem op_sub : OpR X (binaryOp .Sub) (rI0 fun i j => .int (i - j)) := opI0 fun _ _ _ _ _ _ _ q => sub_int q
theorem op_mul : OpR X (binaryOp .Mult) (rI CMul fun i j => .int (i * j)) := opI fun _ _ _ _ _ _ _ hc q => mul_int q hc.ok
theorem op_fdiv : OpR X (binaryOp .FloorDiv) (rI CDiv fun i j => .int (i / j)) := opI fun i j _ _ _ _ _ hc q => by
  have h1 : (0 : Int) < j := hc.1
  have h2 : j < 1073741824 := hc.2
  exact floordiv_int (by omega) (by rw [Int.fdiv_eq_ediv_of_nonneg i (by omega)]; exact q) (.inl (PyProof.noPylong_small (by omega)))
theorem op_mod : OpR X (binaryOp .Mod) (rI (fun _ j => 0 < j) fun i j => .int (i % j)) := opI fun i j _ _ _ _ _ hc q => by
  have h1 : (0 : Int) < j := hc
  exact mod_int' (by omega) (by rw [Int.fmod_eq_emod_of_nonneg i (by omega)]; exact q)
theorem op_pow : OpR X (binaryOp .Pow) (rI CPow fun i j => .int (i ^ j.toNat)) := opI fun _ _ _ _ _ _ _ hc q => pow_int_small hc.1 hc.2.1 hc.2.2 q


theorem unI {f : Value → Sem Value} {g : Int → Int}
    (rule : ∀ (i : Int) (t : Tok) (s : Shared) (Q : Value → Shared → Prop) (E : Value → Shared → Prop), Q (.int (g i) s.toks) { s with toks := s.toks + 1 } → wpAny (model X.prog X.w) X.A (f (.int i t)) Q E s) :
    UnR X f (rU fun i => .int (g i)) := by
  intro pins s σ H x v Q I rx h
  obtain ⟨i, rfl, q⟩ := h
  obtain ⟨t, rfl⟩ := rx
  exact rule i t s _ _ ⟨.int (g i), H, I.tok _, ⟨_, rfl⟩, q⟩
theorem un_neg : UnR X (unaryOp .USub) (rU fun i => .int (-i)) := unI fun _ _ _ _ _ q => neg_int q

end

noncomputable def scal : V → V → Bool
  | .non, .non => true | .non, .int _ => true | .int _, .non => true | .non, .bl _ => true | .bl _, .non => true | .non, .str _ => true | .str _, .non => true
  | .int _, .int _ => true | .bl _, .bl _ => true | .str _, .str _ => true | .byt _, .byt _ => true
  | .int _, .str _ => true | .str _, .int _ => true | .bl _, .str _ => true | .str _, .bl _ => true
  | _, _ => false
noncomputable def rEq : R2 := fun x y H Q => scal x y = true ∧ Q (.bl (decide (x = y))) H
noncomputable def rNe : R2 := fun x y H Q => scal x y = true ∧ Q (.bl (!decide (x = y))) H

theorem dec_int {i j : Int} : decide (V.int i = V.int j) = (i == j) := by
  rw [Bool.eq_iff_iff]
  simp
theorem dec_bl {i j : Bool} : decide (V.bl i = V.bl j) = (i == j) := by
  rw [Bool.eq_iff_iff]
  simp
theorem dec_str {i j : Str} : decide (V.str i = V.str j) = (i == j) := by
  rw [Bool.eq_iff_iff]
  simp
theorem dec_byt {i j : Array UInt8} : decide (V.byt i = V.byt j) = (i.toList == j.toList) := by
  rw [Bool.eq_iff_iff]
  cases i
  cases j
  simp

section
variable {X : Cx} {a b c : Expr} {ta tb tc : TE} {pos : Pos}
theorem fin_bl {pins : List (Addr × Obj)} {σ : St} {H : Hp} {s : Shared} {Q : VK} {k k' : Bool} (I : Inv X pins σ H s) (q : Q (.bl k) H) (e : k = k') : EP X pins σ Q (.bool k') s := by
  subst e
  exact ⟨.bl k, H, I, rfl, q⟩
theorem op_eq : OpR X (compareOp .Eq) rEq := by
  intro pins s σ H x y v u Q I rx ry h
  obtain ⟨hs, q⟩ := h
  cases x with
  | non =>
    cases rx
    cases y with
    | non => cases ry; exact PySem.EqNone.eq_none_none (fin_bl I q (by simp))
    | bl j => cases ry; exact PySem.EqNone.eq_none_bool (fin_bl I q (by simp))
    | int j => obtain ⟨t', rfl⟩ := ry; exact PySem.EqNone.eq_none_int (fin_bl I q (by simp))
    | str j => obtain ⟨t', rfl⟩ := ry; exact PySem.EqNone.eq_none_str (fin_bl I q (by simp))
    | _ => exact absurd (show false = true from hs) Bool.false_ne_true
  | bl i =>
    cases rx
    cases y with
    | non => cases ry; exact PySem.EqNone.eq_bool_none (fin_bl I q (by simp))
    | bl j => cases ry; exact eq_bool (fin_bl I q dec_bl)
    | str j => obtain ⟨t', rfl⟩ := ry; exact PySem.EqMixed.eq_bool_str (fin_bl I q (by simp))
    | _ => exact absurd (show false = true from hs) Bool.false_ne_true
  | int i =>
    obtain ⟨t, rfl⟩ := rx
    cases y with
    | non => cases ry; exact PySem.EqNone.eq_int_none (fin_bl I q (by simp))
    | int j => obtain ⟨t', rfl⟩ := ry; exact eq_int (fin_bl I q dec_int)
    | str j => obtain ⟨t', rfl⟩ := ry; exact PySem.EqMixed.eq_int_str (fin_bl I q (by simp))
    | _ => exact absurd (show false = true from hs) Bool.false_ne_true
  | str i =>
    obtain ⟨t, rfl⟩ := rx
    cases y with
    | non => cases ry; exact PySem.EqNone.eq_str_none (fin_bl I q (by simp))
    | bl j => cases ry; exact PySem.EqMixed.eq_str_bool (fin_bl I q (by simp))
    | int j => obtain ⟨t', rfl⟩ := ry; exact PySem.EqMixed.eq_str_int (fin_bl I q (by simp))
    | str j => obtain ⟨t', rfl⟩ := ry; exact eq_str (fin_bl I q dec_str)
    | _ => exact absurd (show false = true from hs) Bool.false_ne_true
  | byt i =>
    obtain ⟨t, rfl⟩ := rx
    cases y with
    | byt j => obtain ⟨t', rfl⟩ := ry; exact PySem.W.eq_bytes (fin_bl I q dec_byt)
    | _ => exact absurd (show false = true from hs) Bool.false_ne_true
  | _ => cases y <;> exact absurd (show false = true from hs) Bool.false_ne_true
theorem op_ne : OpR X (compareOp .NotEq) rNe := by
  intro pins s σ H x y v u Q I rx ry h
  obtain ⟨hs, q⟩ := h
  cases x with
  | non =>
    cases rx
    cases y with
    | non => cases ry; exact PySem.EqNone.ne_none_none (fin_bl I q (by simp))
    | bl j => cases ry; exact PySem.EqNone.ne_none_bool (fin_bl I q (by simp))
    | int j => obtain ⟨t', rfl⟩ := ry; exact PySem.EqNone.ne_none_int (fin_bl I q (by simp))
    | str j => obtain ⟨t', rfl⟩ := ry; exact PySem.EqNone.ne_none_str (fin_bl I q (by simp))
    | _ => exact absurd (show false = true from hs) Bool.false_ne_true
  | bl i =>
    cases rx
    cases y with
    | non => cases ry; exact PySem.EqNone.ne_bool_none (fin_bl I q (by simp))
    | bl j => cases ry; exact ne_bool (fin_bl I q (congrArg not dec_bl))
    | str j => obtain ⟨t', rfl⟩ := ry; exact PySem.EqMixed.ne_bool_str (fin_bl I q (by simp))
    | _ => exact absurd (show false = true from hs) Bool.false_ne_true
  | int i =>
    obtain ⟨t, rfl⟩ := rx
    cases y with
    | non => cases ry; exact PySem.EqNone.ne_int_none (fin_bl I q (by simp))
    | int j => obtain ⟨t', rfl⟩ := ry; exact ne_int (fin_bl I q (congrArg not dec_int))
    | str j => obtain ⟨t', rfl⟩ := ry; exact PySem.EqMixed.ne_int_str (fin_bl I q (by simp))
    | _ => exact absurd (show false = true from hs) Bool.false_ne_true
  | str i =>
    obtain ⟨t, rfl⟩ := rx
    cases y with
    | non => cases ry; exact PySem.EqNone.ne_str_none (fin_bl I q (by simp))
    | bl j => cases ry; exact PySem.EqMixed.ne_str_bool (fin_bl I q (by simp))
    | int j => obtain ⟨t', rfl⟩ := ry; exact PySem.EqMixed.ne_str_int (fin_bl I q (by simp))
    | str j => obtain ⟨t', rfl⟩ := ry; exact ne_str (fin_bl I q (congrArg not dec_str))
    | _ => exact absurd (show false = true from hs) Bool.false_ne_true
  | byt i =>
    obtain ⟨t, rfl⟩ := rx
    cases y with
    | byt j => obtain ⟨t', rfl⟩ := ry; exact PySem.W.ne_bytes (fin_bl I q (congrArg not dec_byt))
    | _ => exact absurd (show false = true from hs) Bool.false_ne_true
  | _ => cases y <;> exact absurd (show false = true from hs) Bool.false_ne_true

theorem op_lt : OpR X (compareOp .Lt) (rI0 fun i j => .bl (decide (i < j))) := opB0 fun _ _ _ _ _ _ _ q => lt_int q
theorem op_le : OpR X (compareOp .LtE) (rI0 fun i j => .bl (decide (i ≤ j))) := opB0 fun _ _ _ _ _ _ _ q => le_int q
theorem op_gt : OpR X (compareOp .Gt) (rI0 fun i j => .bl (decide (j < i))) := opB0 fun _ _ _ _ _ _ _ q => gt_int q
theorem op_ge : OpR X (compareOp .GtE) (rI0 fun i j => .bl (decide (j ≤ i))) := opB0 fun _ _ _ _ _ _ _ q => ge_int q




theorem nomark (b : Expr) {op : CmpOp} (h : op ≠ .In := by decide) (h2 : op ≠ .NotIn := by decide) : behindInMarks op b = false := by
  have e1 : (op == CmpOp.In) = false := by cases op <;> first | rfl | exact absurd rfl h
  have e2 : (op == CmpOp.NotIn) = false := by cases op <;> first | rfl | exact absurd rfl h2
  cases b <;> simp [behindInMarks, e1, e2]
theorem pe_cmpR {op : CmpOp} {r : R2} (ho : OpR X (compareOp op) r) (ha : PE X a ta) (hb : PE X b tb) (hm : behindInMarks op b = false) : PE X (.Compare a [op] [b] pos) (tOp r ta tb) := by
  intro pins s σ H Q I h
  exact wpAny_Compare1 (binT ha hb I h fun v u s2 x y H2 I2 rx ry q => ho pins s2 σ H2 x y v u Q I2 rx ry q) hm
noncomputable def tTest (t : TE) : TT := fun σ H Q => t σ H fun x H' => ∃ k, x = .bl k ∧ Q k H'
theorem pt_cmpR {op : CmpOp} {r : R2} (ho : OpR X (compareOp op) r) (ha : PE X a ta) (hb : PE X b tb) (hm : behindInMarks op b = false) : PT X (.Compare a [op] [b] pos) (tTest (tOp r ta tb)) := by
  intro pins s σ H Q I h
  refine wpAny_isTrue_Compare1 (thn (ha pins s σ H _ I h) fun v s1 ⟨x, H1, I1, r1, q1⟩ => thn (hb pins s1 σ H1 _ I1 q1) fun u s2 ⟨y, H2, I2, r2, q2⟩ =>
    thn (ho pins s2 σ H2 x y v u _ I2 r1 r2 q2) fun c s3 ⟨z, H3, I3, r3, k, e, q3⟩ => ?_) hm
  subst e
  cases r3
  exact wpAny_truthy_bool ⟨H3, I3, q3⟩

theorem line63 : (sizeLine : Nat) < 2 ^ 63 := by rw [sizeLine_eq]; decide

theorem op_add_str : OpR X (binaryOp .Add) (fun x y H Q => ∃ i j, x = .str i ∧ y = .str j ∧ i.length + j.length ≤ sizeLine ∧ Q (.str (i ++ j)) H) := by
  intro pins s σ H x y v u Q I rx ry h
  obtain ⟨i, j, rfl, rfl, hz, q⟩ := h
  obtain ⟨t, rfl⟩ := rx
  obtain ⟨t', rfl⟩ := ry
  exact add_str (fun t' tk => ⟨.str (i ++ j), H, I.tok _, ⟨_, rfl⟩, q⟩) hz


theorem vals1 {x : V} {us : List Value} (r : Vals [x] us) : ∃ u, us = [u] ∧ RelV x u := by
  cases r with
  | cons r1 r2 => cases r2; exact ⟨_, rfl, r1⟩
theorem vals2 {x y : V} {us : List Value} (r : Vals [x, y] us) : ∃ u w', us = [u, w'] ∧ RelV x u ∧ RelV y w' := by
  cases r with
  | cons r1 r2 =>
    cases r2 with
    | cons r3 r4 => cases r4; exact ⟨_, _, rfl, r1, r3⟩
theorem call_abs : CallR X (.builtin "abs") (fun xs H Q => ∃ i, xs = [.int i] ∧ Q (.int (if i < 0 then -i else i)) H) := by
  intro pins s σ H xs us Q I r h
  obtain ⟨i, rfl, q⟩ := h
  obtain ⟨u, rfl, t, rfl⟩ := vals1 r
  exact call_abs_int fun u tk => ⟨.int (if i < 0 then -i else i), H, I.tok _, ⟨_, rfl⟩, q⟩
theorem call_min2 (hc : X.calm = true) : CallR X (.builtin "min") (fun xs H Q => ∃ i j, xs = [.int i, .int j] ∧ Q (.int (if j < i then j else i)) H) := by
  intro pins s σ H xs us Q I r h
  obtain ⟨i, j, rfl, q⟩ := h
  obtain ⟨u, w', rfl, ⟨t, rfl⟩, ⟨t', rfl⟩⟩ := vals2 r
  refine min_two_ints (I.ok.hd hc) fun h' tk k => ⟨_, H, I.kept k, ?_, q⟩
  by_cases hj : j < i
  · rw [if_pos hj, if_pos hj]; exact ⟨_, rfl⟩
  · rw [if_neg hj, if_neg hj]; exact ⟨_, rfl⟩
theorem call_str_int : CallR X (.type "str") (fun xs H Q => ∃ i, xs = [.int i] ∧ i.natAbs.log2 < 1920 ∧ Q (.str (toString i)) H) := by
  intro pins s σ H xs us Q I r h
  obtain ⟨i, rfl, hz, q⟩ := h
  obtain ⟨u, rfl, t, rfl⟩ := vals1 r
  exact PySem.P.str_of_int hz ⟨.str _, H, I.tok _, ⟨_, rfl⟩, q⟩
end
end L2

namespace L2
open PySem PySem.Spec PyProof.Rows

structure ObjM (h : Heap) (x dx C : Addr) (mA : Str → Option Value) : Prop where
  obj : h.get? x = some (PySem.W.instObj C dx)
  ns : h.Ns1 dx mA
  ne : dx ≠ x

theorem lookIn_ns {h : Heap} {dx : Addr} {mA : Str → Option Value} (n : h.Ns1 dx mA) : ∃ od, h.get? dx = some od ∧ ∀ name, PySem.W.lookIn name od = some (mA name) := by
  obtain ⟨o, es, ep, ho, hd, hk, _, hm⟩ := n
  refine ⟨o, ho, fun name => ?_⟩
  have e := hm name
  unfold nsFind findBy at e
  rw [← Array.find?_toList] at e
  unfold PySem.W.lookIn
  rw [hd]
  dsimp only
  split
  · rename_i y q
    rw [q] at e
    exact congrArg some e
  · rename_i q
    rw [q] at e
    have a : es.toList.any (·.refKey) = false := by
      rw [List.any_eq_false]
      intro y hy
      obtain ⟨z, t, hkey⟩ := hk y (Array.mem_toList_iff.mp hy)
      simp [DictEntry.refKey, hkey]
    have a' : ¬ es.toList.any (·.refKey) = true := by rw [a]; exact Bool.false_ne_true
    rw [if_neg a']
    exact congrArg some e

theorem ObjM.look {h : Heap} {x dx C : Addr} {mA : Str → Option Value} (I : ObjM h x dx C mA) : ∃ od, PySem.W.InstAt h x (PySem.W.instObj C dx) C (some od) ∧ ∀ name, PySem.W.lookIn name od = some (mA name) :=
  let ⟨od, ho, hl⟩ := lookIn_ns I.ns
  ⟨od, ⟨I.obj, rfl, rfl, ho⟩, hl⟩

section
variable {prog : Program} {w : World} {A : Around} {E : Value → Shared → Prop} {s : Shared} {K : PySem.W.Frag} {x dx C f : Addr} {mA : Str → Option Value} {name : Str} {v : Value}





end


theorem RelO.some_of {v : V} {o : Option Value} (r : RelO (some v) o) : ∃ u, o = some u ∧ RelV v u := by
  cases o with
  | none => exact (show False from r).elim
  | some u => exact ⟨u, rfl, r⟩

section
variable {P : Program} {w : World} {H H' : Hp} {h h' : Heap} {a C dx : Addr} {fs fs' : List (Str × V)}
theorem ins_get (hok : HOk P w H h) (e : H a = some (.ins C dx fs)) : ∃ mA, ObjM h a dx C mA ∧ (∀ f, RelO (fs.lookup f) (mA f)) ∧ PySem.Within mA (fs.map (·.1)) ∧ fs.length ≤ 1000 ∧ H dx = some (.own a) := by
  obtain ⟨d, z, ne, ob, mA, n, r, q⟩ := (show ObjOk P w H h a (.ins C dx fs) from hok a _ e)
  exact ⟨mA, ⟨ob, n, ne⟩, r, q, z, d⟩
end

structure Cls (K : PySem.W.Frag) (C : Addr) : Prop where
  pg : PySem.W.plainGet K C Str.empty = true
  hd : PySem.W.hasDictIn K C = true
  po : PySem.W.plainOver K C = true
  sa : PySem.W.findIn K (.ref C) "__setattr__" = some (some (.builtin "object.__setattr__"))
theorem Cls.get {K : PySem.W.Frag} {C : Addr} (c : Cls K C) (f : Str) : PySem.W.plainGet K C f = true := c.pg
structure Con (K : PySem.W.Frag) (C : Addr) (f : Str) (v : V) (u : Value) : Prop where
  at_ : PySem.W.findIn K (.ref C) f = some (some u)
  rel : RelV v u
  get : PySem.W.specialIn K u "__get__" = some none
  cp : PySem.W.copiedNames.contains f = false
structure Meth (K : PySem.W.Frag) (C : Addr) (m : Str) (f : Addr) : Prop where
  at_ : PySem.W.findIn K (.ref C) m = some (some (.ref f))
  fn : PySem.W.isFn K (.ref f) = true
  kp : PySem.W.keepIn K (.ref f) = true

section
variable {X : Cx} {pins : List (Addr × Obj)} {σ : St} {H : Hp} {s : Shared} {a C dx : Addr} {fs : List (Str × V)} {f : Str} {v : V} {A : Around} {E : Value → Shared → Prop}






end


section
variable {X : Cx} {o e value : Expr} {f : Str} {pos pos' tpos : Pos} {ta tv : TE}

end

section
variable {X : Cx} {pins : List (Addr × Obj)} {σ : St} {H : Hp} {s : Shared} {A : Around} {E : Value → Shared → Prop} {Q : Value → Shared → Prop} {c : Value} {b : Bool}
inductive TyOf (K : PySem.W.Frag) (H : Hp) : V → Value → Prop where
  | non : TyOf K H .non (.type "NoneType")
  | bl (x : Bool) : TyOf K H (.bl x) (.type "bool")
  | int (i : Int) : TyOf K H (.int i) (.type "int")
  | str (x : Str) : TyOf K H (.str x) (.type "str")
  | flt (x : UInt64) : TyOf K H (.flt x) (.type "float")
  | lst {a : Addr} {xs : List V} (e : H a = some (.lst xs)) : TyOf K H (.ref a) (.type "list")
  | frz {a : Addr} {o : Obj} {xs : List V} (e : H a = some (.frz o (.lst xs))) : TyOf K H (.ref a) (.type "list")
  | tup {a : Addr} {xs : List V} (e : H a = some (.tup xs)) : TyOf K H (.ref a) (.type "tuple")
  | dK {a : Addr} {kvs : List (Key × V)} (e : H a = some (.dK kvs)) : TyOf K H (.ref a) (.type "dict")
  | dT {a : Addr} {kvs : List (List Key × V)} (e : H a = some (.dT kvs)) : TyOf K H (.ref a) (.type "dict")
  | ins {a C dx : Addr} {fs : List (Str × V)} (e : H a = some (.ins C dx fs)) (cl : Cls K C) (ha : PySem.W.findIn K (.ref C) "__class__" = some (some (.builtin "object.__class__")))
      (hn : PySem.W.specialIn K (.builtin "object.__class__") "__get__" = some (some (.builtin "getset_descriptor.__get__"))) (htk : PySem.W.takesIn K (.builtin "object.__class__") = some true)
      (hm : PySem.W.mroIn K C (.type "object") = some true) : TyOf K H (.ref a) (.ref C)
theorem isinst_ok {x : V} {u t : Value} (I : Inv X pins σ H s) (rx : RelV x u) (ty : TyOf X.K H x t) (e : PySem.W.kitOne X.K t c = some b) (h : ∀ tk, Q (.bool b) { s with toks := tk }) :
    wpAny (model X.prog X.w) A (call (.builtin "isinstance") [u, c]) Q E s := by
  cases ty with
  | non => cases (show u = Value.none from rx); exact PySem.W.kia_one PySem.W.kitx_none I.kIn True.intro e (fun z => nomatch z) h
  | bl y => cases (show u = Value.bool y from rx); exact PySem.W.kia_one PySem.W.kitx_bool I.kIn True.intro e (fun z => nomatch z) h
  | int i => obtain ⟨t, q⟩ := (show ∃ t, u = Value.int i t from rx); cases q; exact PySem.W.kia_one PySem.W.kitx_int I.kIn True.intro e (fun z => nomatch z) h
  | str y => obtain ⟨t, q⟩ := (show ∃ t, u = Value.str y t from rx); cases q; exact PySem.W.kia_one PySem.W.kitx_str I.kIn True.intro e (fun z => nomatch z) h
  | flt y => obtain ⟨t, q⟩ := (show ∃ t, u = Value.float y t from rx); cases q; exact PySem.W.kia_one PySem.W.kitx_float I.kIn True.intro e (fun z => nomatch z) h
  | @lst a xs ea =>
    cases (show u = Value.ref a from rx)
    obtain ⟨_, _, n, _, h1⟩ := (show ObjOk X.prog X.w H s.heap a (.lst xs) from I.hok a _ ea)
    exact PySem.W.kia_one PySem.W.kitx_list I.kIn ⟨_, h1, rfl⟩ e (fun z => nomatch z) h
  | @frz a ob xs ea =>
    cases (show u = Value.ref a from rx)
    obtain ⟨_, _, _, n, _, h1⟩ := (show ObjOk X.prog X.w H s.heap a (.frz ob (.lst xs)) from I.hok a _ ea)
    exact PySem.W.kia_one PySem.W.kitx_list I.kIn ⟨_, h1, rfl⟩ e (fun z => nomatch z) h
  | @tup a xs ea =>
    cases (show u = Value.ref a from rx)
    obtain ⟨_, _, _, p⟩ := (show ObjOk X.prog X.w H s.heap a (.tup xs) from I.hok a _ ea)
    obtain ⟨o, h1, h2, _⟩ := p
    exact PySem.W.kia_one PySem.W.kitx_tuple I.kIn ⟨o, h1, h2⟩ e (fun z => nomatch z) h
  | @dK a kvs ea =>
    cases (show u = Value.ref a from rx)
    obtain ⟨_, _, vs, _, p⟩ := (show ObjOk X.prog X.w H s.heap a (.dK kvs) from I.hok a _ ea)
    obtain ⟨o, es, ep, h1, h2, _⟩ := p
    exact PySem.W.kia_one PySem.W.kitx_dict I.kIn ⟨o, h1, h2.1⟩ e (fun z => nomatch z) h
  | @dT a kvs ea =>
    cases (show u = Value.ref a from rx)
    obtain ⟨_, _, xs, _, o, es, ep, h1, h2, _⟩ := (show ObjOk X.prog X.w H s.heap a (.dT kvs) from I.hok a _ ea)
    exact PySem.W.kia_one PySem.W.kitx_dict I.kIn ⟨o, h1, h2.1⟩ e (fun z => nomatch z) h
  | @ins a C dx fs ea cl ha hn htk hm =>
    cases (show u = Value.ref a from rx)
    obtain ⟨mA, O, _⟩ := ins_get I.hok ea
    obtain ⟨od, J, _⟩ := O.look
    exact PySem.W.kia_one (PySem.W.kitx_own (cl.get _) cl.hd ha hn htk hm) I.kIn J e (fun z => nomatch z) h
end
end L2

namespace L2
open PySem PySem.Spec PyProof.Rows

structure Room (k : Nat) (A : Around) : Prop where
  hd : A.handled = none
  dp : A.depth + 3 * k + 5 < recursionLimit
  un : A.units + 16 * k + 200 < cLine
theorem Room.mono {j k : Nat} {A : Around} (r : Room k A) (h : j ≤ k) : Room j A := ⟨r.hd, by have := r.dp; omega, by have := r.un; omega⟩
theorem Room.deeper {k : Nat} {A : Around} (r : Room (k + 1) A) (env : Env) : Room k (A.deeper env) :=
  ⟨r.hd, by have := r.dp; show A.depth + 1 + 3 * k + 5 < _; omega, by have := r.un; show A.units + 3 + 16 * k + 200 < _; omega⟩
theorem Room.depth {k : Nat} {A : Around} (r : Room k A) : A.depth < recursionLimit := by have := r.dp; omega
theorem Room.units {k : Nat} {A : Around} (r : Room k A) : A.units + 64 < cLine := by have := r.un; omega
theorem Room.units0 {k : Nat} {A : Around} (r : Room k A) : A.units < cLine := by have := r.un; omega

noncomputable def tNil : TA := fun _ H Q => Q [] H
noncomputable def tCons (ta : TE) (tr : TA) : TA := fun σ H Q => ta σ H fun x H1 => tr σ H1 fun xs H2 => Q (x :: xs) H2
section
variable {X : Cx} {e : Expr} {es : List Expr} {te : TE} {t : TA} {pos : Pos}
theorem pa_nil : PA X [] tNil := fun _ _ _ _ H Q I h => Calls.spliced_nil ⟨[], H, I, .nil, h⟩
theorem pa_cons (ha : PE X e te) (hr : PA X es t) (hs : starEach (e :: es) X.env = (false, eval e X.env) :: starEach es X.env := by rfl) : PA X (e :: es) (tCons te t) := by
  intro pos pins s σ H Q I h
  rw [hs]
  show wpAny _ _ (spliced ((false, eval e X.env) :: backTo pos (starEach es X.env))) _ _ s
  refine Calls.spliced_cons (thn (ha pins s σ H _ I h) fun u s1 ⟨x, H1, I1, r1, q1⟩ => ?_)
  exact thn (hr pos pins s1 σ H1 _ I1 q1) fun us s2 ⟨xs, H2, I2, r2, q2⟩ => ⟨x :: xs, H2, I2, .cons r1 r2, q2⟩

noncomputable def tTup (t : TA) : TE := fun σ H Q => t σ H fun xs H1 => xs.length ≤ sizeLine ∧ ∀ p, H1 p = none → Q (.ref p) (upd H1 p (.tup xs))
theorem pe_tup {x1} (h : PA X es t) : PE X (.Tuple es x1 pos) (tTup t) := by
  intro pins s σ H Q I hq
  refine wpAny_Tuple_spliced (thn (h pos pins s σ H _ I hq) fun us s1 ⟨xs, H1, I1, r, z, q⟩ => ⟨by rw [← r.length]; exact z, ?_⟩)
  have hf : H1 s1.heap.objs.size = none := I1.hok.fresh (Nat.le_refl _)
  refine ⟨.ref s1.heap.objs.size, upd H1 s1.heap.objs.size (.tup xs), I1.laid (t' := s1.toks) (fun b u e => Heap.get?_push_of_some _ e) (Nat.le_refl _) ?_, rfl, q _ hf⟩
  exact ⟨z, us, r, ⟨_, Heap.get?_push_size _ rfl, rfl, _, rfl⟩⟩
end

noncomputable abbrev Sp := List V → Hp → VK → XK → Prop
noncomputable abbrev CXT := List Env → Hp → Shared → XK → Value → Shared → Prop

structure Env0 (P : Program) (w : World) (K : PySem.W.Frag) (mg : Str → Option Value) (base : Heap) (A : Around) (outer : List Env) (s : Shared) (H : Hp) : Prop where
  frames : A.frames = some outer
  mod : Mod K mg base
  bs : ∀ b o, base.get? b = some o → s.heap.get? b = some o ∧ H b = none
  bsz : base.objs.size ≤ s.heap.objs.size
  funs : s.heap.FunFrames base outer
  frf : ∀ b ∈ frs outer, H b = none
  hok : HOk P w H s.heap
  bare : AllBare s.gens
noncomputable def CE (outer : List Env) (P : Program) (w : World) (H : Hp) (s : Shared) (Q : VK) (u : Value) (s' : Shared) : Prop :=
  ∃ v H', s'.os = s.os ∧ AllBare s'.gens ∧ Un (frs outer) [] H H' s.heap s'.heap ∧ HOk P w H' s'.heap ∧ RelV v u ∧ Q v H'
noncomputable def CR (CX : CXT) (outer : List Env) (P : Program) (w : World) (H : Hp) (s : Shared) (Q : VK) (E : XK) (r : Result) (s' : Shared) : Prop :=
  match r with
  | .ok (.ret u) => CE outer P w H s Q u s'
  | .ok _ => False
  | .error e => CX outer H s E e s'
structure FnOk (P : Program) (w : World) (K : PySem.W.Frag) (mg : Str → Option Value) (base : Heap) (CX : CXT) (k : Nat) (f : Addr) (fd : FuncData) (ps : List Str) (sp : Sp) : Prop where
  len : ∀ vs H Q E, sp vs H Q E → vs.length = ps.length
  run : ∀ (A : Around) (outer : List Env) (s : Shared) (H : Hp) (args : Args) (us : List Value) (vs : List V) (Q : VK) (E : XK), Room k A → Env0 P w K mg base A outer s H → BindsTo s fd args (ps.zip us) → Vals vs us → sp vs H Q E →
    codeAny (model P w) A (.call (.ref f) args) (CR CX outer P w H s Q E) s


section
variable {X : Cx} {pins : List (Addr × Obj)} {σ : St} {H : Hp} {s s' : Shared}
theorem Inv.env0 (I : Inv X pins σ H s) : Env0 X.prog X.w X.K X.mg X.base X.A X.stack s H :=
  ⟨I.ok.frames, I.ok.mod, I.bs, Nat.le_trans I.ok.bsz I.sz, I.stack, I.stkFree, I.hok, I.bare⟩
theorem Inv.after {Q : VK} {u : Value} (I : Inv X pins σ H s) (h : CE X.stack X.prog X.w H s Q u s') : EP X pins σ Q u s' := by
  obtain ⟨v, H', os, bare, un, hok, r, q⟩ := h
  obtain ⟨hh, g, d, t, os'⟩ := s'
  obtain rfl : os' = s.os := os
  exact ⟨v, H', I.call (h' := hh) (g' := g) (d' := d) (t' := t) (ch := []) un hok bare (fun b z => absurd z (by simp)), r, q⟩
end

noncomputable def tCall (sp : Sp) (dvs : List V) (E : XK) (t : TA) : TE := fun σ H Q => t σ H fun vs H1 => sp (vs ++ dvs) H1 Q E

noncomputable def Binds (K : PySem.W.Frag) (fd : FuncData) (ps : List Str) (ds : List Value) : Prop :=
  ∀ (s : Shared) (us : List Value), K.In s.heap → (us ++ ds).length = ps.length → BindsTo s fd ⟨us, []⟩ (ps.zip (us ++ ds))
theorem Binds.all {K : PySem.W.Frag} {fd : FuncData} {ps : List Str} (h : ∀ us : List Value, us.length = ps.length → bindArgs fd ⟨us, []⟩ = pure (ps.zip us)) : Binds K fd ps [] := fun s us _ hl => by
  rw [List.append_nil] at hl ⊢
  exact .of_eq (h us hl)

noncomputable def Passes (CX : CXT) (X : Cx) (E : XK) : Prop := ∀ (pins : List (Addr × Obj)) (σ : St) (H : Hp) (s : Shared) (e : Value) (s' : Shared), Inv X pins σ H s → CX X.stack H s E e s' → X.xe e s'

section
variable {X : Cx} {CX : CXT} {k : Nat} {f C : Addr} {fd : FuncData} {ps : List Str} {sp : Sp} {dvs : List V} {ds : List Value} {E : XK} {x m : Str} {p pos apos : Pos} {e o : Expr} {es : List Expr} {ta : TE} {t : TA}

theorem run_fn {pins : List (Addr × Obj)} {σ : St} {H : Hp} {s : Shared} {Q : VK} {us : List Value} {vs : List V} (F : FnOk X.prog X.w X.K X.mg X.base CX k f fd ps sp) (hr : Room k X.A) (hb : Binds X.K fd ps ds) (hd : Vals dvs ds) (hx : Passes CX X E)
    (I : Inv X pins σ H s) (r : Vals vs us) (h : sp (vs ++ dvs) H Q E) : wpAny (model X.prog X.w) X.A (call (.ref f) us) (EP X pins σ Q) X.xe s := by
  have r2 : Vals (vs ++ dvs) (us ++ ds) := r.append hd
  have hl : (us ++ ds).length = ps.length := by rw [← r2.length]; exact F.len _ _ _ _ h
  refine wpAny_call (codeAny_mono (F.run X.A X.stack s H ⟨us, []⟩ (us ++ ds) (vs ++ dvs) Q E hr I.env0 (hb s us I.kIn hl) r2 h) fun r s' hq => ?_)
  cases r with
  | error e => exact hx pins σ H s e s' I hq
  | ok fl =>
    cases fl with
    | ret u => exact I.after hq
    | next => exact False.elim hq
    | brk => exact False.elim hq
    | cont => exact False.elim hq

theorem pe_call (F : FnOk X.prog X.w X.K X.mg X.base CX k f fd ps sp) (hr : Room k X.A) (hg : Gl X x) (hm : X.mg x = some (.ref f)) (hk : PySem.W.keepIn X.K (.ref f) = true) (hb : Binds X.K fd ps ds) (hd : Vals dvs ds) (hx : Passes CX X E)
    (ha : PA X (e :: es) t) (hdb : (x == ("__debug__" : Str)) = false := by decide) (he : starEach (e :: es) X.env = (false, eval e X.env) :: starEach es X.env := by rfl) (hpl : (backTo pos (starEach es X.env)).any (·.1) = false := by rfl) :
    PE X (.Call (.Name x p) (e :: es) [] pos) (tCall sp dvs E t) := by
  intro pins s σ H Q I h
  refine wpAny_Call_Name_kw (ld_glob I hg hm ?_ hdb)
  refine PySem.W.callWith_K (h₀ := X.base) I.ok.mod.kin hk (thn (ha pos pins s σ H _ I h) fun us s1 ⟨vs, H1, I1, r, q⟩ => ⟨I1.kIn, ?_⟩) he hpl
  exact run_fn F hr hb hd hx I1 r q


structure Mk (K : PySem.W.Frag) (C f : Addr) : Prop where
  makes : PySem.W.makesIn K C = true
  init : PySem.W.findIn K (.ref C) "__init__" = some (some (.ref f))
  fn : PySem.W.isFn K (.ref f) = true
  kp : PySem.W.keepIn K (.ref C) = true

end

noncomputable def PK (X : Cx) (kws : List Keyword) (t : TA) : Prop :=
  ∀ (pos : Pos) (pins : List (Addr × Obj)) (s : Shared) (σ : St) (H : Hp) (Q : List V → Hp → Prop), Inv X pins σ H s → t σ H Q → wpAny (model X.prog X.w) X.A (evalAll ((backToKw pos (keywordEach kws X.env)).map (·.2))) (AP X pins σ Q) X.xe s
section
variable {X : Cx} {CX : CXT} {k : Nat} {f C : Addr} {fd : FuncData} {ps ks : List Str} {sp : Sp} {E : XK} {x m : Str} {p pos apos kpos : Pos} {e o : Expr} {es : List Expr} {kws : List Keyword} {te ta : TE} {t tk : TA} {nm : Option Str}
theorem pk_nil : PK X [] tNil := fun _ _ _ _ H Q I h => wpAny_evalAll_nil ⟨[], H, I, .nil, h⟩
theorem pk_cons (ha : PE X e te) (hr : PK X kws t) : PK X (⟨nm, e, kpos⟩ :: kws) (tCons te t) := by
  intro pos pins s σ H Q I h
  show wpAny _ _ (evalAll ((do let v ← eval e X.env; standAt pos; pure v) :: (backToKw pos (keywordEach kws X.env)).map (·.2))) _ _ s
  refine wpAny_evalAll_cons (wpAny_bind (thn (ha pins s σ H _ I h) fun u s1 ⟨x, H1, I1, r1, q1⟩ => wpAny_bind (wpAny_standAt (wpAny_pure ?_))))
  exact thn (hr pos pins s1 σ H1 _ I1 q1) fun us s2 ⟨xs, H2, I2, r2, q2⟩ => ⟨x :: xs, H2, I2, .cons r1 r2, q2⟩

structure KBinds (K : PySem.W.Frag) (fd : FuncData) (ps ks : List Str) (g : List Value → List Value → List Value) (gV : List V → List V → List V) : Prop where
  to : ∀ (s : Shared) (us ws : List Value), K.In s.heap → (g us ws).length = ps.length → BindsTo s fd ⟨us, ks.zip ws⟩ (ps.zip (g us ws))
  rel : ∀ {vs : List V} {us : List Value} {zs : List V} {ws : List Value}, Vals vs us → Vals zs ws → Vals (gV vs zs) (g us ws)
variable {g : List Value → List Value → List Value} {gV : List V → List V → List V}
end

structure FnScope (N P : List Str) (sc : Scope) : Prop where
  kind : sc.kind = .function
  co : sc.isCoroutine = false
  gen : sc.isGenerator = false
  nd : N.Nodup
  pre : N.take P.length = P
  par : ∀ x ∈ P, sc.names.lookup x = some .local ∨ sc.names.lookup x = some .cell
  nofree : ∀ y ∈ sc.names, y.2 ≠ .free

theorem bindL_out {kindOf : Str → Option NameKind} {x : Str} : ∀ {binds : List (Str × Value)} {m : Str → Option Value}, (∀ v, (x, v) ∉ binds) → bindL kindOf binds m x = m x
  | [], _, _ => rfl
  | (n, v) :: r, m, h => by
    unfold bindL
    rw [bindL_out fun w hw => h w (List.mem_cons_of_mem _ hw)]
    split
    · have : x ≠ n := by rintro rfl; exact h v List.mem_cons_self
      simp [this]
    · rfl
theorem bindC_out {kindOf : Str → Option NameKind} {x : Str} : ∀ {binds : List (Str × Value)} {m : Str → Option Value}, (∀ v, (x, v) ∉ binds) → bindC kindOf binds m x = m x
  | [], _, _ => rfl
  | (n, v) :: r, m, h => by
    unfold bindC
    rw [bindC_out fun w hw => h w (List.mem_cons_of_mem _ hw)]
    split
    · rfl
    · have : x ≠ n := by rintro rfl; exact h v List.mem_cons_self
      simp [this]
theorem bindL_get {kindOf : Str → Option NameKind} {x : Str} {v : Value} : ∀ {P : List Str} {vs : List Value} {i : Nat} {m : Str → Option Value}, P.Nodup → P[i]? = some x → vs[i]? = some v → kindOf x = some .local →
    bindL kindOf (P.zip vs) m x = some v
  | [], _, _, _, _, h, _, _ => by simp at h
  | _ :: _, [], _, _, _, _, h, _ => by simp at h
  | p :: P, w :: vs, 0, m, nd, h1, h2, hk => by
    simp at h1 h2; subst h1; subst h2
    show bindL kindOf ((p, w) :: P.zip vs) m p = _
    unfold bindL
    rw [bindL_out fun v hv => (List.nodup_cons.mp nd).1 (List.of_mem_zip hv).1, if_pos hk]
    simp
  | p :: P, w :: vs, i + 1, m, nd, h1, h2, hk => by
    show bindL kindOf ((p, w) :: P.zip vs) m x = _
    unfold bindL
    exact bindL_get (i := i) (List.nodup_cons.mp nd).2 (by simpa using h1) (by simpa using h2) hk
theorem bindC_get {kindOf : Str → Option NameKind} {x : Str} {v : Value} : ∀ {P : List Str} {vs : List Value} {i : Nat} {m : Str → Option Value}, P.Nodup → P[i]? = some x → vs[i]? = some v → kindOf x ≠ some .local →
    bindC kindOf (P.zip vs) m x = some v
  | [], _, _, _, _, h, _, _ => by simp at h
  | _ :: _, [], _, _, _, _, h, _ => by simp at h
  | p :: P, w :: vs, 0, m, nd, h1, h2, hk => by
    simp at h1 h2; subst h1; subst h2
    show bindC kindOf ((p, w) :: P.zip vs) m p = _
    unfold bindC
    rw [bindC_out fun v hv => (List.nodup_cons.mp nd).1 (List.of_mem_zip hv).1, if_neg hk]
    simp
  | p :: P, w :: vs, i + 1, m, nd, h1, h2, hk => by
    show bindC kindOf ((p, w) :: P.zip vs) m x = _
    unfold bindC
    exact bindC_get (i := i) (List.nodup_cons.mp nd).2 (by simpa using h1) (by simpa using h2) hk

noncomputable def start (N : List Str) (vs : List V) : St := vs.map some ++ List.replicate (N.length - vs.length) none

noncomputable def cxOf (CX : CXT) (P : Program) (w : World) (K : PySem.W.Frag) (mg : Str → Option Value) (base : Heap) (N : List Str) (qual : Str) (scope : Scope) (f : Addr) (cd : Value) (A : Around) (outer : List Env) (s : Shared) (H : Hp) (E : XK) : Cx where
  prog := P
  w := w
  K := K
  mg := mg
  base := base
  A := A.deeper (envOfC qual scope s.heap.objs.size f cd)
  N := N
  s₀ := s
  H₀ := H
  env := envOfC qual scope s.heap.objs.size f cd
  outer := outer
  stack := envOfC qual scope s.heap.objs.size f cd :: outer
  ex := []
  calm := true
  fn := fun _ => true
  pn := []
  xe := fun e s' => wpAny (model P w) (A.deeper (envOfC qual scope s.heap.objs.size f cd)) (leaving (envOfC qual scope s.heap.objs.size f cd) e) (fun _ s'' => CX outer H s E e s'') (fun e' s'' => CX outer H s E e' s'') s'

theorem cell_has {sc : Scope} {n : Nat} {x : Str} (h : sc.names.lookup x = some .cell) : ∃ c, (cellsFrom n sc.names []).lookup x = some c := by
  have q := PySem.W.cellsFrom_some sc.names n [] (.inl h)
  exact Option.isSome_iff_exists.mp q

theorem inv_start {CX : CXT} {P : Program} {w : World} {K : PySem.W.Frag} {mg : Str → Option Value} {base : Heap} {N ps : List Str} {qual : Str} {scope : Scope} {f : Addr} {cd : Value} {A : Around} {outer : List Env} {s s1 : Shared} {H : Hp} {E : XK} {us : List Value} {vs : List V}
    (S : FnScope N ps scope) (hd : A.handled = none) (e0 : Env0 P w K mg base A outer s H) (hl : vs.length = ps.length) (r : Vals vs us)
    (x : InCallC s s.heap.objs.size (bindL (envOfC qual scope s.heap.objs.size f cd).kindOf (ps.zip us) fun _ => none) (cellsFrom (s.heap.objs.size + 1) scope.names []) (bindC (envOfC qual scope s.heap.objs.size f cd).kindOf (ps.zip us) fun _ => none) s1) :
    Inv (cxOf CX P w K mg base N qual scope f cd A outer s H E) [] (start N vs) H s1 := by
  have hpl : ps.length ≤ N.length := by have := congrArg List.length S.pre; rw [List.length_take] at this; omega
  obtain ⟨h1, tk, rfl, hk⟩ := x.done
  have noA : ∀ b : Addr, b ∉ (cxOf CX P w K mg base N qual scope f cd A outer s H E).ex := fun b z => absurd (show b ∈ ([] : List Addr) from z) (by simp)
  refine ⟨⟨e0.mod, S.kind, rfl, rfl, Nat.le_refl _, fun y z c h1 h2 => ?_, fun y hy => ?_, fun y c _ h => ?_, fun _ => hd, Around.frames_deeper e0.frames, .inr ⟨rfl, rfl⟩, fun b z => absurd z (noA b), e0.bs, e0.bsz, fun b _ _ => noA b, fun b z => absurd z (noA b), e0.funs, e0.frf⟩,
    rfl, e0.bare, Un.kept hk, ⟨_, x.toInCall.ns, fun i y v h1 h2 h3 => ?_⟩, fun y c h => ⟨_, x.cell y c h⟩, e0.hok.fresh (Nat.le_refl _), fun y c h => ?_, fun p hp => absurd (show p ∈ ([] : List (Addr × Obj)) from hp) (by simp), e0.hok.kept hk, ?_⟩
  · exact name_of_addr x.apart (PySem.mem_of_lookup h1) (PySem.mem_of_lookup h2)
  · have hy : scope.names.lookup y = some .cell ∨ scope.names.lookup y = some .free := hy
    rcases hy with hy | hy
    · exact cell_has hy
    · exact absurd rfl (S.nofree _ (PySem.mem_of_lookup hy))
  · exact Nat.le_of_lt (x.above y c (PySem.mem_of_lookup h))
  · have hi : i < vs.length := by
      unfold start at h2
      by_cases hi : i < vs.length
      · exact hi
      · rw [List.getElem?_append_right (by simpa using hi)] at h2
        rw [List.getElem?_replicate] at h2
        split at h2 <;> cases h2
    have ha : vs[i]? = some v := by
      unfold start at h2
      rw [List.getElem?_append_left (by simpa using hi), List.getElem?_map] at h2
      cases e : vs[i]? with
      | none => rw [e] at h2; cases h2
      | some a => rw [e] at h2; cases h2; rfl
    obtain ⟨u, hu, rv⟩ := r.get ha
    have hp : ps[i]? = some y := by
      rw [← S.pre, List.getElem?_take_of_lt (by omega)]; exact h1
    have ndP : ps.Nodup := by rw [← S.pre]; exact S.nd.sublist (List.take_sublist _ _)
    refine ⟨u, rv, ?_⟩
    rcases S.par y (List.mem_of_getElem? hp) with k | k
    · exact .inl ⟨k, bindL_get ndP hp hu k⟩
    · obtain ⟨c, e⟩ := cell_has (n := s.heap.objs.size + 1) k
      refine .inr ⟨.inl k, c, e, ?_⟩
      have q := x.cell y c e
      rw [bindC_get ndP hp hu (by show scope.names.lookup y ≠ _; rw [k]; decide)] at q
      exact q
  · exact e0.hok.fresh (Nat.le_of_lt (x.above y c (PySem.mem_of_lookup h)))
  · unfold start
    show _ = N.length
    rw [List.length_append, List.length_map, List.length_replicate]
    omega

theorem fn_of {CX : CXT} {P : Program} {w : World} {K : PySem.W.Frag} {mg : Str → Option Value} {base : Heap} {k : Nat} {f : Addr} {name qual : Str} {params : Arguments} {body : List Stmt} {scope : Scope} {dV kV doc pm cdv ct oc : Value} {an od : Option Addr}
    {osl : Array (Option Value)} {N ps : List Str} {sp : Sp} (lk : K.lookup f = some ⟨oc, od, .func (PySem.W.fnOf name qual params body scope dV kV doc pm an cdv ct), osl⟩) (hcd : PySem.W.codeIn K cdv qual = true) (S : FnScope N ps scope)
    (len : ∀ vs H Q E, sp vs H Q E → vs.length = ps.length)
    (hbody : ∀ (A : Around) (outer : List Env) (s : Shared) (H : Hp) (vs : List V) (Q : VK) (E : XK), Room k (A.deeper (envOfC qual scope s.heap.objs.size f cdv)) → sp vs H Q E →
      ∃ t, PSs (cxOf CX P w K mg base N qual scope f cdv A outer s H E) body t ∧ t { nx := fun _ H' => Q .non H', rt := Q } (start N vs) H) :
    FnOk P w K mg base CX (k + 1) f (PySem.W.fnOf name qual params body scope dV kV doc pm an cdv ct) ps sp := by
  refine ⟨len, fun A outer s H args us vs Q E hr e0 hb r hsp => ?_⟩
  have hl := len _ _ _ _ hsp
  have KX : K.In s.heap := e0.mod.kin.keeps fun b o e => (e0.bs b o e).1
  have lim : s.heap.NoLimit := e0.mod.nolimit.keeps fun b o e => (e0.bs b o e).1
  have hkind : ∀ y ∈ ps.zip us, scope.names.lookup y.1 = some .local ∨ (scope.names.lookup y.1 = some .cell ∧ ((cellsFrom (s.heap.objs.size + 1) scope.names []).lookup y.1).isSome = true) := fun ⟨n, v⟩ hy => by
    rcases S.par n (List.of_mem_zip hy).1 with q | q
    · exact .inl q
    · exact .inr ⟨q, PySem.W.cellsFrom_some _ _ _ (.inl q)⟩
  refine codeAny_call_function hr.depth (KX _ _ lk) rfl S.co S.gen rfl (PySem.W.codeRec_of KX hcd) (hb _ _ _ _ ?_)
  refine wpAny_newFunctionEnv_cells S.kind hkind fun env he s1 x => ?_
  subst he
  refine ⟨lim.keeps x.toInCall.keep, codeAny_func ?_⟩
  obtain ⟨t, ht, hq⟩ := hbody A outer s H vs Q E (hr.deeper _) hsp
  have I : Inv (cxOf CX P w K mg base N qual scope f cdv A outer s H E) [] (start N vs) H s1 := inv_start S hr.hd e0 hl r x
  refine wpAny_mono (ht [] s1 (start N vs) H _ I hq) (fun fl s' hs => ?_) fun e s' hs => hs
  have fin : ∀ {σ' : St} {H' : Hp} {v : V} {u : Value}, Inv (cxOf CX P w K mg base N qual scope f cdv A outer s H E) [] σ' H' s' → RelV v u → Q v H' → CE outer P w H s Q u s' :=
    fun {σ' H' v u} J rv q => ⟨v, H', J.os, J.bare, J.base, J.hok, rv, q⟩
  cases fl with
  | ret u =>
    obtain ⟨v, σ', H', J, rv, q⟩ := hs
    exact fin J rv q
  | next =>
    obtain ⟨σ', H', J, q⟩ := hs
    exact fin (v := V.non) (u := Value.none) J rfl q
  | brk =>
    obtain ⟨_, _, _, q⟩ := hs
    exact False.elim q
  | cont =>
    obtain ⟨_, _, _, q⟩ := hs
    exact False.elim q
end L2

namespace L2
open PySem PySem.Spec PyProof.Rows
section
variable {X : Cx} {x : Str} {p pos : Pos} {e : Expr} {es : List Expr} {t : TA} {id T : String} {r : List V → Hp → VK → Prop}

noncomputable def tCB (r : List V → Hp → VK → Prop) (t : TA) : TE := fun σ H Q => t σ H fun vs H1 => r vs H1 Q
theorem pe_callB (hc : CallR X (.builtin id) r) (hg : Gl X x) (hm : X.mg x = none) (hv : bootBuiltins x = some (.builtin id)) (ha : PA X (e :: es) t) (hn : x ≠ "__name__" := by decide) (hdb : (x == ("__debug__" : Str)) = false := by decide)
    (he : starEach (e :: es) X.env = (false, eval e X.env) :: starEach es X.env := by rfl) (hpl : (backTo pos (starEach es X.env)).any (·.1) = false := by rfl) : PE X (.Call (.Name x p) (e :: es) [] pos) (tCB r t) := by
  intro pins s σ H Q I h
  refine wpAny_Call_Name_kw (ld_blt I hg hm hv ?_ hn hdb)
  exact PyProof.Rows.callWith_builtin1 (thn (ha pos pins s σ H _ I h) fun us s1 ⟨vs, H1, I1, r1, q1⟩ => hc pins s1 σ H1 vs us Q I1 r1 q1) he hpl
theorem pe_callTy (hc : CallR X (.type T) r) (hg : Gl X x) (hm : X.mg x = none) (hv : bootBuiltins x = some (.type T)) (ha : PA X (e :: es) t) (hn : x ≠ "__name__" := by decide) (hdb : (x == ("__debug__" : Str)) = false := by decide)
    (he : starEach (e :: es) X.env = (false, eval e X.env) :: starEach es X.env := by rfl) (hpl : (backTo pos (starEach es X.env)).any (·.1) = false := by rfl) : PE X (.Call (.Name x p) (e :: es) [] pos) (tCB r t) := by
  intro pins s σ H Q I h
  refine wpAny_Call_Name_kw (ld_blt I hg hm hv ?_ hn hdb)
  exact PyProof.Rows.callWith_type1 (thn (ha pos pins s σ H _ I h) fun us s1 ⟨vs, H1, I1, r1, q1⟩ => hc pins s1 σ H1 vs us Q I1 r1 q1) he hpl
end
end L2

namespace HT
open PySem PyProof.Rows



section
open PySem.SeqAt
open PySem.AutoSeq1 (wpAny_loadPart')
open PySem.MeetsSeq PySem.MeetsSeq2 PySem.MeetsSeq3

end

section
variable {prog : Program} {w : World} {A : Around} {E : Value → Shared → Prop} {s : Shared}


theorem cat_tup {t b : Addr} {vs ws : List Value} {Q : Value → Shared → Prop} (ht : IsTup s.heap t vs.toArray) (hb : IsTup s.heap b ws.toArray) (hv : vs ≠ [])
    (h1 : ws = [] → Q (.ref t) s) (h2 : ws ≠ [] → Q (.ref s.heap.objs.size) { s with heap := s.heap.push { cls := .type "tuple", data := .seq (vs ++ ws).toArray } })
    (hsz : vs.length + ws.length ≤ sizeLine) : wpAny (model prog w) A (binaryOp .Add (.ref t) (.ref b)) Q E s := by
  obtain ⟨⟨cls, dd, data, sl⟩, ho, hc, n, hd⟩ := id ht
  obtain ⟨⟨cls2, dd2, data2, sl2⟩, ho2, hc2, n2, hd2⟩ := id hb
  simp only at hc hd hc2 hd2
  subst hc hd hc2 hd2
  have e : vs.toArray ++ ws.toArray = (vs ++ ws).toArray := by simp
  by_cases hw : ws = []
  · exact concat_meets ⟨_, ho, rfl⟩ ⟨_, ho2, rfl⟩ noFill_tuple_add seq_tuple_add PySem.F.slot_tuple_add PySem.F.entry_tuple_add (PySem.F.args_tuple_add_2 _ _)
      (tuple_addW1 t b vs.toArray ws.toArray n n2 dd dd2 sl sl2 (by simpa using hv) (by simp [hw])) ⟨ho, ho2, h1 hw⟩
  · refine concat_meets ⟨_, ho, rfl⟩ ⟨_, ho2, rfl⟩ noFill_tuple_add seq_tuple_add PySem.F.slot_tuple_add PySem.F.entry_tuple_add (PySem.F.args_tuple_add_2 _ _)
      (tuple_addW2 t b vs.toArray ws.toArray n n2 dd dd2 sl sl2 (by simpa using hv) (by simpa using hw) (by rw [List.size_toArray, List.size_toArray]; exact hsz)) ⟨ho, ho2, ?_⟩
    rw [e]
    exact h2 hw

noncomputable def sIx (n d : Nat) : Option Int → Nat
  | none => d
  | some v => if v < 0 then (v + (n : Int)).toNat else min v.toNat n
theorem sIx_none (n d : Nat) : sIx n d none = d := rfl
theorem sIx_nat (n d k : Nat) : sIx n d (some (k : Int)) = min k n := by
  show (if (k : Int) < 0 then ((k : Int) + (n : Int)).toNat else min (k : Int).toNat n) = min k n
  rw [if_neg (by omega), Int.toNat_natCast]
theorem sIx_le (n d : Nat) (hd : d ≤ n) (o : Option Int) : sIx n d o ≤ n := by
  cases o with
  | none => exact hd
  | some v =>
    show (if v < 0 then (v + (n : Int)).toNat else min v.toNat n) ≤ n
    by_cases hv : v < 0
    · rw [if_pos hv]; omega
    · rw [if_neg hv]; exact Nat.min_le_right _ _
theorem clip_eq (v : Int) (n d : Nat) : (if v < 0 then max (v + (n : Int)) 0 else min v (n : Int)) = ((sIx n d (some v) : Nat) : Int) := by
  show (if v < 0 then max (v + (n : Int)) 0 else min v (n : Int)) = (((if v < 0 then (v + (n : Int)).toNat else min v.toNat n) : Nat) : Int)
  by_cases hv : v < 0
  · simp only [if_pos hv]; omega
  · simp only [if_neg hv]; omega
theorem adjust_gen (lo hi : Option Int) (n : Nat) : Builtin.Slice.sliceAdjust lo hi 1 (n : Int) = (((sIx n 0 lo : Nat) : Int), ((sIx n n hi : Nat) : Int)) := by
  have h1 : ¬ ((1 : Int) < 0) := by omega
  unfold Builtin.Slice.sliceAdjust
  simp only [h1, if_false]
  refine Prod.ext ?_ ?_
  · cases lo with
    | none => rfl
    | some v => exact clip_eq v n 0
  · cases hi with
    | none => rfl
    | some v => exact clip_eq v n n
theorem places_gen (i j : Nat) : Builtin.Slice.slicePlaces (i : Int) (j : Int) 1 = j - i := by
  unfold Builtin.Slice.slicePlaces
  have h1 : (1 : Int) > 0 := by omega
  simp only [h1, if_true, Int.ediv_one]
  split <;> omega
theorem slicePart_ {v : Value} {o : Option Int} {Q : Option Int → Shared → Prop} (p : IsPart v o) (h : Q o s) : wpAny (model prog w) A (Builtin.Slice.slicePartIndex v) Q E s := by
  cases p with
  | none => exact slicePart_none h
  | int i t => exact slicePart_int h
theorem sliceApplied_gen {sl : Addr} {vl vu : Value} {lo hi : Option Int} {n : Nat} {Q : Int × Int × Nat → Shared → Prop} (hs : s.heap.IsSliceOf sl vl vu .none) (pl : IsPart vl lo) (pu : IsPart vu hi)
    (h : Q (((sIx n 0 lo : Nat) : Int), 1, sIx n n hi - sIx n 0 lo) s) : wpAny (model prog w) A (Builtin.Slice.sliceApplied (.ref sl) (pure (n : Int))) Q E s := by
  obtain ⟨os, hos, hcs, hds⟩ := id hs
  unfold Builtin.Slice.sliceApplied Builtin.Slice.sliceFields
  refine wpAny_bind (wpAny_bind (wpAny_field hos hds (x := vl) rfl (wpAny_bind (wpAny_field hos hds (x := vu) rfl (wpAny_bind (wpAny_field hos hds (x := .none) rfl (wpAny_pure ?_)))))))
  refine wpAny_bind (slicePart_none ?_)
  show wpAny _ _ (if ((1 : Int) == 0) = true then _ else _) _ _ s
  rw [if_neg (by decide)]
  refine wpAny_bind (slicePart_ pl (wpAny_bind (slicePart_ pu (wpAny_bind (wpAny_pure ?_)))))
  show wpAny _ _ (match Builtin.Slice.sliceAdjust lo hi 1 (n : Int) with | (lo, hi) => pure (lo, (1 : Int), Builtin.Slice.slicePlaces lo hi 1)) _ _ s
  rw [adjust_gen lo hi n]
  show wpAny _ _ (pure (((sIx n 0 lo : Nat) : Int), (1 : Int), Builtin.Slice.slicePlaces ((sIx n 0 lo : Nat) : Int) ((sIx n n hi : Nat) : Int) 1)) _ _ s
  rw [places_gen]
  exact wpAny_pure h
theorem pick_gen (xs : Array Value) (i k : Nat) : ((List.range k).filterMap fun (m : Nat) => xs[((i : Int) + (m : Int) * 1).toNat]?).toArray = ((xs.toList.drop i).take k).toArray := by
  have e : (fun (m : Nat) => xs[((i : Int) + (m : Int) * 1).toNat]?) = fun m => xs[i + m]? := by
    funext m
    have : ((i : Int) + (m : Int) * 1).toNat = i + m := by omega
    rw [this]
  rw [e]
  have := pick_run xs i k
  rw [List.filterMap_map] at this
  have e2 : ((fun x => xs[x]?) ∘ fun x => i + x) = fun m => xs[i + m]? := rfl
  rw [e2] at this
  rw [this]

theorem getItem_tuple_cut {t sl : Addr} {items : Array Value} {vl vu : Value} {lo hi : Option Int} {Q : Value → Shared → Prop} (ht : IsTup s.heap t items) (hs : s.heap.IsSliceOf sl vl vu .none) (pl : IsPart vl lo) (pu : IsPart vu hi)
    (hw : ¬ (sIx items.size 0 lo = 0 ∧ sIx items.size items.size hi = items.size))
    (h : Q (.ref s.heap.objs.size) { s with heap := s.heap.push { cls := .type "tuple", data := .seq ((items.toList.drop (sIx items.size 0 lo)).take (sIx items.size items.size hi - sIx items.size 0 lo)).toArray } })
    (hsz : items.size ≤ sizeLine) : wpAny (model prog w) A (getItem (.ref t) (.ref sl)) Q E s := by
  have htake : sizeOk (.seq ((items.toList.drop (sIx items.size 0 lo)).take (sIx items.size items.size hi - sIx items.size 0 lo)).toArray) := by
    show ((items.toList.drop (sIx items.size 0 lo)).take (sIx items.size items.size hi - sIx items.size 0 lo)).toArray.size ≤ sizeLine
    rw [List.size_toArray, List.length_take, List.length_drop, Array.length_toList]
    omega
  have hj : sIx items.size items.size hi ≤ items.size := sIx_le _ _ (Nat.le_refl _) hi
  obtain ⟨os, hos, hcs, hds⟩ := id hs
  have hTs : s.TypeIs (.ref sl) "slice" := ⟨os, hos, hcs⟩
  unfold getItem
  try with_reducible refine wpAny_holding ?_
  first | refine wpAny_bind (wpAny_pure ?_) | skip
  refine wpAny_bind (wpAny_sequenceKey ht.typeIs (by decide) ?_)
  refine wpAny_bind (wpAny_callSpecial?_slot (name := Str.ofString "__getitem__") ht.typeIs PyProof.Rows.slot_tuple_getitem
    (wpAny_call_entry PyProof.Rows.slot_tuple_getitem ht.typeIs entry_tuple_getitem ?_ (args_tuple_getitem _ _)))
  show wpAny _ _ (Builtin.Tuple.tupleItemsOf (.ref t) >>= _) _ _ s
  refine wpAny_bind (tupleItemsOf_ ht ?_)
  refine wpAny_bind (wpAny_typeOf hTs ?_)
  rw [if_pos (by decide)]
  refine wpAny_bind (sliceApplied_gen hs pl pu ?_)
  have hno : ¬ ((((sIx items.size 0 lo : Nat) : Int) == 0 && (1 : Int) == 1 && (sIx items.size items.size hi - sIx items.size 0 lo) == items.size) = true) := by
    intro q
    rw [Bool.and_eq_true, Bool.and_eq_true] at q
    have q1 : ((sIx items.size 0 lo : Nat) : Int) = 0 := eq_of_beq q.1.1
    have q2 : sIx items.size items.size hi - sIx items.size 0 lo = items.size := eq_of_beq q.2
    exact hw ⟨by omega, by omega⟩
  show wpAny _ _ (if (((sIx items.size 0 lo : Nat) : Int) == 0 && (1 : Int) == 1 && (sIx items.size items.size hi - sIx items.size 0 lo) == items.size) = true then _ else _) _ _ s
  rw [if_neg hno, pick_gen]
  first
    | exact wpAny_bind (m := Builtin.Tuple.tupleExact _) (wpAny_newObj_type (wpAny_pure ⟨_, rfl, wpAny_pure h⟩) htake)
    | exact wpAny_bind (m := Builtin.Tuple.tupleExact _) (wpAny_newObj_type (wpAny_bind (wpAny_pure (wpAny_pure ⟨_, rfl, wpAny_pure h⟩))) htake)
    | exact wpAny_bind (wpAny_bind (m := Builtin.Tuple.tupleExact _) (wpAny_newObj_type (wpAny_pure (wpAny_pure ⟨_, rfl, wpAny_pure h⟩)) htake))
    | exact wpAny_bind (wpAny_bind (m := Builtin.Tuple.tupleExact _) (wpAny_newObj_type (wpAny_pure ⟨_, rfl, wpAny_pure h⟩) htake))
end
end HT

namespace L2
open PySem PySem.Spec PyProof.Rows

noncomputable abbrev TO := St → Hp → (Option Int → Hp → Prop) → Prop
noncomputable def PO (X : Cx) (e : Option Expr) (t : TO) : Prop :=
  ∀ (pins : List (Addr × Obj)) (s : Shared) (σ : St) (H : Hp) (Q : Option Int → Hp → Prop), Inv X pins σ H s → t σ H Q →
    wpAny (model X.prog X.w) X.A (evalPart e X.env) (fun u s' => ∃ o H', Inv X pins σ H' s' ∧ IsPart u o ∧ Q o H') X.xe s
noncomputable def tNoPart : TO := fun _ H Q => Q none H
noncomputable def tPart (t : TE) : TO := fun σ H Q => t σ H fun x H1 => ∃ i, x = .int i ∧ Q (some i) H1

theorem intsAre_of {ns : List Int} : ∀ {us : List Value}, Vals (ns.map V.int) us → IntsAre us ns := by
  induction ns with
  | nil => intro us r; rw [List.map_nil] at r; cases r; exact .nil
  | cons n ns ih =>
    intro us r
    rw [List.map_cons] at r
    cases r with
    | cons r1 r2 =>
      obtain ⟨t, e⟩ := r1
      subst e
      exact .cons n t (ih r2)

section
variable {X : Cx} {e : Expr} {te : TE} {lo hi : Option Expr} {tl th : TO} {pos p2 : Pos}

theorem po_none : PO X none tNoPart := by
  intro pins s σ H Q I h
  rw [evalPart_none]
  exact wpAny_pure ⟨none, H, I, .none, h⟩
theorem po_some (h : PE X e te) : PO X (some e) (tPart te) := by
  intro pins s σ H Q I hw
  rw [evalPart_some]
  refine thn (h pins s σ H _ I hw) fun u s1 ⟨x, H1, I1, r1, q1⟩ => ?_
  obtain ⟨i, rfl, q⟩ := q1
  obtain ⟨t, rfl⟩ := r1
  exact ⟨some i, H1, I1, .int i t, q⟩

noncomputable def SlR (X : Cx) (r : V → Option Int → Option Int → Hp → VK → Prop) : Prop :=
  ∀ (pins : List (Addr × Obj)) (s : Shared) (σ : St) (H : Hp) (x : V) (v vl vu : Value) (lo hi : Option Int) (sl : Addr) (Q : VK), Inv X pins σ H s → RelV x v → s.heap.IsSliceOf sl vl vu .none → IsPart vl lo → IsPart vu hi → r x lo hi H Q →
    ∃ T id, typeLookup (.type T) "__getitem__" = pure (some (.builtin id)) ∧ s.TypeIs v T ∧ wpAny (model X.prog X.w) X.A (getItem v (.ref sl)) (EP X pins σ Q) X.xe s
noncomputable def tSl (r : V → Option Int → Option Int → Hp → VK → Prop) (te : TE) (tl th : TO) : TE := fun σ H Q => te σ H fun x H1 => tl σ H1 fun l H2 => th σ H2 fun u H3 => r x l u H3 Q
theorem pe_slice {r : V → Option Int → Option Int → Hp → VK → Prop} (hr : SlR X r) (he : PE X e te) (hl : PO X lo tl) (hu : PO X hi th) : PE X (.Subscript e (.Slice lo hi none p2) pos) (tSl r te tl th) := by
  intro pins s σ H Q I h
  refine Subscript_ (thn (he pins s σ H _ I h) fun v s1 ⟨x, H1, I1, r1, q1⟩ => ?_)
  refine wpAny_Slice (thn (hl pins s1 σ H1 _ I1 q1) fun vl s2 ⟨l, H2, I2, pl, q2⟩ => thn (hu pins s2 σ H2 _ I2 q2) fun vu s3 ⟨u, H3, I3, pu, q3⟩ => ?_)
  rw [evalPart_none]
  refine wpAny_pure ?_
  have I4 : Inv X pins σ H3 { s3 with heap := s3.heap.push { cls := .type "slice", data := .fields #[vl, vu, .none] } } := I3.kept (t' := s3.toks) fun b ob q => Heap.get?_push_of_some _ q
  obtain ⟨T, id, hT, ht, hg⟩ := hr pins { s3 with heap := s3.heap.push { cls := .type "slice", data := .fields #[vl, vu, .none] } } σ H3 x v vl vu l u s3.heap.objs.size Q I4 r1 (Heap.IsSliceOf.new ..) pl pu q3
  show wpAny (model X.prog X.w) X.A (subscriptTail e (.Slice lo hi none p2) v (.ref s3.heap.objs.size)) (EP X pins σ Q) X.xe { s3 with heap := s3.heap.push { cls := .type "slice", data := .fields #[vl, vu, .none] } }
  exact tail_any (ops := [.ref s3.heap.objs.size, v]) ht hT hg (by with_unfolding_all rfl)

noncomputable def cutV (xs : List V) (lo hi : Option Int) : List V := (xs.drop (HT.sIx xs.length 0 lo)).take (HT.sIx xs.length xs.length hi - HT.sIx xs.length 0 lo)
theorem cutV_length (xs : List V) (lo hi : Option Int) : (cutV xs lo hi).length ≤ xs.length := by
  unfold cutV
  rw [List.length_take, List.length_drop]
  omega
noncomputable def rSlT (K : PySem.W.Frag) : V → Option Int → Option Int → Hp → VK → Prop := fun x lo hi H Q => ∃ a xs, x = .ref a ∧ SqT K H a xs ∧
  ¬ (HT.sIx xs.length 0 lo = 0 ∧ HT.sIx xs.length xs.length hi = xs.length) ∧ ∀ p, H p = none → Q (.ref p) (upd H p (.tup (cutV xs lo hi)))
theorem sl_tup : SlR X (rSlT X.K) := by
  intro pins s σ H x v vl vu lo hi sl Q I rx hs pl pu h
  obtain ⟨a, xs, rfl, hx, hw, q⟩ := h
  cases rx
  obtain ⟨its, r, ht, hz⟩ := I.tuple hx
  have hlen : its.toArray.size = xs.length := by rw [List.size_toArray]; exact r.length.symm
  refine ⟨"tuple", _, PyProof.Rows.slot_tuple_getitem.lookup, ht.typeIs, ?_⟩
  refine HT.getItem_tuple_cut ht hs pl pu (by rw [hlen]; exact hw) ?_ (by rw [hlen]; exact hz)
  rw [hlen]
  refine ⟨.ref s.heap.objs.size, _, I.laid (t' := s.toks) (o := .tup (cutV xs lo hi)) (fun b ob q => Heap.get?_push_of_some _ q) (Nat.le_refl _) ?_, rfl, q _ (I.hok.fresh (Nat.le_refl _))⟩
  exact ⟨Nat.le_trans (cutV_length xs lo hi) hz, _, (r.drop (HT.sIx xs.length 0 lo)).take (HT.sIx xs.length xs.length hi - HT.sIx xs.length 0 lo), IsTup.new _ _⟩

theorem Vals.nil_iff {xs : List V} {us : List Value} (r : Vals xs us) : us = [] ↔ xs = [] := by
  cases r with
  | nil => simp
  | cons _ _ => simp
end
end L2

namespace L2
open PySem PySem.Spec PyProof.Rows

noncomputable def ixN (n : Nat) (i : Int) : Option Nat := if 0 ≤ i then (if i < n then some i.toNat else none) else if -(n : Int) ≤ i then some (i + n).toNat else none
noncomputable def atI {α : Type} (xs : List α) (i : Int) : Option α := (ixN xs.length i).bind fun j => xs[j]?
theorem ixN_seq {n : Nat} {i : Int} {j : Nat} (h : ixN n i = some j) : seqIndex? i n = some j ∧ j < n ∧ -(n : Int) ≤ i ∧ i < n := by
  unfold ixN at h
  by_cases h0 : 0 ≤ i
  · rw [if_pos h0] at h
    by_cases h1 : i < n
    · rw [if_pos h1] at h
      have e : i.toNat = j := Option.some.inj h
      exact ⟨by rw [seqIndex_of h0 h1, e], by omega, by omega, h1⟩
    · rw [if_neg h1] at h; cases h
  · rw [if_neg h0] at h
    by_cases h1 : -(n : Int) ≤ i
    · rw [if_pos h1] at h
      have e : (i + n).toNat = j := Option.some.inj h
      exact ⟨by rw [seqIndex_neg (by omega) h1, e], by omega, h1, by omega⟩
    · rw [if_neg h1] at h; cases h
theorem atI_get {α : Type} {xs : List α} {i : Int} {v : α} (h : atI xs i = some v) : ∃ j, seqIndex? i xs.length = some j ∧ xs[j]? = some v ∧ j < xs.length ∧ -(xs.length : Int) ≤ i ∧ i < xs.length := by
  unfold atI at h
  cases e : ixN xs.length i with
  | none => rw [e] at h; cases h
  | some j =>
    rw [e] at h
    obtain ⟨h1, h2, h3, h4⟩ := ixN_seq e
    exact ⟨j, h1, h, h2, h3, h4⟩
theorem atI_nat {α : Type} {xs : List α} {j : Nat} {v : α} (h : xs[j]? = some v) : atI xs (j : Int) = some v := by
  have hj : j < xs.length := (List.getElem?_eq_some_iff.mp h).1
  have e : ixN xs.length (j : Int) = some j := by
    unfold ixN
    rw [if_pos (by omega), if_pos (by omega)]; simp
  unfold atI; rw [e]; exact h

noncomputable def PlainIx (b : Expr) : Prop := ∀ o i, subscripted b false o i = operate [o, i] (getItem o i)
noncomputable def IxR (X : Cx) (r : R2) : Prop :=
  ∀ (value slice : Expr) (pins : List (Addr × Obj)) (s : Shared) (σ : St) (H : Hp) (x y : V) (v u : Value) (Q : VK), Inv X pins σ H s → RelV x v → RelV y u → r x y H Q →
    subscripted slice false v u = operate [v, u] (getItem v u) → wpAny (model X.prog X.w) X.A (subscriptTail value slice v u) (EP X pins σ Q) X.xe s
noncomputable def MtR (X : Cx) (id : String) (r : V → List V → Hp → VK → Prop) : Prop :=
  ∀ (pins : List (Addr × Obj)) (s : Shared) (σ : St) (H : Hp) (x : V) (xs : List V) (v : Value) (us : List Value) (Q : VK), Inv X pins σ H s → RelV x v → Vals xs us → r x xs H Q →
    wpAny (model X.prog X.w) X.A (call (.builtin id) (v :: us)) (EP X pins σ Q) X.xe s
section
variable {X : Cx} {a b : Expr} {ta tb : TE} {pos : Pos}
theorem pe_ix {r : R2} (hr : IxR X r) (ha : PE X a ta) (hb : PE X b tb) (hs : PlainIx b) : PE X (.Subscript a b pos) (tOp r ta tb) := by
  intro pins s σ H Q I h
  exact Subscript_ (binT ha hb I h fun v u s2 x y H2 I2 rx ry q => hr a b pins s2 σ H2 x y v u Q I2 rx ry q (hs _ _))

noncomputable def rIxL (K : PySem.W.Frag) : R2 := fun x y H Q => ∃ p xs i v, x = .ref p ∧ y = .int i ∧ SqL K H p xs ∧ atI xs i = some v ∧ Q v H
noncomputable def rIxT (K : PySem.W.Frag) : R2 := fun x y H Q => ∃ p xs i v, x = .ref p ∧ y = .int i ∧ SqT K H p xs ∧ atI xs i = some v ∧ Q v H
theorem ix_list : IxR X (rIxL X.K) := by
  intro value slice pins s σ H x y v u Q I rx ry h hs
  obtain ⟨p, xs, i, z, rfl, rfl, hq, he, q⟩ := h
  cases rx
  obtain ⟨t, rfl⟩ := ry
  obtain ⟨its, r, pl, hz⟩ := I.list hq
  obtain ⟨j, h1, h2, h3, h4, h5⟩ := atI_get he
  obtain ⟨w, ew, rw'⟩ := r.get h2
  have hl := r.length
  have hn := line63
  have fin : EP X pins σ Q w s := ⟨z, H, I, rw', q⟩
  by_cases h0 : 0 ≤ i
  · have hj : i.toNat = j := by
      rw [seqIndex_of h0 h5] at h1
      exact Option.some.inj h1
    exact item_listR pl.isList h0 (by omega) (by rw [hj]; simpa using ew) fin hs
  · have hj : (i + (its.toArray.size : Int)).toNat = j := by
      rw [seqIndex_neg (by omega) h4] at h1
      rw [List.size_toArray, ← hl]
      exact Option.some.inj h1
    exact subscriptTail_builtinR (x := w) pl.isList.typeIs slot_list_getitem.lookup
      (wpAny_getItem_list_neg (Q := fun r s' => r = w ∧ EP X pins σ Q r s') pl.isList (by omega) (by rw [List.size_toArray] <;> omega) (by omega) (by rw [hj]; simpa using ew) ⟨rfl, fin⟩) hs
theorem ix_tup : IxR X (rIxT X.K) := by
  intro value slice pins s σ H x y v u Q I rx ry h hs
  obtain ⟨p, xs, i, z, rfl, rfl, hq, he, q⟩ := h
  cases rx
  obtain ⟨t, rfl⟩ := ry
  obtain ⟨its, r, pl, hz⟩ := I.tuple hq
  obtain ⟨j, h1, h2, h3, h4, h5⟩ := atI_get he
  obtain ⟨w, ew, rw'⟩ := r.get h2
  have hl := r.length
  have hn := line63
  have fin : EP X pins σ Q w s := ⟨z, H, I, rw', q⟩
  exact subscriptTail_builtinR (x := w) pl.typeIs slot_tuple_getitem.lookup
    (getItem_tuple (j := j) (Q := fun r s' => r = w ∧ EP X pins σ Q r s') pl (by omega) (by omega) (by rw [List.size_toArray, ← hl]; exact h1) (by simpa using ew) ⟨rfl, fin⟩) hs

theorem mapSeq_set (its : List Value) (n j : Nat) (u : Value) : Obj.mapSeq (·.setIfInBounds j u) { cls := .type "list", data := .seq its.toArray n } = { cls := .type "list", data := .seq (its.set j u).toArray n } := by
  simp [Obj.mapSeq]
theorem Inv.lst {pins : List (Addr × Obj)} {σ : St} {H : Hp} {s : Shared} {p : Addr} {xs : List V} (I : Inv X pins σ H s) (h : H p = some (.lst xs)) :
    ∃ (its : List Value) (n : Nat), Vals xs its ∧ s.heap.get? p = some { cls := .type "list", data := .seq its.toArray n } ∧ xs.length ≤ sizeLine := by
  obtain ⟨z, its, n, r, e⟩ := I.hok p _ h
  exact ⟨its, n, r, e, z⟩
theorem Inv.lstUpd {pins : List (Addr × Obj)} {σ : St} {H : Hp} {s : Shared} {p : Addr} {xs ys : List V} {its its' : List Value} {n n' : Nat} {f : Obj → Obj} (I : Inv X pins σ H s) (h : H p = some (.lst xs))
    (ho : s.heap.get? p = some { cls := .type "list", data := .seq its.toArray n }) (hf : f { cls := .type "list", data := .seq its.toArray n } = { cls := .type "list", data := .seq its'.toArray n' }) (r : Vals ys its') (hz : ys.length ≤ sizeLine) (t : Nat) :
    Inv X pins σ (upd H p (.lst ys)) { s with heap := s.heap.update p f, toks := t } := by
  have e : (s.heap.update p f).get? p = some { cls := .type "list", data := .seq its'.toArray n' } := by
    rw [Heap.get?_update_self f ho (by rw [hf] <;> rfl), hf]
  refine I.write (x := p) (e := p) (by rw [h]; trivial) (.inl rfl) (fun b u hb q => (Heap.get?_update_other _ _ (Ne.symm hb)).trans q) ⟨_, e⟩ ?_
  exact ⟨hz, its', n', r, e⟩
noncomputable def rSetL : V → V → V → Hp → (Hp → Prop) → Prop := fun o i v H Q => ∃ p xs k j, o = .ref p ∧ i = .int k ∧ H p = some (.lst xs) ∧ ixN xs.length k = some j ∧ Q (upd H p (.lst (xs.set j v)))
theorem set_list : PSet X rSetL := by
  intro pins s σ H o i v ov iv u Q I ro ri rv h
  obtain ⟨p, xs, k, j, rfl, rfl, hp, hj, q⟩ := h
  cases ro
  obtain ⟨t, rfl⟩ := ri
  obtain ⟨its, n, r, ho, hz⟩ := I.lst hp
  obtain ⟨h1, h2, h3, h4⟩ := ixN_seq hj
  have hl := r.length
  have hn := line63
  have I' : Inv X pins σ (upd H p (.lst (xs.set j v))) { s with heap := s.heap.update p (Obj.mapSeq (·.setIfInBounds j u)) } :=
    I.lstUpd hp ho (mapSeq_set its n j u) (r.set rv j) (by rw [List.length_set]; exact hz) s.toks
  by_cases h0 : 0 ≤ k
  · have hk : k.toNat = j := by
      rw [seqIndex_of h0 h4] at h1
      exact Option.some.inj h1
    exact PySem.W.ki_setAt ho h0 (by omega) (by rw [List.size_toArray, ← hl]; exact h4) (by rw [hk]; exact ⟨_, I', q⟩)
  · have hk : (k + (its.toArray.size : Int)).toNat = j := by
      rw [seqIndex_neg (by omega) h3] at h1
      rw [List.size_toArray, ← hl]
      exact Option.some.inj h1
    exact PySem.W.ki_setBack ho (by omega) (by rw [List.size_toArray, ← hl]; exact h3) (by omega) (by rw [hk]; exact ⟨_, I', q⟩)

theorem slice_bounds (lo hi : Option Int) (n : Nat) : (sliceBounds lo hi none n).1 = ((HT.sIx n 0 lo : Nat) : Int) ∧ (sliceBounds lo hi none n).2.1 = ((HT.sIx n n hi : Nat) : Int) ∧ (sliceBounds lo hi none n).2.2 = 1 := by
  refine ⟨?_, ?_, rfl⟩
  · cases lo with
    | none => simp [sliceBounds, HT.sIx]
    | some i =>
      simp only [sliceBounds, HT.sIx, Option.getD_none, show (1 : Int) > 0 by decide, if_true]
      by_cases h : i < 0
      · simp only [h, if_true] <;> omega
      · simp only [h, if_false] <;> omega
  · cases hi with
    | none => simp [sliceBounds, HT.sIx]
    | some i =>
      simp only [sliceBounds, HT.sIx, Option.getD_none, show (1 : Int) > 0 by decide, if_true]
      by_cases h : i < 0
      · simp only [h, if_true] <;> omega
      · simp only [h, if_false] <;> omega
theorem slicePick_cut (its : List Value) (lo hi : Option Int) : slicePick its.toArray lo hi none = ((its.drop (HT.sIx its.length 0 lo)).take (HT.sIx its.length its.length hi - HT.sIx its.length 0 lo)).toArray := by
  obtain ⟨h1, h2, h3⟩ := slice_bounds lo hi its.toArray.size
  unfold slicePick
  rw [h1, h2, h3]
  simp only [sliceRange_one, pick_run, List.size_toArray] <;> rfl
noncomputable def rSlL (K : PySem.W.Frag) : V → Option Int → Option Int → Hp → VK → Prop := fun x lo hi H Q => ∃ a xs, x = .ref a ∧ SqL K H a xs ∧ ∀ p, H p = none → Q (.ref p) (upd H p (.lst (cutV xs lo hi)))
theorem sl_list : SlR X (rSlL X.K) := by
  intro pins s σ H x v vl vu lo hi sl Q I rx hs pl pu h
  obtain ⟨a, xs, rfl, hx, q⟩ := h
  cases rx
  obtain ⟨its, r, ht, hz⟩ := I.list hx
  have hlen := r.length
  refine ⟨"list", _, slot_list_getitem.lookup, ht.isList.typeIs, ?_⟩
  refine wpAny_getItem_list_slice ht.isList hs pl pu .none (by simp) ?_ (by rw [List.size_toArray] <;> omega)
  rw [slicePick_cut, ← hlen]
  refine ⟨.ref s.heap.objs.size, _, I.laid (t' := s.toks) (o := .lst (cutV xs lo hi)) (fun b ob q => Heap.get?_push_of_some _ q) (Nat.le_refl _) ?_, rfl, q _ (I.hok.fresh (Nat.le_refl _))⟩
  exact ⟨Nat.le_trans (cutV_length xs lo hi) hz, _, 0, (r.drop (HT.sIx xs.length 0 lo)).take (HT.sIx xs.length xs.length hi - HT.sIx xs.length 0 lo), Heap.get?_push_size _ rfl⟩

noncomputable def flatV : V → Bool
  | .non => true
  | .bl _ => true
  | .int _ => true
  | .str _ => true
  | _ => false
noncomputable def eqV : V → V → Bool
  | .non, .non => true
  | .bl a, .bl b => a == b
  | .bl a, .int b => (if a then 1 else 0) == b
  | .int a, .bl b => a == (if b then 1 else 0)
  | .int a, .int b => a == b
  | .str a, .str b => a == b
  | _, _ => false
theorem eqAt_V {A : Around} {s : Shared} {y x : V} {u v : Value} (ry : RelV y u) (rx : RelV x v) (fy : flatV y = true) (fx : flatV x = true) : SeqAt.EqAt A s u v (eqV y x) := by
  cases y with
  | non =>
    cases ry
    cases x with
    | non => cases rx; exact SeqAt.EqAt.same _
    | bl b => cases rx; exact SeqAt.EqAt.none_bool b
    | int b => obtain ⟨t, rfl⟩ := rx; exact SeqAt.EqAt.none_int b t
    | str b => obtain ⟨t, rfl⟩ := rx; exact SeqAt.EqAt.none_str b t
    | _ => exact absurd (show false = true from fx) Bool.false_ne_true
  | bl a =>
    cases ry
    cases x with
    | non => cases rx; exact SeqAt.EqAt.bool_none a
    | bl b => cases rx; exact SeqAt.EqAt.bool_bool a b
    | int b => obtain ⟨t, rfl⟩ := rx; exact SeqAt.EqAt.bool_int a b t
    | str b => obtain ⟨t, rfl⟩ := rx; exact SeqAt.EqAt.bool_str a b t
    | _ => exact absurd (show false = true from fx) Bool.false_ne_true
  | int a =>
    obtain ⟨t', rfl⟩ := ry
    cases x with
    | non => cases rx; exact SeqAt.EqAt.int_none a t'
    | bl b => cases rx; exact SeqAt.EqAt.int_bool a t' b
    | int b => obtain ⟨t, rfl⟩ := rx; exact SeqAt.EqAt.int_int a t' b t
    | str b => obtain ⟨t, rfl⟩ := rx; exact SeqAt.EqAt.int_str a t' b t
    | _ => exact absurd (show false = true from fx) Bool.false_ne_true
  | str a =>
    obtain ⟨t', rfl⟩ := ry
    cases x with
    | non => cases rx; exact SeqAt.EqAt.str_none a t'
    | bl b => cases rx; exact SeqAt.EqAt.str_bool a t' b
    | int b => obtain ⟨t, rfl⟩ := rx; exact SeqAt.EqAt.str_int a t' b t
    | str b => obtain ⟨t, rfl⟩ := rx; exact SeqAt.EqAt.str_str a t' b t
    | _ => exact absurd (show false = true from fx) Bool.false_ne_true
  | _ => exact absurd (show false = true from fy) Bool.false_ne_true
noncomputable def eqU (x : V) (u : Value) : Bool := match u with
  | .none => eqV .non x
  | .bool b => eqV (.bl b) x
  | .int i _ => eqV (.int i) x
  | .str z _ => eqV (.str z) x
  | _ => false
theorem eqU_of {x y : V} {u : Value} (r : RelV y u) (f : flatV y = true) : eqU x u = eqV y x := by
  cases y with
  | non => cases r; rfl
  | bl b => cases r; rfl
  | int i => obtain ⟨t, rfl⟩ := r; rfl
  | str z => obtain ⟨t, rfl⟩ := r; rfl
  | _ => exact absurd (show false = true from f) Bool.false_ne_true
theorem any_eqU {x : V} : ∀ {xs : List V} {us : List Value}, Vals xs us → xs.all flatV = true → us.any (eqU x) = xs.any fun y => eqV y x
  | _, _, .nil, _ => rfl
  | y :: xs, u :: us, .cons r t, f => by
    rw [List.all_cons, Bool.and_eq_true] at f
    rw [List.any_cons, List.any_cons, eqU_of r f.1, any_eqU t f.2]
theorem mem_eqAt {A : Around} {s : Shared} {x : V} {v : Value} (rx : RelV x v) (fx : flatV x = true) : ∀ {xs : List V} {us : List Value}, Vals xs us → xs.all flatV = true → ∀ u ∈ us, SeqAt.EqAt A s u v (eqU x u)
  | _, _, .nil, _ => fun u hu => by cases hu
  | y :: xs, u :: us, .cons r t, f => fun u' hu => by
    rw [List.all_cons, Bool.and_eq_true] at f
    rcases List.mem_cons.mp hu with rfl | hu
    · rw [eqU_of r f.1]; exact eqAt_V r rx f.1 fx
    · exact mem_eqAt rx fx t f.2 u' hu
noncomputable def inV (x : V) (xs : List V) : Bool := xs.any fun y => eqV y x
noncomputable def rIn (K : PySem.W.Frag) (neg : Bool) : R2 := fun x y H Q => ∃ p xs, y = .ref p ∧ (SqL K H p xs ∨ SqT K H p xs) ∧ flatV x = true ∧ xs.all flatV = true ∧ Q (.bl (if neg then !inV x xs else inV x xs)) H
theorem op_in_seq : OpR X (compareOp .In) (rIn X.K false) := by
  intro pins s σ H x y v u Q I rx ry h
  obtain ⟨p, xs, rfl, hq, fx, fs, q⟩ := h
  cases ry
  rcases hq with hq | hq
  · obtain ⟨its, r, pl, hz⟩ := I.list hq
    refine SeqAt.in_listAt (eqU x) pl.isList (fun w hw => mem_eqAt rx fx r fs w (by simpa using hw)) ⟨.bl _, H, I, rfl, ?_⟩
    rw [show its.toArray.any (eqU x) = its.any (eqU x) by simp, any_eqU r fs]
    exact q
  · obtain ⟨its, r, pl, hz⟩ := I.tuple hq
    refine SeqAt.in_tupleAt (eqU x) pl (fun w hw => mem_eqAt rx fx r fs w (by simpa using hw)) ⟨.bl _, H, I, rfl, ?_⟩
    rw [show its.toArray.any (eqU x) = its.any (eqU x) by simp, any_eqU r fs]
    exact q
theorem op_notIn_seq : OpR X (compareOp .NotIn) (rIn X.K true) := by
  intro pins s σ H x y v u Q I rx ry h
  obtain ⟨p, xs, rfl, hq, fx, fs, q⟩ := h
  cases ry
  rcases hq with hq | hq
  · obtain ⟨its, r, pl, hz⟩ := I.list hq
    refine SeqAt.notIn_listAt (eqU x) pl.isList (fun w hw => mem_eqAt rx fx r fs w (by simpa using hw)) ⟨.bl _, H, I, rfl, ?_⟩
    rw [show its.toArray.any (eqU x) = its.any (eqU x) by simp, any_eqU r fs]
    exact q
  · obtain ⟨its, r, pl, hz⟩ := I.tuple hq
    refine SeqAt.notIn_tupleAt (eqU x) pl (fun w hw => mem_eqAt rx fx r fs w (by simpa using hw)) ⟨.bl _, H, I, rfl, ?_⟩
    rw [show its.toArray.any (eqU x) = its.any (eqU x) by simp, any_eqU r fs]
    exact q

theorem call_len_seq : CallR X (.builtin "len") (fun xs H Q => ∃ p ys, xs = [.ref p] ∧ (SqL X.K H p ys ∨ SqT X.K H p ys) ∧ Q (.int ys.length) H) := by
  intro pins s σ H xs us Q I r h
  obtain ⟨p, ys, rfl, hq, q⟩ := h
  obtain ⟨u, rfl, rx⟩ := vals1 r
  cases rx
  have hn := line63
  rcases hq with hq | hq
  · obtain ⟨its, r', pl, hz⟩ := I.list hq
    have hlen := r'.length
    exact Calls.call_len_list pl.isList (by simp only [List.size_toArray] <;> omega) ⟨.int ys.length, H, I.tok _, ⟨s.toks + 1, by rw [List.size_toArray, hlen]⟩, q⟩
  · obtain ⟨its, r', pl, hz⟩ := I.tuple hq
    have hlen := r'.length
    exact len_tuple pl (by simp only [List.size_toArray] <;> omega) ⟨.int ys.length, H, I.tok _, ⟨s.toks + 1, by rw [List.size_toArray, hlen]⟩, q⟩
theorem call_len_str : CallR X (.builtin "len") (fun xs H Q => ∃ z, xs = [.str z] ∧ z.length ≤ sizeLine ∧ Q (.int z.length) H) := by
  intro pins s σ H xs us Q I r h
  obtain ⟨z, rfl, hz, q⟩ := h
  obtain ⟨u, rfl, t, rfl⟩ := vals1 r
  have hn := line63
  exact len_str (by omega) ⟨.int z.length, H, I.tok _, ⟨_, rfl⟩, q⟩
theorem call_list_of : CallR X (.type "list") (fun xs H Q => ∃ p ys, xs = [.ref p] ∧ (SqL X.K H p ys ∨ SqT X.K H p ys) ∧ ∀ l, H l = none → Q (.ref l) (upd H l (.lst ys))) := by
  intro pins s σ H xs us Q I r h
  obtain ⟨p, ys, rfl, hq, q⟩ := h
  obtain ⟨u, rfl, rx⟩ := vals1 r
  cases rx
  have fin : ∀ (its : List Value), Vals ys its → ys.length ≤ sizeLine → ∀ (h' : Heap) (c' : Nat), (∀ b o', s.heap.get? b = some o' → h'.get? b = some o') →
      h'.get? s.heap.objs.size = some { cls := .type "list", dict := none, data := .seq its.toArray c', slots := #[] } → EP X pins σ Q (.ref s.heap.objs.size) { s with heap := h' } := fun its r' hz h' c' kp e =>
    ⟨.ref s.heap.objs.size, _, I.laid (t' := s.toks) kp (Nat.le_refl _) (show ObjOk X.prog X.w _ h' _ (.lst ys) from ⟨hz, its, c', r', e⟩), rfl, q _ (I.hok.fresh (Nat.le_refl _))⟩
  rcases hq with hq | hq
  · obtain ⟨its, r', pl, hz⟩ := I.list hq
    have hlen := r'.length
    obtain ⟨o, ho, hc, n, hd⟩ := pl.isList
    exact call_list_seq p (.inl rfl) ho hc hd (fun h' c' kp e => fin its r' hz h' c' kp e) (by simp only [List.size_toArray] <;> omega)
  · obtain ⟨its, r', pl, hz⟩ := I.tuple hq
    have hlen := r'.length
    obtain ⟨o, ho, hc, n, hd⟩ := pl
    exact call_list_seq p (.inr rfl) ho hc hd (fun h' c' kp e => fin its r' hz h' c' kp e) (by simp only [List.size_toArray] <;> omega)
theorem call_tuple_of : CallR X (.type "tuple") (fun xs H Q => ∃ p ys, xs = [.ref p] ∧ ((SqL X.K H p ys ∧ ∀ l, H l = none → Q (.ref l) (upd H l (.tup ys))) ∨ (SqT X.K H p ys ∧ Q (.ref p) H))) := by
  intro pins s σ H xs us Q I r h
  obtain ⟨p, ys, rfl, h⟩ := h
  obtain ⟨u, rfl, rx⟩ := vals1 r
  cases rx
  rcases h with ⟨hq, q⟩ | ⟨hq, q⟩
  · obtain ⟨its, r', pl, hz⟩ := I.list hq
    have hlen := r'.length
    refine call_tuple_list pl.isList (fun h' kp => ?_) (by simp only [List.size_toArray] <;> omega)
    have I1 : Inv X pins σ H { s with heap := h' } := I.kept (t' := s.toks) kp
    have I2 : Inv X pins σ (upd H h'.objs.size (.tup ys)) { s with heap := h'.push { cls := .type "tuple", data := .seq its.toArray } } :=
      I1.laid (t' := s.toks) (fun b o e => Heap.get?_push_of_some _ e) (Nat.le_refl _) (show ObjOk X.prog X.w _ _ _ (.tup ys) from ⟨hz, its, r', IsTup.new _ _⟩)
    exact ⟨.ref h'.objs.size, _, I2, rfl, q _ (I1.hok.fresh (Nat.le_refl _))⟩
  · obtain ⟨its, r', pl, hz⟩ := I.tuple hq
    exact call_tuple_same pl ⟨.ref p, H, I, rfl, q⟩

noncomputable def tyV (K : PySem.W.Frag) (T : String) (x : V) (H : Hp) : Prop := match x with
  | .str _ => T = "str"
  | .int _ => T = "int"
  | .ref p => (T = "list" ∧ ∃ xs, SqL K H p xs) ∨ (T = "tuple" ∧ ∃ o, K.lookup p = some o ∧ o.cls = .type "tuple" ∧ o.dict = none) ∨
      (T = "dict" ∧ ((∃ kvs, H p = some (.dK kvs)) ∨ ∃ kvs, H p = some (.dT kvs))) ∨ (T = "set" ∧ ∃ S n, H p = some (.set S n))
  | _ => False
theorem tyV_is {pins : List (Addr × Obj)} {σ : St} {H : Hp} {s : Shared} {T : String} {x : V} {v : Value} (I : Inv X pins σ H s) (r : RelV x v) (ty : tyV X.K T x H) :
    s.TypeIs v T ∧ ∀ a, v = .ref a → ∃ ob, s.heap.get? a = some ob ∧ ob.dict = none := by
  cases x with
  | str z =>
    obtain ⟨t, rfl⟩ := r
    cases (show T = "str" from ty)
    exact ⟨typeIs_str s z t, fun _ e => nomatch e⟩
  | int i =>
    obtain ⟨t, rfl⟩ := r
    cases (show T = "int" from ty)
    exact ⟨typeIs_int s i t, fun _ e => nomatch e⟩
  | ref p =>
    cases r
    rcases ty with ⟨rfl, xs, hq⟩ | ⟨rfl, o, hk, hc, hd⟩ | ⟨rfl, hk⟩ | ⟨rfl, S, n, hk⟩
    · obtain ⟨its, _, pl, _⟩ := I.list hq
      refine ⟨pl.isList.typeIs, fun a e => ?_⟩
      cases e
      obtain ⟨o, n, e, c, hd, _⟩ := pl
      exact ⟨o, e, hd⟩
    · refine ⟨⟨o, I.kIn p o hk, hc⟩, fun a e => ?_⟩
      cases e
      exact ⟨o, I.kIn _ o hk, hd⟩
    · have z : ∃ o, s.heap.get? p = some o ∧ o.ExactDict := by
        rcases hk with ⟨kvs, hk⟩ | ⟨kvs, hk⟩
        · obtain ⟨_, _, _, _, o, _, _, e, ex, _⟩ := I.hok p _ hk
          exact ⟨o, e, ex⟩
        · obtain ⟨_, _, _, _, o, _, _, e, ex, _⟩ := I.hok p _ hk
          exact ⟨o, e, ex⟩
      obtain ⟨o, e, ex⟩ := z
      refine ⟨⟨o, e, ex.1⟩, fun a e2 => ?_⟩
      cases e2
      exact ⟨o, e, ex.2.1⟩
    · obtain ⟨o, _, _, _, e, ex, _⟩ := I.hok p _ hk
      refine ⟨⟨o, e, ex.1⟩, fun a e2 => ?_⟩
      cases e2
      exact ⟨o, e, ex.2.1⟩
  | _ => exact False.elim ty
noncomputable def tBM0 (K : PySem.W.Frag) (T : String) (r : V → List V → Hp → VK → Prop) (to : TE) : TE := fun σ H Q => to σ H fun x H1 => tyV K T x H1 ∧ r x [] H1 Q
noncomputable def tBM (K : PySem.W.Frag) (T : String) (r : V → List V → Hp → VK → Prop) (to : TE) (t : TA) : TE := fun σ H Q => to σ H fun x H1 => tyV K T x H1 ∧ t σ H1 fun xs H2 => r x xs H2 Q
variable {o e : Expr} {es : List Expr} {to : TE} {t : TA} {name : Str} {apos cpos : Pos} {T id : String} {r : V → List V → Hp → VK → Prop}
theorem pe_bm0 (pa : PlainAttrs T) (slot : Slot T name id) (hty : typeOf (.builtin id) = pure (.type "method_descriptor")) (hm : MtR X id r) (ho : PE X o to)
    (hbase : attributeBase o name X.env (eval o X.env) = eval o X.env := by rfl) (hline : (apos.endLine == cpos.line) = true := by rfl) : PE X (.Call (.Attribute o name apos) [] [] cpos) (tBM0 X.K T r to) := by
  intro pins s σ H Q I h
  refine wpAny_Call_method0_late hbase hline (thn (ho pins s σ H _ I h) fun v s1 ⟨x, H1, I1, r1, ty, q1⟩ => ?_)
  obtain ⟨h1, h2⟩ := tyV_is I1 r1 ty
  exact ⟨T, id, pa, slot, hty, h1, h2, Calls.callWith_builtin rfl (PySem.evalArgs_none (hm pins s1 σ H1 x [] v [] Q I1 r1 .nil q1))⟩
theorem pe_bm (pa : PlainAttrs T) (slot : Slot T name id) (hty : typeOf (.builtin id) = pure (.type "method_descriptor")) (hm : MtR X id r) (ho : PE X o to) (ha : PA X (e :: es) t)
    (hbase : attributeBase o name X.env (eval o X.env) = eval o X.env := by rfl)
    (hfew : ((backTo cpos (starEach (e :: es) X.env)).all (fun x => !x.1) && (backToKw cpos (keywordEach [] X.env)).all (fun x => x.1.isSome)
      && decide ((e :: es).length + ([] : List Keyword).length + (if ([] : List Keyword).isEmpty then 0 else 1) < 30)) = true := by rfl)
    (hline : (apos.endLine == cpos.line) = true := by rfl) (hs : starEach (e :: es) X.env = (false, eval e X.env) :: starEach es X.env := by rfl) (hplain : (backTo cpos (starEach es X.env)).any (·.1) = false := by rfl) :
    PE X (.Call (.Attribute o name apos) (e :: es) [] cpos) (tBM X.K T r to t) := by
  intro pins s σ H Q I h
  refine wpAny_Call_method_late hbase hfew hline rfl (thn (ho pins s σ H _ I h) fun v s1 ⟨x, H1, I1, r1, ty, q1⟩ => ?_)
  obtain ⟨h1, h2⟩ := tyV_is I1 r1 ty
  refine ⟨T, id, pa, slot, hty, h1, h2, ?_⟩
  have hA := ha cpos pins s1 σ H1 _ I1 q1
  rw [hs] at hA ⊢
  refine Calls.callWith_builtin (by show (false || (backTo cpos (starEach es X.env)).any (·.1)) = false; rw [hplain] <;> rfl) (Calls.evalArgs_plain ?_)
  exact thn hA fun us s2 ⟨vs, H2, I2, r2, q2⟩ => hm pins s2 σ H2 x vs v us Q I2 r1 r2 q2
/- xs.append(e), list.index on a module's tuple .. are MtR facts of 06m -/
end
end L2

namespace L2
open PySem PySem.Spec PyProof.Rows

noncomputable def MtM (X : Cx) (id : String) (r : V → List V → Hp → VK → Prop) : Prop :=
  ∀ (pins : List (Addr × Obj)) (s : Shared) (σ : St) (H : Hp) (x : V) (xs : List V) (v : Value) (us : List Value) (Q : VK), Inv X pins σ H s → RelV x v → Vals xs us → r x xs H Q →
    wpAny (model X.prog X.w) X.A (call (.builtin id) (v :: us)) (EP X pins σ Q) X.xe s

theorem Vals.one : ∀ {x : V} {us : List Value}, Vals [x] us → ∃ u, us = [u] ∧ RelV x u
  | _, _, .cons r .nil => ⟨_, rfl, r⟩
theorem Vals.rep {xs : List V} {us : List Value} (h : Vals xs us) : ∀ k : Nat, Vals (List.replicate k xs).flatten (List.replicate k us).flatten
  | 0 => .nil
  | k + 1 => by
    rw [List.replicate_succ, List.replicate_succ, List.flatten_cons, List.flatten_cons]
    exact Vals.append h (Vals.rep h k)
theorem foldl_rep (its : List Value) : ∀ (k : Nat) (acc : List Value),
    List.foldl (fun x1 x2 => x1 ++ x2) acc.toArray (List.replicate k its.toArray) = (acc ++ (List.replicate k its).flatten).toArray
  | 0, acc => by simp
  | k + 1, acc => by
    have e : acc.toArray ++ its.toArray = (acc ++ its).toArray := by simp
    have e2 : (acc ++ its) ++ (List.replicate k its).flatten = acc ++ (List.replicate (k + 1) its).flatten := by
      rw [List.replicate_succ, List.flatten_cons, List.append_assoc]
    rw [← e2, ← foldl_rep its k (acc ++ its), ← e, List.replicate_succ, List.foldl_cons]

section
variable {X : Cx} {pins : List (Addr × Obj)} {σ : St} {H : Hp} {s : Shared} {l b : Addr} {xs ys zs : List V}

theorem Inv.lset {its its' : List Value} {n : Nat} {f : Array Value → Array Value} {t' : Nat} (I : Inv X pins σ H s) (hH : H l = some (.lst xs))
    (e : s.heap.get? l = some { cls := .type "list", data := .seq its.toArray n }) (hf : f its.toArray = its'.toArray) (hv : Vals ys its') (hz : ys.length ≤ sizeLine) :
    Inv X pins σ (upd H l (.lst ys)) { s with heap := s.heap.update l (Obj.mapSeq f), toks := t' } := by
  have q := PySem.IsL.update e f
  rw [hf] at q
  refine I.write (x := l) (e := l) (by rw [hH]; exact trivial) (.inl rfl) (fun b' u hb hu => (Heap.get?_update_other s.heap (Obj.mapSeq f) (Ne.symm hb)).trans hu) ⟨_, q⟩ ?_
  exact ⟨hz, its', _, hv, q⟩
theorem Inv.lnew {its : List Value} {t' : Nat} (I : Inv X pins σ H s) (hv : Vals ys its) (hz : ys.length ≤ sizeLine) :
    Inv X pins σ (upd H s.heap.objs.size (.lst ys)) { s with heap := s.heap.push { cls := .type "list", data := .seq its.toArray }, toks := t' } :=
  I.laid (fun _ _ q => Heap.get?_push_of_some _ q) (Nat.le_refl _) ⟨hz, its, 0, hv, Heap.get?_push_size _ rfl⟩
theorem Inv.fresh (I : Inv X pins σ H s) : H s.heap.objs.size = none := I.hok.fresh (Nat.le_refl _)
theorem Inv.lstM (I : Inv X pins σ H s) (hH : H l = some (.lst xs)) : xs.length ≤ sizeLine ∧ ∃ (its : List Value) (n : Nat), Vals xs its ∧ xs.length = its.length ∧ s.heap.get? l = some { cls := .type "list", data := .seq its.toArray n } := by
  obtain ⟨z, its, n, r, e⟩ := I.hok l _ hH
  exact ⟨z, its, n, r, r.length, e⟩

theorem notLongL {n : Nat} (h : n ≤ sizeLine) : Builtin.List.listTooLong n = false := by
  unfold Builtin.List.listTooLong
  exact decide_eq_false (by omega)
end

section
variable {X : Cx}

noncomputable def rAppend : V → List V → Hp → VK → Prop := fun x vs H Q => ∃ l xs y, x = .ref l ∧ vs = [y] ∧ H l = some (.lst xs) ∧ xs.length < sizeLine ∧ Q .non (upd H l (.lst (xs ++ [y])))
theorem mt_append : MtM X "list.append" rAppend := by
  intro pins s σ H x vs v us Q I rx rv h
  obtain ⟨l, xs, y, rfl, rfl, hH, hz, q⟩ := h
  cases rx
  obtain ⟨u, rfl, ru⟩ := rv.one
  obtain ⟨z, its, n, r, hl, e⟩ := I.lstM hH
  refine call_meets F.slot_list_append ⟨_, e, rfl⟩ F.entry_list_append (F.args_list_append_2 _ _) (PySem.list_append l its.toArray n u (by rw [List.size_toArray]; omega)) ⟨e, ?_⟩
  refine ⟨.non, _, I.lset (its' := its ++ [u]) hH e (by simp) (r.append (.cons ru .nil)) ?_, rfl, q⟩
  rw [List.length_append, List.length_singleton]
  omega

noncomputable def rExtend : V → List V → Hp → VK → Prop := fun x vs H Q => ∃ l b xs zs, x = .ref l ∧ vs = [.ref b] ∧ H l = some (.lst xs) ∧ H b = some (.lst zs) ∧ xs.length + zs.length ≤ sizeLine ∧ Q .non (upd H l (.lst (xs ++ zs)))
theorem mt_extend : MtM X "list.extend" rExtend := by
  intro pins s σ H x vs v us Q I rx rv h
  obtain ⟨l, b, xs, zs, rfl, rfl, hH, hB, hz, q⟩ := h
  cases rx
  obtain ⟨u, rfl, ru⟩ := rv.one
  cases ru
  obtain ⟨z, its, n, r, hl, e⟩ := I.lstM hH
  obtain ⟨z2, its2, n2, r2, hl2, e2⟩ := I.lstM hB
  have hsz : its.toArray.size + its2.toArray.size ≤ sizeLine := by rw [List.size_toArray, List.size_toArray]; omega
  have hlong : ¬ (!its.toArray.isEmpty && Builtin.List.listTooLong (its.toArray.size + its2.toArray.size)) = true := by
    rw [notLongL hsz, Bool.and_false]
    exact Bool.false_ne_true
  refine call_meets F.slot_list_extend ⟨_, e, rfl⟩ F.entry_list_extend (F.args_list_extend_2 _ _)
    (AutoSeq1.list_extend_list_list_0 l its.toArray n b its2.toArray n2 hlong (by rw [List.size_toArray]; omega) (by omega)) ⟨e, e2, ?_⟩
  refine ⟨.non, _, I.lset (its' := its ++ its2) hH e (by simp) (r.append r2) ?_, rfl, q⟩
  rw [List.length_append]
  omega





noncomputable def rRep : R2 := fun x y H Q => ∃ l k xs, x = .ref l ∧ y = .int k ∧ H l = some (.lst xs) ∧ -(2 ^ 63) ≤ k ∧ k < 2 ^ 63 ∧ xs.length * k.toNat ≤ sizeLine ∧
  ∀ p, H p = none → Q (.ref p) (upd H p (.lst (List.replicate k.toNat xs).flatten))
theorem len_rep {α : Type} (xs : List α) (k : Nat) : (List.replicate k xs).flatten.length = k * xs.length := by
  induction k with
  | zero => simp
  | succ k ih => rw [List.replicate_succ, List.flatten_cons, List.length_append, ih, Nat.succ_mul, Nat.add_comm]
theorem op_rep : OpR X (binaryOp .Mult) rRep := by
  intro pins s σ H x y v u Q I rx ry h
  obtain ⟨l, k, xs, rfl, rfl, hH, h1, h2, hz, q⟩ := h
  cases rx
  obtain ⟨t, rfl⟩ := ry
  obtain ⟨z, its, n, r, hl, e⟩ := I.lstM hH
  have hlen : its.toArray.size * k.toNat ≤ sizeLine := by rw [List.size_toArray, ← hl]; exact hz
  have hcap : ¬ its.toArray.size * k.toNat > (2 ^ 63 - 1) / 8 := by
    have : (sizeLine : Nat) ≤ (2 ^ 63 - 1) / 8 := by decide
    omega
  have hfit : ¬ (!Builtin.List.listFitsIndex k) = true := by
    rw [fitsIndex_both h1 h2]
    exact Bool.false_ne_true
  have hlong : ¬ Builtin.List.listTooLong (its.toArray.size * k.toNat) = true := by
    rw [notLongL hlen]
    exact Bool.false_ne_true
  have hnew : List.foldl (fun x1 x2 => x1 ++ x2) #[] (List.replicate (if its.toArray.isEmpty = true then 0 else k.toNat) its.toArray) = (List.replicate k.toNat its).flatten.toArray := by
    have f0 : ∀ m : Nat, List.foldl (fun x1 x2 => x1 ++ x2) #[] (List.replicate m its.toArray) = (List.replicate m its).flatten.toArray := fun m => by
      have := foldl_rep its m []
      rw [List.nil_append] at this
      exact this
    rw [f0]
    cases its with
    | nil => simp
    | cons a r' => rw [if_neg (by simp)]
  refine wpAny_binaryOp_repeat_ref (T := "list") (U := "int") (by decide) ⟨_, e, rfl⟩ (fun s' => typeIs_int s' k t) noFill_list_mul F.fills_int_mul F.slot_int_rmul repeat_list F.slot_int_index.lookup
    (call_meets F.slot_int_rmul (typeIs_int s k t) F.entry_int_rmul (F.args_int_rmul_2 _ _) (int___rmul___int_list k t l its.toArray n)
      ⟨e, rfl, ⟨_, e, rfl⟩, call_meets F.slot_list_mul ⟨_, e, rfl⟩ F.entry_list_mul (F.args_list_mul_2 _ _) (AutoListH.list___mul___list_int_3 l its.toArray n k t hfit hcap hlong) ⟨e, ?_⟩⟩)
  rw [hnew]
  exact ⟨.ref _, _, I.lnew (t' := s.toks) (r.rep k.toNat) (by rw [len_rep, Nat.mul_comm]; exact hz), rfl, q _ I.fresh⟩

end

section
variable {prog : Program} {w : World} {A : Around} {E : Value → Shared → Prop} {s : Shared}
set_option maxRecDepth 100000 in
end

section
variable {X : Cx}
end
end L2

namespace Att
open PySem PySem.W PySem.Calls PyProof.Rows

theorem ints_of_wellAll {P : Params} {h : Heap} : ∀ (ns : List Int) (vs : List Value), WellAll P h vs (ns.map WData.int) → IntsAre vs ns := by
  intro ns
  induction ns with
  | nil =>
    intro vs w
    rw [List.map_nil] at w
    cases w
    exact .nil
  | cons n ns ih =>
    intro vs w
    rw [List.map_cons] at w
    cases w with
    | cons a b =>
      cases a
      exact .cons _ _ (ih _ b)

theorem script_of {l : OpenLaw} {n : Nat} (hn : l.most = some n) {P : Params} {h : Heap} {args : List WData} {vals : List Value}
    (hpre : l.row.toRowW.claim.pre args = true) (hwl : WellAll P h vals args) :
    ∃ a vs ns, vals = [Value.ref a] ∧ args = [WData.list (ns.map WData.int)] ∧ h.get? a = some { cls := .type "list", data := .seq vs.toArray } ∧ IntsAre vs ns ∧ ns.length ≤ n := by
  have hsh : WShape.hasAll [] args [.list .int] = true := (pre_splitW hpre).1
  have hc : l.pre.holds [] { args := args } = true := (pre_splitW hpre).2
  obtain ⟨d, r, rfl, h1, h2⟩ := hasAllW_cons hsh
  obtain rfl := hasAllW_nil h2
  obtain ⟨xs, rfl, h3⟩ := hasW_list h1
  obtain ⟨ns, rfl⟩ := items_int h3
  have hlen : ns.length ≤ n := by
    unfold OpenLaw.pre at hc
    have h4 : (WTm.not (.lt (.lit (.int (n : Int))) (.len (.arg 0)))).holds [] { args := [.list (ns.map .int)] } = true := by
      have h4 := (holds_andW hc).1
      rw [hn] at h4
      exact h4
    have h5 := condW_of h4 (w_not (w_lt w_lit (w_len_list (w_arg rfl))))
    rw [List.length_map] at h5
    refine Nat.le_of_not_lt fun q => ?_
    have q' : (n : Int) < ((ns.length : Nat) : Int) := by omega
    first
      | (rw [decide_eq_true q'] at h5; exact absurd h5 (by decide))
      | (simp at h5; omega)
  cases hwl with
  | cons w1 w2 =>
    cases w2
    cases w1 with
    | list ho hall => exact ⟨_, _, ns, rfl, rfl, ho, ints_of_wellAll ns _ hall, hlen⟩

theorem post_true (l : OpenLaw) (args : List WData) : l.row.toRowW.claim.post args (.bool true) args = true :=
  postW_of (r := l.row.toRowW) (X := (true == true))
    (show WShape.has [] (.bool true) .bool = true by first | rfl | decide | simp [WShape.has, WShape.arms, WShape.armsAll])
    (show (WTm.eq .res (.lit (.bool true))).value [] { args := args, res := some (.bool true), after := args } = some (.bool (true == true)) from w_eq_bool (w_res rfl) w_lit) rfl


theorem attach_call {l : OpenLaw} {n : Nat} {q : Program} {loose : List Str} {XP : (Str → Option Value) → Heap → Prop} {YP : World → Heap → Prop} {d : DefRec}
    (hn : l.most = some n) (hdf : d.params.defaults = [])
    (call : ∀ (w : World) (s₀ s₁ : Shared) (mg mb : Str → Option Value) (fa : Addr) (o : Obj) (pm cd doc : Value) (a : Addr) (vs : List Value) (ns : List Int),
      Ground q loose [] XP w s₀ mg mb s₁.heap → YP w s₁.heap →
      s₁.heap.get? fa = some o → o.data = .func (docDef d.name d.params d.body d.scope pm cd doc) → s₁.heap.CodeRec cd d.name → mg d.name = some (.ref fa) →
      s₁.heap.get? a = some { cls := .type "list", data := .seq vs.toArray } → IntsAre vs ns → ns.length ≤ n → s₁.gens = #[] →
      codeAny (model l.prog w) callerA (.call (.ref fa) ⟨[.ref a], []⟩) (fun r s' => r = .ok (.ret (.bool true)) ∧ OldK s₁.heap s'.heap ∧ s'.os = s₁.os ∧ AllBare s'.gens) s₁) :
    WalkO q loose XP YP l.row.toRowW d [] (fun f vs => PySem.call f vs) := by
  intro w s₀ s₁ mg mb G Y fa o pm cd doc dV kV ho hd hcd hD hmg hg args vals as hpre hlay hrd hwl hlo
  obtain rfl : dV = .none := Dflts.none hD hdf
  obtain rfl : kV = .none := Dflts.noKw hD
  obtain ⟨a, vs, ns, rfl, rfl, hobj, hints, hlen⟩ := script_of hn hpre hwl
  refine enter_call (codeAny_mono (call w s₀ s₁ mg mb fa o pm cd doc a vs ns G Y ho (fd_plain hd) hcd hmg hobj hints hlen hg) fun r s' hq => ?_)
  obtain ⟨rfl, h2, h3, h4⟩ := hq
  exact ⟨.inl ⟨.bool true, .bool true, [], rfl, fun _ => rfl, .bool true, post_true l _, fun _ => ⟨List.Pairwise.nil, fun _ hm => (nomatch hm)⟩⟩, h2, h3, h4⟩


section
variable {prog : Program} {w : World} {A : Around} {E : Value → Shared → Prop} {s : Shared} {K : Frag}






end
end Att

namespace L2
open PySem PySem.Spec PyProof.Rows

theorem vals_ints : ∀ {vs : List Value} {ns : List Int}, IntsAre vs ns → Vals (ns.map V.int) vs
  | _, _, .nil => .nil
  | _, _, .cons n t h => .cons ⟨t, rfl⟩ (vals_ints h)

noncomputable def Only (H : Hp) : Prop := ∀ b, H b = none ∨ ∃ o xs, H b = some (.frz o (.lst xs))

theorem law_call {P : Program} {w : World} {K : PySem.W.Frag} {mg mb : Str → Option Value} {CX : CXT} {k : Nat} {fa a : Addr} {fd : FuncData} {x : Str} {sp : Sp} {s₁ : Shared} {vs : List Value} {ns : List Int}
    (KX : K.In s₁.heap) (hns : s₁.heap.Ns mainGlobals mg) (hb : s₁.heap.Ns builtinsNs mb) (hbb : ∀ x : Str, x ≠ "__name__" → mb x = bootBuiltins x) (hlim : s₁.heap.NoLimit) (hg : s₁.gens = #[])
    (ha : s₁.heap.get? a = some { cls := .type "list", data := .seq vs.toArray }) (hi : IntsAre vs ns) (hl : ns.length ≤ sizeLine) (hr : Room k callerA)
    (F : ∀ base : Heap, K.In base → base.Ns mainGlobals mg → FnOk P w K mg base CX k fa fd [x] sp) (hbind : ∀ (s : Shared) (u : Value), BindsTo s fd ⟨[u], []⟩ [(x, u)])
    (hsp : ∀ H : Hp, Only H → SqL K H a (ns.map V.int) → sp [.ref a] H (fun v _ => v = .bl true) fun _ _ _ => False)
    (hCX : ∀ H e s', CX [] H s₁ (fun _ _ _ => False) e s' → False) :
    codeAny (model P w) callerA (.call (.ref fa) ⟨[.ref a], []⟩) (fun r s' => r = .ok (.ret (.bool true)) ∧ OldK s₁.heap s'.heap ∧ s'.os = s₁.os ∧ AllBare s'.gens) s₁ := by
  have rv := vals_ints hi
  have lenV := hi.length
  -- from an abstract heap in which nothing but the script may be tracked
  have core : ∀ H : Hp, Only H → SqL K H a (ns.map V.int) → HOk P w H s₁.heap → (∀ b, H b ≠ none → b = a) → (H a ≠ none → K.lookup a = none) →
      codeAny (model P w) callerA (.call (.ref fa) ⟨[.ref a], []⟩) (fun r s' => r = .ok (.ret (.bool true)) ∧ OldK s₁.heap s'.heap ∧ s'.os = s₁.os ∧ AllBare s'.gens) s₁ := by
    intro H hO hS hok hA hK
    have base_of : ∀ {b : Addr} {o : Obj}, s₁.heap.get? b = some o → H b = none → (hidT s₁.heap H).get? b = some o := fun e n => hidT_get e n
    have noA : ∀ {b : Addr} {o : Obj} {es : Array DictEntry} {ep : Nat}, s₁.heap.get? b = some o → o.data = .dict es ep → H b = none := fun {b o es ep} e d => by
      cases q : H b with
      | none => rfl
      | some u =>
        have e' : b = a := hA b (by rw [q]; simp)
        subst e'
        rw [ha] at e; cases e
        have d' : Data.seq vs.toArray _ = Data.dict es ep := d
        cases d'
    have nsK : ∀ {b : Addr} {m : Str → Option Value}, s₁.heap.Ns b m → (hidT s₁.heap H).Ns b m := fun {b m} ⟨o, es, ep, e, d, r⟩ => ⟨o, es, ep, base_of e (noA e d), d, r⟩
    have hKb : K.In (hidT s₁.heap H) := fun b o e => base_of (KX b o e) (by
      cases q : H b with
      | none => rfl
      | some u =>
        have e' : b = a := hA b (by rw [q]; simp)
        subst e'
        rw [hK (by rw [q]; simp)] at e; cases e)
    have hM : Mod K mg (hidT s₁.heap H) := ⟨hKb, nsK hns, ⟨mb, nsK hb, hbb⟩, let ⟨mc, h1, h2⟩ := hlim; ⟨mc, nsK h1, h2⟩⟩
    have e0 : Env0 P w K mg (hidT s₁.heap H) callerA [] s₁ H := ⟨rfl, hM, fun b o e => of_hidT e, Nat.le_of_eq (hidT_size _ _), trivial, fun b hb => absurd (show b ∈ ([] : List Addr) from hb) (by simp), hok, .of_eq hg⟩
    refine codeAny_mono ((F _ hKb (nsK hns)).run callerA [] s₁ H ⟨[.ref a], []⟩ [.ref a] [.ref a] _ _ hr e0 (hbind s₁ (.ref a)) (.cons rfl .nil) (hsp H hO hS)) fun r s' h => ?_
    cases r with
    | error e => exact (hCX H e s' h).elim
    | ok fl =>
      cases fl with
      | next => exact False.elim h
      | brk => exact False.elim h
      | cont => exact False.elim h
      | ret u =>
        obtain ⟨v, H', os, bare, un, hok', r', q⟩ := h
        have q' : v = .bl true := q
        subst q'
        obtain rfl : u = Value.bool true := r'
        refine ⟨rfl, OldK.of_keep fun b o e => ?_, os, bare⟩
        cases q : H b with
        | none => exact un.keep b o e q (by intro z; exact absurd (show b ∈ ([] : List Addr) from z) (by simp)) (by simp)
        | some u =>
          rcases hO b with z | ⟨ob, xs, z⟩
          · rw [q] at z; cases z
          · have z2 := un.frzs b ob _ z
            obtain ⟨e1, _⟩ := hok b _ z
            obtain ⟨e2, _⟩ := hok' b _ z2
            rw [e] at e1; cases e1
            exact e2
  cases hk : K.lookup a with
  | some o =>
    -- the script is one of the module's own objects
    have e := KX a o hk
    rw [ha] at e
    cases e
    refine core (fun _ => none) (fun _ => .inl rfl) (.inr ⟨_, vs.toArray, _, hk, rfl, rfl, rfl, by rw [List.size_toArray, lenV]; exact hl, by simpa using rv⟩) (fun b u z => by have z' : (none : Option HO) = some u := z; cases z') (fun b z => absurd rfl z) fun z => absurd rfl z
  | none =>
    refine core (fun b => if b = a then some (.frz { cls := .type "list", data := .seq vs.toArray } (.lst (ns.map V.int))) else none) (fun b => ?_) (.inl (.inr ⟨{ cls := .type "list", data := .seq vs.toArray }, if_pos rfl⟩)) (fun b u z => ?_) (fun b z => ?_) fun _ => hk
    · by_cases hb : b = a
      · exact .inr ⟨_, _, if_pos hb⟩
      · exact .inl (if_neg hb)
    · by_cases hb : b = a
      · have z' := (if_pos hb).symm.trans z
        cases z'
        subst hb
        exact ⟨ha, by rw [List.length_map]; exact hl, vs, _, rv, ha⟩
      · have z' := (if_neg hb).symm.trans z
        cases z'
    · by_cases hb : b = a
      · exact hb
      · exact absurd (if_neg hb) z
end L2

namespace L2
open PySem PySem.Spec PyProof.Rows


theorem walk_of {l : PySem.W.OpenLaw} {n k : Nat} {q : Program} {loose : List Str} {XP : (Str → Option Value) → Heap → Prop} {YP : World → Heap → Prop} {d : DefRec} {K : Params → PySem.W.Frag} {CX : World → CXT} {sp : World → Sp} {x : Str}
    (hn : l.most = some n) (hn2 : n ≤ sizeLine) (hdf : d.params.defaults = []) (hr : Room k callerA)
    (hY : ∀ (w : World) (h : Heap), YP w h → (K w.params).In h)
    (F : ∀ (w : World) (mg : Str → Option Value) (fa : Addr) (h : Heap), (K w.params).In h → h.Ns mainGlobals mg → mg d.name = some (.ref fa) →
      ∃ fd : FuncData, (∀ (s : Shared) (u : Value), BindsTo s fd ⟨[u], []⟩ [(x, u)]) ∧
        ∀ base : Heap, (K w.params).In base → base.Ns mainGlobals mg → FnOk l.prog w (K w.params) mg base (CX w) k fa fd [x] (sp w))
    (hsp : ∀ (w : World) (H : Hp) (a : Addr) (ns : List Int), ns.length ≤ n → Only H → SqL (K w.params) H a (ns.map V.int) → sp w [.ref a] H (fun v _ => v = .bl true) fun _ _ _ => False)
    (hCX : ∀ (w : World) (H : Hp) (s : Shared) (e : Value) (s' : Shared), CX w [] H s (fun _ _ _ => False) e s' → False) :
    PySem.W.WalkO q loose XP YP l.row.toRowW d [] (fun f vs => PySem.call f vs) := by
  refine Att.attach_call hn hdf fun w s₀ s₁ mg mb fa o pm cd doc a vs ns G Y ho hd hcd hmg hobj hints hlen hg => ?_
  have KX := hY w _ Y
  obtain ⟨fd, hb, hF⟩ := F w mg fa _ KX G.T.g hmg
  exact law_call KX G.T.g G.T.b G.T.builtins G.T.nolimit hg hobj hints (Nat.le_trans hlen hn2) hr hF hb (fun H hO hS => hsp w H a ns hlen hO hS) fun H e s' => hCX w H s₁ e s'
end L2

/- THE LAST THEOREM (shape; LID, My.* are yours):
   My.Adr: a structure of the addresses that your layer names (classes, functions); My.Txt K t: a structure (Prop) of the equations over K;
   My.txt_mk : {K} {implicit addresses ..} (e1 : nsIn K mainGlobals "law" = some (some (.ref f))) (e2 : K.lookup f = some ⟨oc, od, .func (fnOf "law" "law" params body scope dV kV doc pm an cdv ct), sl⟩) (e3 : codeIn K cdv "law" = true) .. : ∃ t, My.Txt K t

set_option maxRecDepth 100000 in
set_option maxHeartbeats 0 in
theorem PySem.Challenge.cw_LID_holds : PySem.Challenge.rw_LID.Holds := by
  w_on; o_law; k_head; (case hw => w_witness2)
  k_fill
  refine L2.walk_of (l := PySem.Challenge.rw_LID) (n := 63) (k := 40) (x := "script") (CX := fun w => ..) (sp := fun _ => My.sp_law) rfl (by decide) rfl ⟨rfl, by decide, by decide⟩ (fun w h Y => PySem.W.kIn_of Y) ?F ?S ?C
  case F =>
    intro w mg fa h KX G hmg
    have T : ∃ t, My.Txt (L2.KOf KX) t := by
      dsimp only [L2.KOf]                          -- K must stand as «<heap const> w.params» for k_is
      refine' My.txt_mk ?e1 ?e2 ?e3 ..
      (case e1 => PySem.W.k_is)                    -- in the order: a name -> its address -> its object -> its parts
      (case e2 => PySem.W.k_is)
      ..
    obtain ⟨t, T⟩ := T
    have e0 := hmg.symm.trans (PySem.W.mg_of KX G T.law)
    cases e0                                       -- fa is the law's own address
    exact ⟨_, fun s u => .of_eq rfl, fun base kb nb => My.law_fn T kb nb⟩     -- if «.of_eq rfl» comes too early: refine' ⟨_, ?b, fun base kb nb => My.law_fn T kb nb⟩; exact fun s u => .of_eq rfl
  case S => exact fun w H a ns hl hO hS => ..
  case C => exact ..
(the tactic k_is has no namespace: write k_is) -/

namespace L2
open PySem PySem.Spec PyProof.Rows

noncomputable def defArgs (s : Stmt) : Arguments := match s with
  | .FunctionDef _ a _ _ _ _ _ _ _ _ => a
  | _ => { posonlyargs := [], args := [], vararg := none, kwonlyargs := [], kw_defaults := [], kwarg := none, defaults := [] }
noncomputable def defBody (s : Stmt) : List Stmt := match s with
  | .FunctionDef _ _ b _ _ _ _ _ _ _ => b
  | _ => []
noncomputable def defScope (s : Stmt) : Scope := match s with
  | .FunctionDef _ _ _ _ _ _ sc _ _ _ => sc
  | _ => { kind := .function, names := [], isGenerator := false, isCoroutine := false }

noncomputable abbrev CX0 : CXT := fun _ _ _ _ _ _ => False
noncomputable abbrev E0 : XK := fun _ _ _ => False
theorem pass0 {X : Cx} : Passes CX0 X E0 := fun _ _ _ _ _ _ _ h => h.elim

structure Fun (K : PySem.W.Frag) (x qual : Str) (st : Stmt) (f : Addr) (fd : FuncData) : Prop where
  ex : ∃ (oc : Value) (od : Option Addr) (kV doc pm : Value) (an : Option Addr) (cdv ct : Value) (osl : Array (Option Value)),
    fd = PySem.W.fnOf x qual (defArgs st) (defBody st) (defScope st) .none kV doc pm an cdv ct ∧ K.lookup f = some ⟨oc, od, .func fd, osl⟩ ∧ PySem.W.codeIn K cdv qual = true
  kp : PySem.W.keepIn K (.ref f) = true
section
variable {P : Program} {w : World} {K : PySem.W.Frag} {mg : Str → Option Value} {base : Heap}
theorem Fun.ok {x qual : Str} {st : Stmt} {f : Addr} {fd : FuncData} {N ps : List Str} {k : Nat} {sp : Sp} (F : Fun K x qual st f fd) (S : FnScope N ps (defScope st)) (len : ∀ vs H Q E, sp vs H Q E → vs.length = ps.length)
    (hbody : ∀ (cdv : Value) (A : Around) (outer : List Env) (s : Shared) (H : Hp) (vs : List V) (Q : VK) (E : XK), Room k (A.deeper (envOfC qual (defScope st) s.heap.objs.size f cdv)) → sp vs H Q E →
      ∃ t, PSs (cxOf CX0 P w K mg base N qual (defScope st) f cdv A outer s H E).nox (defBody st) t ∧ t { nx := fun _ H' => Q .non H', rt := Q } (start N vs) H) : FnOk P w K mg base CX0 (k + 1) f fd ps sp := by
  obtain ⟨oc, od, kV, doc, pm, an, cdv, ct, osl, rfl, lk, hcd⟩ := F.ex
  refine fn_of lk hcd S len fun A outer s H vs Q E hr hsp => ?_
  obtain ⟨t, h, q⟩ := hbody cdv A outer s H vs Q E hr hsp
  exact ⟨t, h.nox, q⟩
theorem Fun.binds {x qual : Str} {st : Stmt} {f : Addr} {fd : FuncData} {ps : List Str} (F : Fun K x qual st f fd)
    (h : ∀ (kV doc pm : Value) (an : Option Addr) (cdv ct : Value) (us : List Value), us.length = ps.length → bindArgs (PySem.W.fnOf x qual (defArgs st) (defBody st) (defScope st) .none kV doc pm an cdv ct) ⟨us, []⟩ = pure (ps.zip us)) : Binds K fd ps [] := by
  obtain ⟨oc, od, kV, doc, pm, an, cdv, ct, osl, rfl, lk, hcd⟩ := F.ex
  exact .all (h kV doc pm an cdv ct)
theorem fun_mk {x qual : Str} {st : Stmt} {f : Addr} {oc : Value} {od an : Option Addr} {osl : Array (Option Value)} {kV doc pm cdv ct : Value} (l : K.lookup f = some ⟨oc, od, .func (PySem.W.fnOf x qual (defArgs st) (defBody st) (defScope st) .none kV doc pm an cdv ct), osl⟩)
    (c : PySem.W.codeIn K cdv qual = true) (k : PySem.W.keepIn K (.ref f) = true) : Fun K x qual st f (PySem.W.fnOf x qual (defArgs st) (defBody st) (defScope st) .none kV doc pm an cdv ct) := ⟨⟨oc, od, kV, doc, pm, an, cdv, ct, osl, rfl, l, c⟩, k⟩
end

section
variable {X : Cx}
theorem pv (i : Nat) {x : Str} {pos : Pos} (hN : X.N[i]? = some x := by rfl) (hv : Vis X.env.scope x := by first | exact Or.inl rfl | exact Or.inr (Or.inl rfl) | exact Or.inr (Or.inr rfl)) (hd : (x == ("__debug__" : Str)) = false := by decide)
    (hcd : (x == ("__classdict__" : Str)) = false := by decide) : PE X (.Name x pos) (tVar i) := pe_var hN hv hd hcd
end

theorem iteF {A B : Prop} (h : B) : if false = true then A else B := by
  rw [if_neg Bool.false_ne_true]
  exact h
theorem iteT {A B : Prop} (h : A) : if true = true then A else B := by
  rw [if_pos rfl]
  exact h
theorem ite2 {c A B : Prop} [Decidable c] (h1 : c → A) (h2 : ¬ c → B) : if c then A else B := by
  by_cases h : c
  · rw [if_pos h]
    exact h1 h
  · rw [if_neg h]
    exact h2 h

noncomputable def Same (H H' : Hp) : Prop := ∀ b o, H b = some o → H' b = some o
theorem Same.refl (H : Hp) : Same H H := fun _ _ h => h
theorem Same.trans {H H1 H2 : Hp} (a : Same H H1) (b : Same H1 H2) : Same H H2 := fun c o h => b c o (a c o h)
theorem Same.free {H H' : Hp} (e : Same H H') {l : Addr} (h : H' l = Option.none) : H l = Option.none := by
  cases q : H l with
  | none => rfl
  | some o =>
    rw [e l o q] at h
    cases h

end L2
set_option maxHeartbeats 4000000
namespace LwM
end LwM

namespace LwM
theorem gcd_step (a b : Int) : Int.gcd b (a % b) = Int.gcd a b := by
  rw [Int.emod_def, Int.mul_comm b, Int.gcd_sub_mul_right_right, Int.gcd_comm]
theorem gcd_pos (a b : Int) (h : 0 < b) : (1 : Int) ≤ (Int.gcd a b : Int) := by
  have : 0 < Int.gcd a b := Int.gcd_pos_of_ne_zero_right _ (by omega)
  omega
theorem gcd_le (a b : Int) (h : 0 < b) : (Int.gcd a b : Int) ≤ b := Int.le_of_dvd h (Int.gcd_dvd_right a b)
theorem ediv_abs (t g : Int) (h : 1 ≤ g) : (t / g).natAbs ≤ t.natAbs := by
  rcases Int.lt_or_le t 0 with n | n
  · have h1 : t / g < 0 := Int.ediv_neg_of_neg_of_pos n (by omega)
    have h2 : t ≤ t / g := by
      rw [Int.le_ediv_iff_mul_le (by omega)]
      have := Int.mul_le_mul_of_nonpos_left (a := t) (b := g) (c := 1) (by omega) h
      omega
    omega
  · have h1 : 0 ≤ t / g := Int.ediv_nonneg n (by omega)
    have h2 : t / g ≤ t := Int.ediv_le_self g n
    omega
theorem log2_lt {n : Nat} {k : Nat} (hk : 0 < k) (h : n < 2 ^ k) : n.log2 < k := by
  by_cases e : n = 0
  · subst e
    simpa using hk
  · exact (Nat.log2_lt e).mpr h
end LwM

namespace Lw
open PySem PySem.Spec PyProof.Rows L2

inductive Kd where
  | non | bl | int | str | lst | tup
  deriving DecidableEq
noncomputable def Kd.ty : Kd → String
  | .non => "NoneType" | .bl => "bool" | .int => "int" | .str => "str" | .lst => "list" | .tup => "tuple"
inductive KdOf (H : Hp) : V → Kd → Prop where
  | non : KdOf H .non .non
  | bl (b : Bool) : KdOf H (.bl b) .bl
  | int (i : Int) : KdOf H (.int i) .int
  | str (x : Str) : KdOf H (.str x) .str
  | lst {a : Addr} {xs : List V} (e : H a = some (.lst xs)) : KdOf H (.ref a) .lst
  | tup {a : Addr} {xs : List V} (e : H a = some (.tup xs)) : KdOf H (.ref a) .tup
theorem KdOf.ty {K : PySem.W.Frag} {H : Hp} {v : V} {k : Kd} (h : KdOf H v k) : TyOf K H v (.type k.ty) := by
  cases h with
  | non => exact .non
  | bl b => exact .bl b
  | int i => exact .int i
  | str x => exact .str x
  | lst e => exact .lst e
  | tup e => exact .tup e
noncomputable def Kd.isInt : Kd → Bool
  | .int => true | .bl => true | _ => false
noncomputable def Kd.isBool : Kd → Bool
  | .bl => true | _ => false
noncomputable def Kd.isTup : Kd → Bool
  | .tup => true | _ => false
noncomputable def Isi (T : String) (f : Kd → Bool) : Prop := ∀ (K : PySem.W.Frag) (k : Kd), PySem.W.kitOne K (.type k.ty) (.type T) = some (f k)
theorem isi_int : Isi "int" Kd.isInt := fun K k => by cases k <;> rfl
theorem isi_bool : Isi "bool" Kd.isBool := fun K k => by cases k <;> rfl
theorem isi_tup : Isi "tuple" Kd.isTup := fun K k => by cases k <;> rfl
section
variable {X : Cx}
noncomputable def rIsi (T : String) (f : Kd → Bool) : List V → Hp → VK → Prop := fun xs H Q => match xs with
  | [x, y] => y = .ty T ∧ ∃ k, KdOf H x k ∧ Q (.bl (f k)) H
  | _ => False
theorem call_isi {T : String} {f : Kd → Bool} (hf : Isi T f) : CallR X (.builtin "isinstance") (rIsi T f) := by
  intro pins s σ H xs us Q I r h
  match xs, h with
  | [x, y], h =>
    obtain ⟨rfl, k, ty, q⟩ := h
    obtain ⟨u, w', rfl, ru, rw'⟩ := vals2 r
    cases (show w' = Value.type T from rw')
    exact isinst_ok I ru (ty.ty) (hf X.K k) fun tk => ⟨.bl (f k), H, I.tok tk, rfl, q⟩
theorem pe_isi {T : String} {f : Kd → Bool} {x : Str} {e : Expr} {te : TE} {p p2 pos : Pos} (hf : Isi T f) (hm : X.mg "isinstance" = none) (hm2 : X.mg x = none) (hb : bootBuiltins x = some (.type T)) (he : PE X e te)
    (hg : Gl X "isinstance" := by rfl) (hg2 : Gl X x := by rfl) (hn : x ≠ "__name__" := by decide) (hd : (x == ("__debug__" : Str)) = false := by decide)
    (hs : starEach [e, .Name x p2] X.env = (false, eval e X.env) :: starEach [.Name x p2] X.env := by rfl) (hs2 : starEach [.Name x p2] X.env = (false, eval (.Name x p2) X.env) :: starEach [] X.env := by rfl)
    (hpl : (backTo pos (starEach [.Name x p2] X.env)).any (·.1) = false := by rfl) : PE X (.Call (.Name "isinstance" p) [e, .Name x p2] [] pos) (tCB (rIsi T f) (tCons te (tCons (tC (.ty T)) tNil))) :=
  pe_callB (X := X) (p := p) (pos := pos) (call_isi hf) hg hm boot_isinstance (pa_cons he (pa_cons (pe_bltn (v := .ty T) hg2 hm2 hb rfl hn hd) pa_nil hs2) hs) (by decide) (by decide) hs hpl

theorem ints_get : ∀ {vs : List Value} {ns : List Int} {j : Nat} (_ : IntsAre vs ns) (h : j < vs.length), ∃ n t, ns[j]? = some n ∧ vs[j] = .int n t
  | _, _, _, .nil, h => absurd h (Nat.not_lt_zero _)
  | _, _, 0, .cons n t _, _ => ⟨n, t, rfl, rfl⟩
  | _, _, j + 1, .cons _ _ r, h => by
    obtain ⟨n, t, e1, e2⟩ := ints_get (j := j) r (by simpa using h)
    exact ⟨n, t, by simpa using e1, by simpa using e2⟩
theorem ints_len : ∀ {vs : List Value} {ns : List Int}, IntsAre vs ns → vs.length = ns.length
  | _, _, .nil => rfl
  | _, _, .cons _ _ r => by simp [ints_len r]

noncomputable def CDivL (_ j : Int) : Prop := 0 < j ∧ j.natAbs < 2 ^ 8000
theorem op_fdivL : OpR X (binaryOp .FloorDiv) (rI CDivL fun i j => .int (i / j)) := opI fun i j _ _ _ _ _ hc q => by
  refine floordiv_int (by have := hc.1; omega) ?_ (.inl (PyProof.noPylong_of_log2 (Nat.lt_of_lt_of_le (LwM.log2_lt (by decide) hc.2) (by decide))))
  rw [Int.fdiv_eq_ediv_of_nonneg _ (Int.le_of_lt hc.1)]
  exact q
noncomputable def CMulL (i j : Int) : Prop := i.natAbs < 2 ^ 100000 ∧ j.natAbs < 2 ^ 100000
theorem op_mulL : OpR X (binaryOp .Mult) (rI CMulL fun i j => .int (i * j)) := opI fun _ _ _ _ _ _ _ hc q => mul_int q (IntMulOk.of_bits (Nat.le_trans (PySem.intBits_le_iff.mpr hc.1) (by decide)) (Nat.le_trans (PySem.intBits_le_iff.mpr hc.2) (by decide)))
end

theorem iteP {c : Bool} {A B : Prop} (h : c = true) (a : A) : if c = true then A else B := by
  rw [if_pos h]
  exact a
theorem iteN {c : Bool} {A B : Prop} (h : c = false) (b : B) : if c = true then A else B := by
  subst h
  exact iteF b
theorem seq_join {t k : TS} {D : Ends} {σ : L2.St} {H : Hp} (J : L2.St → Hp → Prop) (h2 : ∀ σ H, J σ H → k D σ H) (h1 : (∀ σ H, J σ H → k D σ H) → t { D with nx := k D } σ H) : tSeq t k D σ H := h1 h2
noncomputable def But (p : Addr) (H H' : Hp) : Prop := ∀ c o, H c = some o → c ≠ p → H' c = some o
theorem But.refl (p : Addr) (H : Hp) : But p H H := fun _ _ h _ => h
theorem But.trans {p : Addr} {H H1 H2 : Hp} (a : But p H H1) (b : But p H1 H2) : But p H H2 := fun c o h n => b c o (a c o h n) n
theorem But.upd (p : Addr) (H : Hp) (o : HO) : But p H (upd H p o) := fun c _ h n => by
  rw [upd_ne n]
  exact h
theorem But.of {p : Addr} {H H' : Hp} (s : Same H H') : But p H H' := fun c o h _ => s c o h
theorem same_upd {H : Hp} {p : Addr} (o : HO) (n : H p = none) : Same H (upd H p o) := fun b q e => by
  rw [upd_ne (ne_of_none e n)]
  exact e
theorem fresh {H : Hp} {o : HO} {Q : VK} (h : ∀ p H', H p = none → Same H H' → H' p = some o → Q (.ref p) H') : ∀ p, H p = none → Q (.ref p) (upd H p o) :=
  fun p n => h p _ n (same_upd o n) upd_same
noncomputable def New (H : Hp) (o : HO) (Q : VK) : Prop := ∀ p H', H p = none → Same H H' → H' p = some o → Q (.ref p) H'
theorem New.at {H : Hp} {o : HO} {Q : VK} (h : New H o Q) {p : Addr} (n : H p = none) : Q (.ref p) (upd H p o) := h p _ n (same_upd o n) upd_same
section
variable {X : Cx} {es : List Expr} {t : TA} {pos : Pos}
noncomputable def tTupF (t : TA) : TE := fun σ H Q => t σ H fun xs H1 => xs.length ≤ sizeLine ∧ New H1 (.tup xs) Q
noncomputable def tLstF (t : TA) : TE := fun σ H Q => t σ H fun xs H1 => xs.length ≤ sizeLine ∧ New H1 (.lst xs) Q
theorem pe_tupF {x1} (h : PA X es t) : PE X (.Tuple es x1 pos) (tTupF t) := by
  intro pins s σ H Q I hq
  refine wpAny_Tuple_spliced (thn (h pos pins s σ H _ I hq) fun us s1 ⟨xs, H1, I1, r, z, q⟩ => ⟨by rw [← r.length]; exact z, ?_⟩)
  have hf : H1 s1.heap.objs.size = none := I1.hok.fresh (Nat.le_refl _)
  refine ⟨.ref s1.heap.objs.size, upd H1 s1.heap.objs.size (.tup xs), I1.laid (t' := s1.toks) (fun b u e => Heap.get?_push_of_some _ e) (Nat.le_refl _) ?_, rfl, q.at hf⟩
  exact ⟨z, us, r, ⟨_, Heap.get?_push_size _ rfl, rfl, _, rfl⟩⟩
theorem pe_lstF (h : PA X es t) : PE X (.List es pos) (tLstF t) := by
  intro pins s σ H Q I hq
  refine wpAny_List_spliced (thn (h pos pins s σ H _ I hq) fun us s1 ⟨xs, H1, I1, r, z, q⟩ => ⟨by rw [← r.length]; exact z, ?_⟩)
  have hf : H1 s1.heap.objs.size = none := I1.hok.fresh (Nat.le_refl _)
  refine ⟨.ref s1.heap.objs.size, upd H1 s1.heap.objs.size (.lst xs), I1.laid (t' := s1.toks) (fun b u e => Heap.get?_push_of_some _ e) (Nat.le_refl _) ?_, rfl, q.at hf⟩
  exact ⟨z, us, 0, r, Heap.get?_push_size _ rfl⟩
theorem callr_of {f : Value} {r r' : List V → Hp → VK → Prop} (h : CallR X f r) (i : ∀ xs H Q, r' xs H Q → r xs H Q) : CallR X f r' :=
  fun pins s σ H xs us Q I rv q => h pins s σ H xs us Q I rv (i xs H Q q)
theorem slr_of {r r' : V → Option Int → Option Int → Hp → VK → Prop} (h : SlR X r) (i : ∀ x a b H Q, r' x a b H Q → r x a b H Q) : SlR X r' :=
  fun pins s σ H x v vl vu lo hi sl Q I rx hs pl pu q => h pins s σ H x v vl vu lo hi sl Q I rx hs pl pu (i x lo hi H Q q)
noncomputable def rListF (K : PySem.W.Frag) : List V → Hp → VK → Prop := fun xs H Q => ∃ p ys, xs = [.ref p] ∧ (SqL K H p ys ∨ SqT K H p ys) ∧ New H (.lst ys) Q
theorem call_listF : CallR X (.type "list") (rListF X.K) := callr_of call_list_of fun xs H Q ⟨p, ys, e, h, q⟩ => ⟨p, ys, e, h, fun l n => q.at n⟩
noncomputable def rSlLF (K : PySem.W.Frag) : V → Option Int → Option Int → Hp → VK → Prop := fun x lo hi H Q => ∃ a xs, x = .ref a ∧ SqL K H a xs ∧ New H (.lst (cutV xs lo hi)) Q
theorem sl_listF : SlR X (rSlLF X.K) := slr_of sl_list fun x a b H Q ⟨p, xs, e, h1, q⟩ => ⟨p, xs, e, h1, fun p n => q.at n⟩
end
end Lw

namespace Lw
open PySem PySem.Spec PyProof.Rows L2
section
variable {prog : Program} {w : World} {A : Around} {R : Result → Shared → Prop} {s : Shared}
theorem compLoop_any {elt target iter : Expr} {scope : Scope} {pos : Pos} {it acc : Value} {env : Env} (I : Nat → Shared → Prop)
    (turn : ∀ n s, I n s → wpAny (model prog w) A (pyNext it) (fun r s₁ => match r with
      | none => R (.ok .next) s₁
      | some v => wpAny (model prog w) A (letOwnedTupleGo target it v) (fun _ s₁' => wpAny (model prog w) A (assign target env v) (fun _ s₂ => wpAny (model prog w) A (eval elt env) (fun x s₃ =>
          wpAny (model prog w) A (call (.builtin "list.append") [acc, x]) (fun _ s₄ => ∃ m, m < n ∧ I m s₄) (notedBy (model prog w) A env fun e s' => R (.error e) s') s₃)
          (notedBy (model prog w) A env fun e s' => R (.error e) s') s₂) (notedBy (model prog w) A env fun e s' => R (.error e) s') s₁') (notedBy (model prog w) A env fun e s' => R (.error e) s') s₁) (notedBy (model prog w) A env fun e s' => R (.error e) s') s)
    (n : Nat) (h : I n s) :
    codeAny (model prog w) A (.compLoop (.ListComp elt [⟨target, iter, [], 0⟩] scope pos) 0 it acc env) R s := by
  refine codeAny_loop rfl I (fun n s hI => ?_) n h
  show wpAny _ _ ((compTurn (.ListComp elt [⟨target, iter, [], 0⟩] scope pos) 0 it acc env).onRaise (fun x => do noteFrame x env; theTreesLotGoes x)) _ _ s
  refine wpAny_noted ?_
  rw [compTurn_list1]
  refine wpAny_bind (wpAny_standAt (wpAny_bind (wpAny_mono (turn n s hI) (fun r s₁ h₁ => ?_) fun _ _ h' => h')))
  cases r with
  | none => exact wpAny_pure h₁
  | some v =>
    refine wpAny_bind (wpAny_mono h₁ (fun _ s₁' h₁' => ?_) fun _ _ h' => h')
    exact wpAny_bind (wpAny_mono h₁' (fun _ s₂ h₂ => wpAny_bind (wpAny_bind (wpAny_mono h₂ (fun x s₃ h₃ => wpAny_bind (wpAny_mono h₃
      (fun _ s₄ h₄ => wpAny_pure (wpAny_pure ⟨rfl, h₄⟩)) fun _ _ h' => h')) fun _ _ h' => h'))) fun _ _ h' => h')
end
noncomputable def cxComp (X : Cx) (N : List Str) (scope : Scope) (C : Addr) (fp : List Addr) (s2 : Shared) (H2 : Hp) : Cx :=
  { X with N := N, s₀ := s2, H₀ := H2, env := compEnv scope C X.env, outer := X.stack, stack := X.stack, ex := fp, fn := fun _ => true, pn := [], xe := fun _ _ => False }
noncomputable def CompGo (n : Nat) (J : It) (g : TG) (te : TE) (Q : VK) (p : Addr) (H' : Hp) : Prop :=
  ∃ W : Nat → Nat → List V → Hp → Prop, (∃ m, W 0 m [] H') ∧ ∀ i m ys H2, W i m ys H2 → H2 p = some (.lst ys) ∧ ys.length < sizeLine ∧
    ((J.stop i H2 ∧ Q (.ref p) H2) ∨ (J.go i H2 ∧ ∀ x H3, J.yld i H2 x H3 → g x (List.replicate n none) H3 fun σ4 H4 => te σ4 H4 fun y H5 => H5 p = some (.lst ys) ∧ ∃ m', m' < m ∧ W (i + 1) m' (ys ++ [y]) (upd H5 p (.lst (ys ++ [y])))))
noncomputable def tComp (n : Nat) (wi : TI) (g : TG) (te : TE) : TE := fun σ H Q => wi σ H fun J H1 => ∀ p H', H1 p = none → Same H1 H' → H' p = some (.lst []) → CompGo n J g te Q p H'
section
variable {X : Cx}
theorem cxComp_ok {pins : List (Addr × Obj)} {σ : L2.St} {H1 : Hp} {s2 : Shared} {N : List Str} {scope : Scope} {C : Addr} {fp : List Addr} (I : Inv X pins σ H1 s2) (hk : scope.kind = .function)
    (hn : ∀ x, scope.names.lookup x ≠ some .cell ∧ scope.names.lookup x ≠ some .free) (hC : s2.heap.objs.size ≤ C) (hf : ∀ b ∈ fp, FpOk X pins H1 b) (hlt : ∀ b ∈ fp, b < s2.heap.objs.size) : (cxComp X N scope C fp s2 H1).Ok where
  mod := I.ok.mod
  kind := hk
  glob := I.ok.glob
  blt := I.ok.blt
  above := hC
  inj := fun x y c h => nomatch h
  has := fun x h => h.elim (fun z => absurd z (hn x).1) (fun z => absurd z (hn x).2)
  cab := fun x c _ h => nomatch h
  hd := I.ok.hd
  frames := I.ok.frames
  stk := .inl rfl
  exf := fun b hb => ⟨Nat.ne_of_lt (Nat.lt_of_lt_of_le (hlt b hb) hC), fun x c h => nomatch h⟩
  bs := I.bs
  bsz := Nat.le_trans I.ok.bsz I.sz
  noex := fun b o e hb => by
    rcases (hf b hb).2.2.2.1 with z | z
    · exact I.ok.noex b o e z
    · exact absurd (Nat.lt_of_lt_of_le (Heap.lt_size e) (Nat.le_trans I.ok.bsz z)) (Nat.lt_irrefl _)
  exfs := fun b hb z => (List.mem_cons.mp (I.stkSub b z)).elim (hf b hb).2.1 (hf b hb).2.2.1
  funs := I.stack
  frf := I.stkFree
theorem pe_comp {N : List Str} {elt target iter : Expr} {scope : Scope} {pos : Pos} {wi : TI} {g : TG} {te : TE} (hc : X.calm = true)
    (hk : scope.kind = .function) (hn : ∀ x, scope.names.lookup x ≠ some .cell ∧ scope.names.lookup x ≠ some .free) (hfree : ∀ x ∈ scope.names, x.2 ≠ .free) (hcell : ∀ x ∈ scope.names, x.2 ≠ .cell) (hnames : ∀ x ∈ scope.names, x.2 = .local → scope.names.lookup x.1 = some .local)
    (hi : PI X target iter wi) (hg : ∀ C fp s2 H2, PG (cxComp X N scope C fp s2 H2) target g) (he : ∀ C fp s2 H2, PE (cxComp X N scope C fp s2 H2) elt te)
    (hs : ∀ x, foldedSetIterable iter X.env x = pure x := by intro _; rfl) : PE X (.ListComp elt [⟨target, iter, [], 0⟩] scope pos) (tComp N.length wi g te) := by
  intro pins s σ H Q I h
  refine wpAny_ListComp hfree hk hnames (thn (hi pins s σ H _ I h) fun v s1 h1 => thn h1 fun itv s2 h2 => ?_) hs
  obtain ⟨it, fp, tn, J, H1, e, I2, T, st2, f2, hR⟩ := h2
  subst e
  have hlt : ∀ b ∈ fp, b < s2.heap.objs.size := fun b hb => by
    obtain ⟨o, ho, _⟩ := T.obj 0 _ st2 b hb
    exact Heap.lt_size ho
  refine wpAny_newObj_type (wpAny_newFunctionEnv hcell (by intro y hy; simp at hy) (fun h₁ hns₁ hsb₁ => ?_) hk)
  dsimp only at hns₁ hsb₁ ⊢
  generalize hHH : s2.heap.push { cls := .type "list", dict := none, data := .seq ([] : List Value).toArray } = HH at hns₁ hsb₁ ⊢
  have hCe : HH.objs.size = s2.heap.objs.size + 1 := by rw [← hHH, Heap.size_push]
  have hDC : s2.heap.objs.size ≠ HH.objs.size := by rw [hCe]; exact Nat.ne_of_lt (Nat.lt_succ_self _)
  have hCle : s2.heap.objs.size ≤ HH.objs.size := by rw [hCe]; exact Nat.le_succ _
  have old : ∀ b o, s2.heap.get? b = some o → h₁.get? b = some o := fun b o e => hsb₁.extBut b o (by rw [hCe]; exact Nat.ne_of_lt (Nat.lt_succ_of_lt (Heap.lt_size e))) (Heap.get?_push_of_some _ (hHH ▸ Heap.get?_push_of_some _ e))
  have hD : h₁.get? s2.heap.objs.size = some { cls := .type "list", dict := none, data := .seq ([] : List Value).toArray } := hsb₁.extBut _ _ hDC (Heap.get?_push_of_some _ (hHH ▸ Heap.get?_push_size _ rfl))
  have nD : H1 s2.heap.objs.size = none := I2.hok.fresh (Nat.le_refl _)
  obtain ⟨W, ⟨m0, w0⟩, turn⟩ := hR s2.heap.objs.size _ nD (same_upd (.lst []) nD) upd_same
  have ok := cxComp_ok (N := N) (C := HH.objs.size) I2 hk hn hCle f2 hlt
  have I4 : Inv (cxComp X N scope HH.objs.size fp s2 H1) [] (List.replicate N.length none) (upd H1 s2.heap.objs.size (.lst [])) { s2 with heap := h₁, toks := s2.toks + ([] : List (Str × Value)).length } := by
    refine ⟨ok, rfl, I2.bare, Un.laid old (Nat.le_refl _) nD, ⟨_, hns₁, fun i x v _ e2 _ => ?_⟩, (fun x c z => nomatch z), ?_, (fun x c z => nomatch z), (fun p hp => nomatch hp), I2.hok.laid old (Nat.le_refl _) ?_, by rw [List.length_replicate]; rfl⟩
    · rw [List.getElem?_replicate] at e2
      split at e2 <;> cases e2
    · show (upd H1 s2.heap.objs.size (.lst [])) HH.objs.size = none
      rw [upd_ne (Ne.symm hDC)]
      exact I2.hok.fresh hCle
    · exact ⟨by show 0 ≤ sizeLine; decide, [], 0, .nil, hD⟩
  have stat : ∀ {H' : Hp}, (∀ b ∈ fp, H' b = none) → ∀ b ∈ fp, FpOk (cxComp X N scope HH.objs.size fp s2 H1) [] H' b := fun hn b hb =>
    ⟨hn b hb, (ok.exf b hb).1, ok.exfs b hb, .inl hb, (ok.exf b hb).2, fun p hp => nomatch hp⟩
  have st4 : tn 0 h₁ := T.keep _ _ _ st2 fun b _ o e => old b o e
  have fr4 : ∀ b ∈ fp, (upd H1 s2.heap.objs.size (.lst [])) b = none := fun b hb => by
    rw [upd_ne (Nat.ne_of_lt (hlt b hb))]
    exact (f2 b hb).1
  -- the loop
  have loop : codeAny (model X.prog X.w) X.A (.compLoop (.ListComp elt [⟨target, iter, [], 0⟩] scope pos) 0 (.ref it) (.ref s2.heap.objs.size) (compEnv scope HH.objs.size X.env))
      (fun r s' => ∃ m, s'.heap.Ns HH.objs.size m ∧ ∀ h', Heap.SameBut HH.objs.size s'.heap h' →
            match r with | .ok _ => EP X pins σ Q (.ref s2.heap.objs.size) { s' with heap := h' } | .error x => wpAny (model X.prog X.w) X.A (passOn "comprehension.variables-let-go" x (compEnv scope HH.objs.size X.env)) (EP X pins σ Q) X.xe { s' with heap := h' })
      { s2 with heap := h₁, toks := s2.toks + ([] : List (Str × Value)).length } := by
    refine compLoop_any (fun n s' => ∃ i ys H', Inv (cxComp X N scope HH.objs.size fp s2 H1) [] (List.replicate N.length none) H' s' ∧ tn i s'.heap ∧ (∀ b ∈ fp, H' b = none) ∧ W i n ys H') ?_ m0 ⟨0, [], _, I4, st4, fr4, w0⟩
    rintro n s3 ⟨i, ys, H3, I3, st3, fr3, w3⟩
    obtain ⟨hp3, hz3, hw⟩ := turn i n ys H3 w3
    rcases hw with ⟨stop, qn⟩ | ⟨go, step⟩
    · refine thn (T.done (cxComp X N scope HH.objs.size fp s2 H1) rfl rfl rfl hc i [] s3 _ H3 _ I3 (stat fr3) st3 stop) fun r s4 ⟨hr, I5⟩ => ?_
      subst hr
      obtain ⟨m, hm, _⟩ := id I5.loc
      refine ⟨m, hm, fun h' sb => ⟨.ref s2.heap.objs.size, H3, ?_, rfl, qn⟩⟩
      have k : ∀ b o, b ≠ HH.objs.size → s4.heap.get? b = some o → h'.get? b = some o := fun b o hb e => sb.extBut b o hb e
      have nb : ∀ b o, s2.heap.get? b = some o → b ≠ HH.objs.size := fun b o e => by rw [hCe]; exact Nat.ne_of_lt (Nat.lt_succ_of_lt (Heap.lt_size e))
      have U := I5.base
      have fC : H3 HH.objs.size = none := I5.free
      refine I2.call' (ch := fp) (s' := { s4 with heap := h' }) I5.os ⟨fun b o e n hb hx => k b o (nb b o e) (U.keep b o e n hb hx), fun b o e n hb hx => ?_, U.free, fun b o e hx => ?_, U.tups, U.frzs, U.tbls⟩ (fun b u e => ?_) I5.bare (fun b hb => ⟨(f2 b hb).2.2.2.1, (f2 b hb).2.1, (f2 b hb).2.2.2.2.1, (f2 b hb).2.2.2.2.2⟩)
      · obtain ⟨sl, q⟩ := U.slot b o e n hb hx
        exact ⟨sl, k b _ (nb b o e) q⟩
      · obtain ⟨o', q⟩ := U.there b o e hx
        exact ⟨o', k b _ (nb b o e) q⟩
      · refine (I5.hok b u e).stay (fun c v hcc q => k c v ?_ q) (fun _ q => q) fun _ _ q => q
        rcases hcc with z | z
        · rw [z]
          intro y
          rw [y, fC] at e
          cases e
        · intro y
          rw [y, fC] at z
          cases z
    · refine wpAny_mono (T.item (cxComp X N scope HH.objs.size fp s2 H1) rfl rfl rfl hc i [] s3 _ H3 (fun _ _ => False) I3 (stat fr3) st3 go) (fun r s4 ⟨u, hr, h4⟩ => ?_) fun _ _ z => z.elim
      subst hr
      refine wpAny_mono h4 (fun _ s5 ⟨x, H5, I5, r5, y5, st5, fr5⟩ => ?_) fun _ _ z => z.elim
      have I5' := I5.pinned (stat fr5) (T.obj _ _ st5)
      refine wpAny_mono (hg _ _ _ _ _ s5 _ H5 x u _ I5' r5 (step x H5 y5)) (fun _ s6 ⟨σ6, H6, I6, q6⟩ => ?_) fun _ _ z => z.elim
      refine wpAny_mono (he _ _ _ _ _ s6 σ6 H6 _ I6 q6) (fun y s7 ⟨yv, H7, I7, r7, q7⟩ => ?_) fun _ _ z => z.elim
      obtain ⟨e7, m', hm', w7⟩ := q7
      refine wpAny_mono (mt_append (X := cxComp X N scope HH.objs.size fp s2 H1) _ s7 σ6 H7 (.ref s2.heap.objs.size) [yv] (.ref s2.heap.objs.size) [y] (fun _ H8 => H8 = upd H7 s2.heap.objs.size (.lst (ys ++ [yv]))) I7 rfl (.cons r7 .nil) ⟨_, ys, yv, rfl, rfl, e7, hz3, rfl⟩) (fun _ s8 ⟨_, H8, I8, _, q8⟩ => ?_) fun _ _ z => z.elim
      subst q8
      refine ⟨m', hm', i + 1, _, _, (I8.unpinned).weak (by rw [List.length_replicate, I8.len]; rfl) (fun j v ev => ?_), T.keep _ _ _ st5 fun b hb o e => (I8.pin (b, o) (List.mem_append_right _ (List.mem_append_right _ (mem_pinsAt hb e)))).1, fun b hb => ?_, w7⟩
      · rw [List.getElem?_replicate] at ev
        split at ev <;> cases ev
      · obtain ⟨o, e, d⟩ := T.obj _ _ st5 b hb
        exact (I8.pin (b, o) (List.mem_append_right _ (List.mem_append_right _ (mem_pinsAt hb e)))).2.1
  exact codeAny_compStart_list loop (T.self _ 0 _ _ _ st4 loop)
end
end Lw
namespace Lw
open PySem PySem.Spec PyProof.Rows L2
mutual
inductive DecV (H : Hp) : V → PyData → Prop where
  | non : DecV H .non .none
  | bl (b : Bool) : DecV H (.bl b) (.bool b)
  | int (i : Int) : DecV H (.int i) (.int i)
  | str (x : Str) : DecV H (.str x) (.str x)
  | lst {a : Addr} {xs : List V} {ds : List PyData} (e : H a = some (.lst xs)) (h : DecVs H xs ds) : DecV H (.ref a) (.list ds)
  | tup {a : Addr} {xs : List V} {ds : List PyData} (e : H a = some (.tup xs)) (h : DecVs H xs ds) : DecV H (.ref a) (.tuple ds)
inductive DecVs (H : Hp) : List V → List PyData → Prop where
  | nil : DecVs H [] []
  | cons {x : V} {d : PyData} {xs : List V} {ds : List PyData} (h : DecV H x d) (t : DecVs H xs ds) : DecVs H (x :: xs) (d :: ds)
end
section
variable {X : Cx}
mutual
theorem DecV.reads {pins : List (Addr × Obj)} {σ : L2.St} {H : Hp} {s : Shared} (I : Inv X pins σ H s) : ∀ {x : V} {d : PyData} {u : Value}, DecV H x d → RelV x u → ∃ as, Reads s.heap u d as
  | _, _, _, .non, r => by cases r; exact ⟨_, .none⟩
  | _, _, _, .bl b, r => by cases r; exact ⟨_, .bool b⟩
  | _, _, _, .int i, r => by obtain ⟨t, rfl⟩ := r; exact ⟨_, .int i t⟩
  | _, _, _, .str x, r => by obtain ⟨t, rfl⟩ := r; exact ⟨_, .str x t⟩
  | _, _, _, .lst e h, r => by
    cases r
    obtain ⟨its, rv, ⟨o, n, ho, hc, _, hd⟩, _⟩ := I.list (SqL.of e)
    obtain ⟨as, ra⟩ := DecVs.reads I h rv
    exact ⟨_, .list ho hc hd (by simpa using ra)⟩
  | _, _, _, .tup e h, r => by
    cases r
    obtain ⟨its, rv, ⟨o, ho, hc, n, hd⟩, _⟩ := I.tuple (SqT.of e)
    obtain ⟨as, ra⟩ := DecVs.reads I h rv
    exact ⟨_, .tuple ho hc hd (by simpa using ra)⟩
theorem DecVs.reads {pins : List (Addr × Obj)} {σ : L2.St} {H : Hp} {s : Shared} (I : Inv X pins σ H s) : ∀ {xs : List V} {ds : List PyData} {us : List Value}, DecVs H xs ds → Vals xs us → ∃ as, ReadsAll s.heap us ds as
  | _, _, _, .nil, r => by cases r; exact ⟨_, .nil⟩
  | _, _, _, .cons h t, r => by
    cases r with
    | cons q r =>
      obtain ⟨as, ra⟩ := DecV.reads I h q
      obtain ⟨bs, rb⟩ := DecVs.reads I t r
      exact ⟨_, .cons ra rb⟩
end
noncomputable def DataOk (d : PyData) : Prop := d.canLay0 = true ∧ d.depth ≤ 60
noncomputable def rEqD : R2 := fun x y H Q => ∃ da db, DecV H x da ∧ DecV H y db ∧ DataOk da ∧ DataOk db ∧ Q (.bl (PyData.eqv da db)) H
noncomputable def rNeD : R2 := fun x y H Q => ∃ da db, DecV H x da ∧ DecV H y db ∧ DataOk da ∧ DataOk db ∧ Q (.bl (!PyData.eqv da db)) H
theorem op_eqD (hu : X.A.units + 64 < cLine) : OpR X (compareOp .Eq) rEqD := by
  intro pins s σ H x y v u Q I rx ry h
  obtain ⟨da, db, d1, d2, o1, o2, q⟩ := h
  obtain ⟨as, ra⟩ := d1.reads I rx
  obtain ⟨bs, rb⟩ := d2.reads I ry
  exact SeqAt.rcAt_reads ra rb o1.1 o2.1 (by have := o1.2; omega) _ _ _ _ ⟨.bl _, H, I, rfl, q⟩
theorem op_neD (hu : X.A.units + 64 < cLine) : OpR X (compareOp .NotEq) rNeD := by
  intro pins s σ H x y v u Q I rx ry h
  obtain ⟨da, db, d1, d2, o1, o2, q⟩ := h
  obtain ⟨as, ra⟩ := d1.reads I rx
  obtain ⟨bs, rb⟩ := d2.reads I ry
  exact SeqAt.rcNeAt_reads ra rb o1.1 o2.1 (by have := o1.2; omega) _ _ _ _ ⟨.bl _, H, I, rfl, q⟩
noncomputable def rAll (K : PySem.W.Frag) : List V → Hp → VK → Prop := fun xs H Q => ∃ (a : Addr) (bs : List Bool), xs = [.ref a] ∧ SqL K H a (bs.map V.bl) ∧ Q (.bl (bs.all id)) H
theorem bls_get : ∀ {bs : List Bool} {us : List Value} {i : Nat} {v : Value}, Vals (bs.map V.bl) us → us[i]? = some v → v = .bool (bs.getD i true)
  | [], _, _, _, .nil, e => by simp at e
  | b :: _, _, 0, _, .cons r _, e => by
    cases r
    simp at e
    simp [← e]
  | b :: bs, _, i + 1, _, .cons _ t, e => by
    have := bls_get (i := i) t (by simpa using e)
    simpa using this
theorem all_range (bs : List Bool) : (List.range bs.length).all (fun i => bs.getD i true) = bs.all id := by
  induction bs with
  | nil => rfl
  | cons b r ih =>
    rw [List.length_cons, List.range_succ_eq_map, List.all_cons, List.all_map, List.all_cons, ← ih]
    rfl
theorem call_all (hc : X.calm = true) : CallR X (.builtin "all") (rAll X.K) := by
  intro pins s σ H xs us Q I r h
  obtain ⟨a, bs, rfl, hq, q⟩ := h
  obtain ⟨u, rfl, ru⟩ := vals1 r
  cases ru
  obtain ⟨its, rv, p, hz⟩ := I.list hq
  have hl := rv.length
  rw [List.length_map] at hl
  refine PySem.call_all_walk (wpAny_pyIter_list p.isList ?_)
  have ha : a < s.heap.objs.size := by
    obtain ⟨o, n, e, _⟩ := p
    exact Heap.lt_size e
  refine ⟨s.heap.objs.size, _, _, _, _, _, fun i => bs.getD i true, rfl, Walks.list (show X.A.in1.handled = none from I.ok.hd hc) s.heap.objs.size a (Nat.ne_of_lt ha) its.toArray, ⟨⟨_, Heap.get?_push_size _ rfl, rfl, rfl⟩, p.isList.at fun o e => Heap.get?_push_of_some _ e⟩, ?_, ?_⟩
  · intro i v s' Q' E' hv hq'
    obtain rfl := bls_get rv (by simpa using hv)
    exact wpAny_truthy_bool hq'
  · intro h' tk k
    rw [List.size_toArray, ← hl, all_range]
    refine ⟨.bl _, H, I.kept (t' := tk) (fun b o e => ?_), rfl, q⟩
    exact k b o (by simp; exact Nat.ne_of_lt (Heap.lt_size e)) (Heap.get?_push_of_some _ e)
theorem pe_compN {N : List Str} {elt target iter : Expr} {scope : Scope} {pos : Pos} {wi : TI} {g : TG} {te : TE} (hc : X.calm = true)
    (hk : scope.kind = .function) (hfree : ∀ x ∈ scope.names, x.2 ≠ .free) (hcell : ∀ x ∈ scope.names, x.2 ≠ .cell) (hnames : ∀ x ∈ scope.names, x.2 = .local → scope.names.lookup x.1 = some .local)
    (hi : PI X target iter wi) (hg : ∀ C fp s2 H2, PG (cxComp X N scope C fp s2 H2) target g) (he : ∀ C fp s2 H2, PE (cxComp X N scope C fp s2 H2) elt te)
    (hs : ∀ x, foldedSetIterable iter X.env x = pure x := by intro _; rfl) : PE X (.ListComp elt [⟨target, iter, [], 0⟩] scope pos) (tComp N.length wi g te) :=
  pe_comp hc hk (fun x => ⟨fun z => hcell _ (PySem.mem_of_lookup z) rfl, fun z => hfree _ (PySem.mem_of_lookup z) rfl⟩) hfree hcell hnames hi hg he hs
end
noncomputable def CompW (xs : List V) (Pv : Nat → List V → Hp → Prop) (i m : Nat) (ys : List V) (H : Hp) : Prop := m = xs.length - i ∧ i ≤ xs.length ∧ ys.length = i ∧ Pv i ys H
theorem comp_next {xs : List V} {Pv : Nat → List V → Hp → Prop} {i m : Nat} {ys : List V} {x y : V} {H5 : Hp} {p : Addr} (hx : xs[i]? = some x) (hm : m = xs.length - i) (hl : ys.length = i) (e : H5 p = some (.lst ys)) (h : Pv (i + 1) (ys ++ [y]) (upd H5 p (.lst (ys ++ [y])))) :
    H5 p = some (.lst ys) ∧ ∃ m', m' < m ∧ CompW xs Pv (i + 1) m' (ys ++ [y]) (upd H5 p (.lst (ys ++ [y]))) := by
  have hi : i < xs.length := (List.getElem?_eq_some_iff.mp hx).1
  exact ⟨e, xs.length - (i + 1), by omega, rfl, by omega, by simp [hl], h⟩
section
end
end Lw

namespace Lw
open PySem PySem.Spec PyProof.Rows L2
noncomputable def cxCompF (X : Cx) (N : List Str) (scope : Scope) (cl : List (Str × Addr)) (C : Addr) (fp : List Addr) (s2 : Shared) (H2 : Hp) : Cx :=
  { X with N := N, s₀ := s2, H₀ := H2, env := compEnvC scope cl C X.env, outer := X.stack, stack := X.stack, ex := fp, fn := fun _ => false, pn := [], xe := fun _ _ => False }
noncomputable def Keep (σ τ : L2.St) : Prop := ∀ (i : Nat) (v : V), σ[i]? = some (some v) → τ[i]? = some (some v)
theorem keep1 {x : Option V} {r : L2.St} : Keep (none :: r) (x :: r) := fun i v h => by
  cases i with
  | zero => cases h
  | succ j => exact h
theorem keep2 {x y : Option V} {r : L2.St} : Keep (none :: none :: r) (x :: y :: r) := fun i v h => by
  cases i with
  | zero => cases h
  | succ j => cases j with
    | zero => cases h
    | succ k => exact h
noncomputable def CompGoF (σ0 : L2.St) (J : It) (g : TG) (te : TE) (Q : VK) (p : Addr) (H' : Hp) : Prop :=
  ∃ W : Nat → Nat → List V → Hp → Prop, (∃ m, W 0 m [] H') ∧ ∀ i m ys H2, W i m ys H2 → H2 p = some (.lst ys) ∧ ys.length < sizeLine ∧
    ((J.stop i H2 ∧ Q (.ref p) H2) ∨ (J.go i H2 ∧ ∀ x H3, J.yld i H2 x H3 → g x σ0 H3 fun σ4 H4 => Keep σ0 σ4 ∧ te σ4 H4 fun y H5 => H5 p = some (.lst ys) ∧ ∃ m', m' < m ∧ W (i + 1) m' (ys ++ [y]) (upd H5 p (.lst (ys ++ [y])))))
noncomputable def tCompF (own : Nat) (idx : List Nat) (wi : TI) (g : TG) (te : TE) : TE := fun σ H Q => wi σ H fun J H1 => ∀ p H', H1 p = none → Same H1 H' → H' p = some (.lst []) →
  CompGoF (List.replicate own none ++ idx.map fun j => (σ[j]?).getD none) J g te Q p H'
section
variable {X : Cx}
theorem cxCompF_ok {pins : List (Addr × Obj)} {σ : L2.St} {H1 : Hp} {s2 : Shared} {N : List Str} {scope : Scope} {cl : List (Str × Addr)} {C : Addr} {fp : List Addr} (I : Inv X pins σ H1 s2) (hk : scope.kind = .function)
    (hsub : ∀ x c, cl.lookup x = some c → X.env.cells.lookup x = some c) (hhas : ∀ x, ((relabel scope X.env).names.lookup x = some .cell ∨ (relabel scope X.env).names.lookup x = some .free) → ∃ c, cl.lookup x = some c)
    (hC : s2.heap.objs.size ≤ C) (hf : ∀ b ∈ fp, FpOk X pins H1 b) (hlt : ∀ b ∈ fp, b < s2.heap.objs.size) : (cxCompF X N scope cl C fp s2 H1).Ok where
  mod := I.ok.mod
  kind := hk
  glob := I.ok.glob
  blt := I.ok.blt
  above := hC
  inj := fun x y c h1 h2 => I.ok.inj x y c (hsub x c h1) (hsub y c h2)
  has := hhas
  cab := fun x c h _ => by cases h
  hd := I.ok.hd
  frames := I.ok.frames
  stk := .inl rfl
  exf := fun b hb => ⟨Nat.ne_of_lt (Nat.lt_of_lt_of_le (hlt b hb) hC), fun x c h => (hf b hb).2.2.2.2.1 x c (hsub x c h)⟩
  bs := I.bs
  bsz := Nat.le_trans I.ok.bsz I.sz
  noex := fun b o e hb => by
    rcases (hf b hb).2.2.2.1 with z | z
    · exact I.ok.noex b o e z
    · exact absurd (Nat.lt_of_lt_of_le (Heap.lt_size e) (Nat.le_trans I.ok.bsz z)) (Nat.lt_irrefl _)
  exfs := fun b hb z => (List.mem_cons.mp (I.stkSub b z)).elim (hf b hb).2.1 (hf b hb).2.2.1
  funs := I.stack
  frf := I.stkFree
theorem pe_compF {own : Nat} {idx : List Nat} {N : List Str} {elt target iter : Expr} {scope : Scope} {cl : List (Str × Addr)} {pos : Pos} {wi : TI} {g : TG} {te : TE} (hc : X.calm = true)
    (hk : scope.kind = .function) (hclos : closureFor scope X.env = pure cl) (hcell : ∀ x ∈ scope.names, x.2 ≠ .cell) (hnames : ∀ x ∈ scope.names, x.2 = .local → scope.names.lookup x.1 = some .local)
    (hsub : ∀ x c, cl.lookup x = some c → X.env.cells.lookup x = some c) (hhas : ∀ x, ((relabel scope X.env).names.lookup x = some .cell ∨ (relabel scope X.env).names.lookup x = some .free) → ∃ c, cl.lookup x = some c)
    (hlen : N.length = own + idx.length)
    (hidx : ∀ (k j : Nat) (x : Str), idx[k]? = some j → N[own + k]? = some x → X.N[j]? = some x ∧ X.env.kindOf x = some .cell ∧ (relabel scope X.env).names.lookup x = some .cell ∧ X.env.scope.names.lookup x = some .cell)
    (hi : PI X target iter wi) (hg : ∀ C fp s2 H2, PG (cxCompF X N scope cl C fp s2 H2) target g) (he : ∀ C fp s2 H2, PE (cxCompF X N scope cl C fp s2 H2) elt te)
    (hs : ∀ x, foldedSetIterable iter X.env x = pure x := by intro _; rfl) : PE X (.ListComp elt [⟨target, iter, [], 0⟩] scope pos) (tCompF own idx wi g te) := by
  intro pins s σ H Q I h
  rw [eval_ListComp]
  refine wpAny_comprehension_free (use := none) rfl hs hclos hk hnames (thn (hi pins s σ H _ I h) fun v s1 h1 => thn h1 fun itv s2 h2 => ?_)
  obtain ⟨it, fp, tn, J, H1, e, I2, T, st2, f2, hR⟩ := h2
  subst e
  have hlt : ∀ b ∈ fp, b < s2.heap.objs.size := fun b hb => by
    obtain ⟨o, ho, _⟩ := T.obj 0 _ st2 b hb
    exact Heap.lt_size ho
  refine wpAny_newObj_type (wpAny_newFunctionEnv hcell (by intro y hy; simp at hy) (fun h₁ hns₁ hsb₁ => ?_) hk)
  dsimp only at hns₁ hsb₁ ⊢
  generalize hHH : s2.heap.push { cls := .type "list", dict := none, data := .seq ([] : List Value).toArray } = HH at hns₁ hsb₁ ⊢
  have hCe : HH.objs.size = s2.heap.objs.size + 1 := by rw [← hHH, Heap.size_push]
  have hDC : s2.heap.objs.size ≠ HH.objs.size := by rw [hCe]; exact Nat.ne_of_lt (Nat.lt_succ_self _)
  have hCle : s2.heap.objs.size ≤ HH.objs.size := by rw [hCe]; exact Nat.le_succ _
  have old : ∀ b o, s2.heap.get? b = some o → h₁.get? b = some o := fun b o e => hsb₁.extBut b o (by rw [hCe]; exact Nat.ne_of_lt (Nat.lt_succ_of_lt (Heap.lt_size e))) (Heap.get?_push_of_some _ (hHH ▸ Heap.get?_push_of_some _ e))
  have hD : h₁.get? s2.heap.objs.size = some { cls := .type "list", dict := none, data := .seq ([] : List Value).toArray } := hsb₁.extBut _ _ hDC (Heap.get?_push_of_some _ (hHH ▸ Heap.get?_push_size _ rfl))
  have nD : H1 s2.heap.objs.size = none := I2.hok.fresh (Nat.le_refl _)
  obtain ⟨W, ⟨m0, w0⟩, turn⟩ := hR s2.heap.objs.size _ nD (same_upd (.lst []) nD) upd_same
  generalize hσ : (List.replicate own none ++ idx.map fun j => (σ[j]?).getD none : L2.St) = σ0 at turn
  have lσ : σ0.length = N.length := by rw [← hσ, List.length_append, List.length_replicate, List.length_map, hlen]
  have ok := cxCompF_ok (N := N) (cl := cl) (C := HH.objs.size) I2 hk hsub hhas hCle f2 hlt
  have oldC : ∀ c v, s2.heap.IsCell c v → h₁.IsCell c v := fun c v ⟨o, ho, hd⟩ => ⟨o, old c o ho, hd⟩
  have I4 : Inv (cxCompF X N scope cl HH.objs.size fp s2 H1) [] σ0 (upd H1 s2.heap.objs.size (.lst [])) { s2 with heap := h₁, toks := s2.toks + ([] : List (Str × Value)).length } := by
    refine ⟨ok, rfl, I2.bare, Un.laid old (Nat.le_refl _) nD, ⟨_, hns₁, fun i x v e1 e2 _ => ?_⟩, (fun x c z => ?_), ?_, (fun x c z => ?_), (fun p hp => nomatch hp), I2.hok.laid old (Nat.le_refl _) ?_, lσ⟩
    · -- a name of the def's
      rw [← hσ] at e2
      by_cases hi' : i < own
      · rw [List.getElem?_append_left (by rw [List.length_replicate]; exact hi'), List.getElem?_replicate] at e2
        split at e2 <;> cases e2
      · obtain ⟨k, rfl⟩ : ∃ k, i = own + k := ⟨i - own, by omega⟩
        rw [List.getElem?_append_right (by rw [List.length_replicate]; omega), List.length_replicate, Nat.add_sub_cancel_left, List.getElem?_map] at e2
        cases ej : idx[k]? with
        | none => rw [ej] at e2; cases e2
        | some j =>
          rw [ej, Option.map_some] at e2
          have e2 := Option.some.inj e2
          obtain ⟨n1, n2, n3, n4⟩ := hidx k j x ej e1
          have e3 : σ[j]? = some (some v) := by
            cases q : σ[j]? with
            | none => rw [q] at e2; cases e2
            | some y => rw [q, Option.getD_some] at e2; rw [e2]
          obtain ⟨m, hm, hl⟩ := I2.loc
          obtain ⟨u, ru, lk⟩ := hl j x v n1 e3 (.inr (.inl n4))
          refine ⟨u, ru, ?_⟩
          rcases lk with ⟨kl, _⟩ | ⟨_, c, hcl, hic⟩
          · rw [n2] at kl; cases kl
          · obtain ⟨c', hc'⟩ := hhas x (.inl n3)
            have : c' = c := Option.some.inj ((hsub x c' hc').symm.trans hcl)
            subst this
            exact .inr ⟨.inl n3, c', hc', oldC _ _ hic⟩
    · obtain ⟨v, hv⟩ := I2.cell x c (hsub x c z)
      exact ⟨v, oldC _ _ hv⟩
    · show (upd H1 s2.heap.objs.size (.lst [])) HH.objs.size = none
      rw [upd_ne (Ne.symm hDC)]
      exact I2.hok.fresh hCle
    · obtain ⟨v, hv⟩ := I2.cell x c (hsub x c z)
      show (upd H1 s2.heap.objs.size (.lst [])) c = none
      rw [upd_ne (Nat.ne_of_lt hv.lt)]
      exact I2.freeC x c (hsub x c z)
    · exact ⟨by show 0 ≤ sizeLine; decide, [], 0, .nil, hD⟩
  have stat : ∀ {H' : Hp}, (∀ b ∈ fp, H' b = none) → ∀ b ∈ fp, FpOk (cxCompF X N scope cl HH.objs.size fp s2 H1) [] H' b := fun hn b hb =>
    ⟨hn b hb, (ok.exf b hb).1, ok.exfs b hb, .inl hb, (ok.exf b hb).2, fun p hp => nomatch hp⟩
  have st4 : tn 0 h₁ := T.keep _ _ _ st2 fun b _ o e => old b o e
  have fr4 : ∀ b ∈ fp, (upd H1 s2.heap.objs.size (.lst [])) b = none := fun b hb => by
    rw [upd_ne (Nat.ne_of_lt (hlt b hb))]
    exact (f2 b hb).1
  have loop : codeAny (model X.prog X.w) X.A (.compLoop (.ListComp elt [⟨target, iter, [], 0⟩] scope pos) 0 (.ref it) (.ref s2.heap.objs.size) (compEnvC scope cl HH.objs.size X.env))
      (compPost (model X.prog X.w) X.A X.xe none (EP X pins σ Q) (.ref s2.heap.objs.size) HH.objs.size) { s2 with heap := h₁, toks := s2.toks + ([] : List (Str × Value)).length } := by
    refine compLoop_any (fun n s' => ∃ i ys H', Inv (cxCompF X N scope cl HH.objs.size fp s2 H1) [] σ0 H' s' ∧ tn i s'.heap ∧ (∀ b ∈ fp, H' b = none) ∧ W i n ys H') ?_ m0 ⟨0, [], _, I4, st4, fr4, w0⟩
    rintro n s3 ⟨i, ys, H3, I3, st3, fr3, w3⟩
    obtain ⟨hp3, hz3, hw⟩ := turn i n ys H3 w3
    rcases hw with ⟨stop, qn⟩ | ⟨go, step⟩
    · refine thn (T.done (cxCompF X N scope cl HH.objs.size fp s2 H1) rfl rfl rfl hc i [] s3 _ H3 _ I3 (stat fr3) st3 stop) fun r s4 ⟨hr, I5⟩ => ?_
      subst hr
      obtain ⟨m, hm, _⟩ := id I5.loc
      refine ⟨m, hm, fun h' sb => ⟨.ref s2.heap.objs.size, H3, ?_, rfl, qn⟩⟩
      have k : ∀ b o, b ≠ HH.objs.size → s4.heap.get? b = some o → h'.get? b = some o := fun b o hb e => sb.extBut b o hb e
      have nb : ∀ b o, s2.heap.get? b = some o → b ≠ HH.objs.size := fun b o e => by rw [hCe]; exact Nat.ne_of_lt (Nat.lt_succ_of_lt (Heap.lt_size e))
      have U := I5.base
      have fC : H3 HH.objs.size = none := I5.free
      refine I2.call' (ch := fp) (s' := { s4 with heap := h' }) I5.os ⟨fun b o e n hb hx => k b o (nb b o e) (U.keep b o e n hb hx), fun b o e n hb hx => ?_, U.free, fun b o e hx => ?_, U.tups, U.frzs, U.tbls⟩ (fun b u e => ?_) I5.bare (fun b hb => ⟨(f2 b hb).2.2.2.1, (f2 b hb).2.1, (f2 b hb).2.2.2.2.1, (f2 b hb).2.2.2.2.2⟩)
      · obtain ⟨sl, q⟩ := U.slot b o e n hb hx
        exact ⟨sl, k b _ (nb b o e) q⟩
      · obtain ⟨o', q⟩ := U.there b o e hx
        exact ⟨o', k b _ (nb b o e) q⟩
      · refine (I5.hok b u e).stay (fun c v hcc q => k c v ?_ q) (fun _ q => q) fun _ _ q => q
        rcases hcc with z | z
        · rw [z]
          intro y
          rw [y, fC] at e
          cases e
        · intro y
          rw [y, fC] at z
          cases z
    · refine wpAny_mono (T.item (cxCompF X N scope cl HH.objs.size fp s2 H1) rfl rfl rfl hc i [] s3 _ H3 (fun _ _ => False) I3 (stat fr3) st3 go) (fun r s4 ⟨u, hr, h4⟩ => ?_) fun _ _ z => z.elim
      subst hr
      refine wpAny_mono h4 (fun _ s5 ⟨x, H5, I5, r5, y5, st5, fr5⟩ => ?_) fun _ _ z => z.elim
      have I5' := I5.pinned (stat fr5) (T.obj _ _ st5)
      refine wpAny_mono (hg _ _ _ _ _ s5 _ H5 x u _ I5' r5 (step x H5 y5)) (fun _ s6 ⟨σ6, H6, I6, kp6, q6⟩ => ?_) fun _ _ z => z.elim
      refine wpAny_mono (he _ _ _ _ _ s6 σ6 H6 _ I6 q6) (fun y s7 ⟨yv, H7, I7, r7, q7⟩ => ?_) fun _ _ z => z.elim
      obtain ⟨e7, m', hm', w7⟩ := q7
      refine wpAny_mono (mt_append (X := cxCompF X N scope cl HH.objs.size fp s2 H1) _ s7 σ6 H7 (.ref s2.heap.objs.size) [yv] (.ref s2.heap.objs.size) [y] (fun _ H8 => H8 = upd H7 s2.heap.objs.size (.lst (ys ++ [yv]))) I7 rfl (.cons r7 .nil) ⟨_, ys, yv, rfl, rfl, e7, hz3, rfl⟩) (fun _ s8 ⟨_, H8, I8, _, q8⟩ => ?_) fun _ _ z => z.elim
      subst q8
      refine ⟨m', hm', i + 1, _, _, (I8.unpinned).weak (by rw [lσ, I8.len]; rfl) kp6, T.keep _ _ _ st5 fun b hb o e => (I8.pin (b, o) (List.mem_append_right _ (List.mem_append_right _ (mem_pinsAt hb e)))).1, fun b hb => ?_, w7⟩
      obtain ⟨o, e, d⟩ := T.obj _ _ st5 b hb
      exact (I8.pin (b, o) (List.mem_append_right _ (List.mem_append_right _ (mem_pinsAt hb e)))).2.1
  exact codeAny_compStart_list loop (T.self _ 0 _ _ _ st4 loop)
noncomputable def hasB (names : List (Str × NameKind)) (cl : List (Str × Addr)) : Bool := names.all fun y => match y.2 with
  | .cell => (cl.lookup y.1).isSome
  | .free => (cl.lookup y.1).isSome
  | _ => true
theorem has_of {names : List (Str × NameKind)} {cl : List (Str × Addr)} (h : hasB names cl = true) : ∀ x, (names.lookup x = some .cell ∨ names.lookup x = some .free) → ∃ c, cl.lookup x = some c := by
  intro x hx
  have all := List.all_eq_true.mp h
  rcases hx with hx | hx
  · have := all _ (PySem.mem_of_lookup hx)
    exact Option.isSome_iff_exists.mp this
  · have := all _ (PySem.mem_of_lookup hx)
    exact Option.isSome_iff_exists.mp this
theorem one_idx {X : Cx} {scope : Scope} {own j0 : Nat} {N : List Str} {x0 : Str} (h0 : N[own]? = some x0) (h : X.N[j0]? = some x0 ∧ X.env.kindOf x0 = some .cell ∧ (relabel scope X.env).names.lookup x0 = some .cell ∧ X.env.scope.names.lookup x0 = some .cell) :
    ∀ (k j : Nat) (x : Str), [j0][k]? = some j → N[own + k]? = some x → X.N[j]? = some x ∧ X.env.kindOf x = some .cell ∧ (relabel scope X.env).names.lookup x = some .cell ∧ X.env.scope.names.lookup x = some .cell := by
  intro k j x e1 e2
  match k, e1 with
  | 0, e1 =>
    cases e1
    rw [Nat.add_zero, h0] at e2
    cases e2
    exact h
  | k + 1, e1 => cases e1
end
theorem comp_by {J : It} {xs : List V} {σ0 : L2.St} {g : TG} {te : TE} {Q : VK} {p : Addr} {H' : Hp} (Pv : Nat → List V → Hp → Prop) (hz : xs.length < sizeLine) (h0 : Pv 0 [] H')
    (hgo : ∀ i ys H2, Pv i ys H2 → i < xs.length → J.go i H2 ∧ ∀ x H3, J.yld i H2 x H3 → H3 = H2 ∧ xs[i]? = some x) (hst : ∀ ys H2, Pv xs.length ys H2 → J.stop xs.length H2) (hl : ∀ i ys H2, Pv i ys H2 → H2 p = some (.lst ys))
    (hs : ∀ i m ys x H2, xs[i]? = some x → m = xs.length - i → ys.length = i → Pv i ys H2 → g x σ0 H2 fun σ4 H4 => Keep σ0 σ4 ∧ te σ4 H4 fun y H5 => H5 p = some (.lst ys) ∧ ∃ m', m' < m ∧ CompW xs Pv (i + 1) m' (ys ++ [y]) (upd H5 p (.lst (ys ++ [y]))))
    (hd : ∀ ys H2, ys.length = xs.length → Pv xs.length ys H2 → Q (.ref p) H2) : CompGoF σ0 J g te Q p H' := by
  unfold CompGoF
  refine ⟨CompW xs Pv, ⟨_, rfl, Nat.zero_le _, rfl, h0⟩, ?_⟩
  rintro i m ys H2 ⟨hm, hi, hy, hp⟩
  refine ⟨hl i ys H2 hp, by omega, ?_⟩
  by_cases hlt : i < xs.length
  · obtain ⟨g1, g2⟩ := hgo i ys H2 hp hlt
    refine .inr ⟨g1, fun x H3 y => ?_⟩
    obtain ⟨e3, z⟩ := g2 x H3 y
    subst e3
    exact hs i m ys x _ z hm hy hp
  · have ei : i = xs.length := by omega
    subst ei
    exact .inl ⟨hst ys H2 hp, hd ys H2 hy hp⟩
theorem comp_listF {K : PySem.W.Frag} {a : Addr} {xs : List V} {σ0 : L2.St} {g : TG} {te : TE} {Q : VK} {p : Addr} {H' : Hp} (Pv : Nat → List V → Hp → Prop) (hz : xs.length < sizeLine) (h0 : Pv 0 [] H')
    (hl : ∀ i ys H2, Pv i ys H2 → SqL K H2 a xs ∧ H2 p = some (.lst ys))
    (hs : ∀ i m ys x H2, xs[i]? = some x → m = xs.length - i → ys.length = i → Pv i ys H2 → g x σ0 H2 fun σ4 H4 => Keep σ0 σ4 ∧ te σ4 H4 fun y H5 => H5 p = some (.lst ys) ∧ ∃ m', m' < m ∧ CompW xs Pv (i + 1) m' (ys ++ [y]) (upd H5 p (.lst (ys ++ [y]))))
    (hd : ∀ ys H2, ys.length = xs.length → Pv xs.length ys H2 → Q (.ref p) H2) : CompGoF σ0 (Itl K a) g te Q p H' :=
  comp_by Pv hz h0 (fun i ys H2 h hi => ⟨⟨xs, xs[i], (hl i ys H2 h).1, by simp [hi]⟩, fun x H3 y => ⟨y.1, y.2 xs (hl i ys H2 h).1⟩⟩) (fun ys H2 h => ⟨xs, (hl _ ys H2 h).1, Nat.le_refl _⟩) (fun i ys H2 h => (hl i ys H2 h).2) hs hd
theorem comp_tupF {K : PySem.W.Frag} {a : Addr} {xs : List V} {σ0 : L2.St} {g : TG} {te : TE} {Q : VK} {p : Addr} {H' : Hp} (Pv : Nat → List V → Hp → Prop) (hz : xs.length < sizeLine) (h0 : Pv 0 [] H')
    (hl : ∀ i ys H2, Pv i ys H2 → SqT K H2 a xs ∧ H2 p = some (.lst ys))
    (hs : ∀ i m ys x H2, xs[i]? = some x → m = xs.length - i → ys.length = i → Pv i ys H2 → g x σ0 H2 fun σ4 H4 => Keep σ0 σ4 ∧ te σ4 H4 fun y H5 => H5 p = some (.lst ys) ∧ ∃ m', m' < m ∧ CompW xs Pv (i + 1) m' (ys ++ [y]) (upd H5 p (.lst (ys ++ [y]))))
    (hd : ∀ ys H2, ys.length = xs.length → Pv xs.length ys H2 → Q (.ref p) H2) : CompGoF σ0 (Itt K a) g te Q p H' :=
  comp_by Pv hz h0 (fun i ys H2 h hi => ⟨⟨xs, xs[i], (hl i ys H2 h).1, by simp [hi]⟩, fun x H3 y => ⟨y.1, y.2 xs (hl i ys H2 h).1⟩⟩) (fun ys H2 h => ⟨xs, (hl _ ys H2 h).1, Nat.le_refl _⟩) (fun i ys H2 h => (hl i ys H2 h).2) hs hd
section
theorem preSum_take (ns : List Int) : ∀ j, j ≤ ns.length → preSum (fun i => ns.getD i 0) j = (ns.take j).sum
  | 0, _ => by simp [preSum]
  | j + 1, h => by
    have hj : j < ns.length := h
    show preSum (fun i => ns.getD i 0) j + ns.getD j 0 = _
    rw [preSum_take ns j (by omega), List.take_succ_eq_append_getElem hj, List.sum_append, List.getD_eq_getElem?_getD, List.getElem?_eq_getElem hj]
    simp
theorem sum_bound {M : Int} : ∀ (ns : List Int), (∀ n ∈ ns, 0 ≤ n ∧ n ≤ M) → 0 ≤ ns.sum ∧ ns.sum ≤ ns.length * M
  | [], _ => by simp
  | n :: r, h => by
    have h1 := h n (by simp)
    have h2 := sum_bound r fun m hm => h m (by simp [hm])
    rw [List.sum_cons, List.length_cons, Int.natCast_succ, Int.add_mul]
    omega
noncomputable def rSumT (K : PySem.W.Frag) : List V → Hp → VK → Prop := fun xs H Q => ∃ (a : Addr) (ns : List Int), xs = [.ref a] ∧ SqT K H a (ns.map V.int) ∧ (∀ n ∈ ns, 0 ≤ n ∧ n ≤ 2 ^ 40) ∧ ns.length ≤ 1000 ∧ Q (.int ns.sum) H
theorem call_sumT (hc : X.calm = true) : CallR X (.builtin "sum") (rSumT X.K) := by
  intro pins s σ H xs us Q I r h
  obtain ⟨a, ns, rfl, hq, hb, hn, q⟩ := h
  obtain ⟨u, rfl, ru⟩ := vals1 r
  cases ru
  obtain ⟨its, rv, p, hz⟩ := I.tuple hq
  have i1 : IntsAre its ns := intsAre_of rv
  have hl := ints_len i1
  have ha : a < s.heap.objs.size := by
    obtain ⟨o, e, _⟩ := p
    exact Heap.lt_size e
  refine PySem.call_sum_walk (wpAny_pyIter_tuple (t := a) (items := its.toArray) p ?_)
  refine ⟨s.heap.objs.size, _, _, _, _, _, fun i => ns.getD i 0, rfl, Walks.tuple (show X.A.in1.handled = none from I.ok.hd hc) s.heap.objs.size a (Nat.ne_of_lt ha) its.toArray, ⟨⟨_, Heap.get?_push_size _ rfl, rfl, rfl⟩, p.keeps fun b o e => Heap.get?_push_of_some _ e⟩, ?_, ?_, ?_, ?_⟩
  · intro b hb
    show b < (s.heap.push _).objs.size
    rw [Heap.size_push]
    simp only [List.mem_cons, List.not_mem_nil, or_false] at hb
    rcases hb with rfl | rfl
    · exact Nat.lt_succ_self _
    · exact Nat.lt_succ_of_lt ha
  · intro i v hv
    have hv' : its[i]? = some v := by simpa using hv
    obtain ⟨hi, e⟩ := List.getElem?_eq_some_iff.mp hv'
    obtain ⟨n, t, e1, e2⟩ := ints_get i1 hi
    exact ⟨t, by dsimp only; rw [← e, e2, List.getD_eq_getElem?_getD, e1]; rfl⟩
  · intro j hj
    have hj' : j < ns.length := by rw [← hl]; simpa using hj
    have b1 := hb ns[j] (List.getElem_mem hj')
    have b2 := sum_bound (ns.take (j + 1)) fun n hn' => hb n (List.mem_of_mem_take hn')
    have e1 : ns.getD j 0 = ns[j] := by rw [List.getD_eq_getElem?_getD, List.getElem?_eq_getElem hj']; rfl
    have l1 : (ns.take (j + 1)).length ≤ 1000 := by rw [List.length_take]; omega
    dsimp only
    rw [preSum_take ns (j + 1) hj', e1]
    unfold InLong
    refine ⟨⟨by omega, by omega⟩, ⟨by omega, ?_⟩⟩
    have : ((ns.take (j + 1)).length : Int) * 2 ^ 40 ≤ 1000 * 2 ^ 40 := Int.mul_le_mul_of_nonneg_right (by omega) (by decide)
    omega
  · intro h' tk t' k
    have e : preSum (fun i => ns.getD i 0) its.toArray.size = ns.sum := by
      rw [List.size_toArray, hl, preSum_take ns _ (Nat.le_refl _), List.take_length]
    rw [e]
    refine ⟨.int ns.sum, H, I.kept (t' := tk) (fun b o q => ?_), ⟨t', rfl⟩, q⟩
    exact k b o (by simp; exact Nat.ne_of_lt (Heap.lt_size q)) (Heap.get?_push_of_some _ q)
end
end Lw

namespace LwT
open PySem PySem.Spec PyProof.Rows L2 Lw
noncomputable def lexI (f : Int → Int → Bool) (g : Nat → Nat → Bool) : List Int → List Int → Bool
  | x :: xs, y :: ys => if x = y then lexI f g xs ys else f x y
  | xs, ys => g xs.length ys.length
noncomputable abbrev lexLt : List Int → List Int → Bool := lexI (fun i j => decide (i < j)) (fun m n => decide (m < n))
noncomputable abbrev lexNe : List Int → List Int → Bool := lexI (fun _ _ => true) (fun m n => m != n)
noncomputable abbrev lexGe : List Int → List Int → Bool := lexI (fun i j => decide (j ≤ i)) (fun m n => decide (n ≤ m))
theorem lexI_nil_left {f g} {ys : List Int} : lexI f g [] ys = g 0 ys.length := by cases ys <;> rfl
theorem lexI_nil_right {f g} {xs : List Int} : lexI f g xs [] = g xs.length 0 := by cases xs <;> rfl
theorem lexGe_eq : ∀ (xs ys : List Int), lexGe xs ys = !lexLt xs ys
  | [], ys => by
    show lexI _ _ _ _ = !lexI _ _ _ _
    rw [lexI_nil_left, lexI_nil_left]
    cases ys <;> simp
  | x :: xs, [] => by
    show lexI _ _ _ _ = !lexI _ _ _ _
    rw [lexI_nil_right, lexI_nil_right]
    simp
  | x :: xs, y :: ys => by
    show (if x = y then lexGe xs ys else _) = !(if x = y then lexLt xs ys else _)
    by_cases h : x = y
    · rw [if_pos h, if_pos h]
      exact lexGe_eq xs ys
    · rw [if_neg h, if_neg h]
      by_cases h2 : x < y
      · simp [h2, show ¬ y ≤ x by omega]
      · simp [h2, show y ≤ x by omega]
theorem lexNe_eq : ∀ (xs ys : List Int), lexI (fun _ _ => true) (fun m n => m != n) xs ys = !decide (xs = ys)
  | [], ys => by
    rw [lexI_nil_left]
    cases ys <;> simp
  | x :: xs, [] => by
    rw [lexI_nil_right]
    simp
  | x :: xs, y :: ys => by
    show (if x = y then lexI _ _ xs ys else true) = _
    by_cases h : x = y
    · rw [if_pos h, lexNe_eq xs ys]
      simp [h]
    · rw [if_neg h]
      simp [h]
theorem lex_end {f : Int → Int → Bool} {g : Nat → Nat → Bool} {xs ys : List Int} {i : Nat} (h : min xs.length ys.length ≤ i) : lexI f g (xs.drop i) (ys.drop i) = g (xs.length - i) (ys.length - i) := by
  by_cases hx : xs.length ≤ i
  · rw [List.drop_of_length_le hx, lexI_nil_left, List.length_drop]
    rw [show xs.length - i = 0 by omega]
  · have hy : ys.length ≤ i := by omega
    rw [List.drop_of_length_le hy, lexI_nil_right, List.length_drop]
    rw [show ys.length - i = 0 by omega]
theorem drop_ints {vs : List Value} {ns : List Int} (r : IntsAre vs ns) {i : Nat} (h : i < vs.length) : ∃ n t, vs[i] = .int n t ∧ ns.drop i = n :: ns.drop (i + 1) := by
  obtain ⟨n, t, e1, e2⟩ := ints_get r h
  refine ⟨n, t, e2, ?_⟩
  obtain ⟨hi, e⟩ := List.getElem?_eq_some_iff.mp e1
  rw [List.drop_eq_getElem_cons hi, e]
section
variable {l b : Addr} {as bs : List Value} {xs ys : List Int} {n n2 : Nat} {dd dd2 : Option Addr} {sl sl2 : Array (Option Value)}
theorem tuple_lt (ra : IntsAre as xs) (rb : IntsAre bs ys) :
    Meets (Builtin.«tuple.__lt__» ⟨[.ref l, .ref b], []⟩)
      (fun _ R s => s.heap.get? l = some { cls := .type "tuple", dict := dd, data := .seq as.toArray n, slots := sl } ∧ s.heap.get? b = some { cls := .type "tuple", dict := dd2, data := .seq bs.toArray n2, slots := sl2 } ∧
        R (.ok (.ret (.bool (lexLt xs ys)))) s) :=
  .of_wp fun prog w A R s h => by
    obtain ⟨hp, g, d, tk, os⟩ := s
    obtain ⟨hl, hb, h⟩ := h
    have f2 := AutoSeq1.sub_tuple_tuple
    have la := ints_len ra
    have lb := ints_len rb
    have hZ : (as.zip bs).length = min as.length bs.length := by simp
    wp_walk using wpAny_loadPart' hl, wpAny_loadPart' hb, wpAny_forIn_list _ (fun rest b s' => b.1 = none ∧ s' = ⟨hp, g, d, tk, os⟩ ∧ ∃ i, i ≤ (as.zip bs).length ∧ rest = (as.zip bs).drop i ∧
      R (.ok (.ret (.bool (lexLt (xs.drop i) (ys.drop i))))) ⟨hp, g, d, tk, os⟩) _
    case turn =>
      rintro ⟨y, x⟩ rest b s' ⟨hb', rfl, i, hi, hz, hR⟩
      have hlt : i < (as.zip bs).length := by
        rcases Nat.lt_or_ge i (as.zip bs).length with h' | h'
        · exact h'
        · rw [List.drop_of_length_le h'] at hz; cases hz
      have h1 : i < as.length := by omega
      have h2 : i < bs.length := by omega
      rw [List.drop_eq_getElem_cons hlt] at hz
      injection hz with hyx hrest
      obtain ⟨p, t1, e1, d1⟩ := drop_ints ra h1
      obtain ⟨q, t2, e2, d2⟩ := drop_ints rb h2
      have hy : y = .int p t1 := by have := congrArg Prod.fst hyx; rw [← e1]; simpa using this
      have hx : x = .int q t2 := by have := congrArg Prod.snd hyx; rw [← e2]; simpa using this
      subst hy hx
      rw [d1, d2] at hR
      have hR : R (.ok (.ret (.bool (if p = q then lexLt (xs.drop (i + 1)) (ys.drop (i + 1)) else decide (p < q))))) ⟨hp, g, d, tk, os⟩ := hR
      refine wpAny_bind (SeqAt.EqAt.int_int _ _ _ _ prog w _ _ ?_)
      by_cases hpq : p = q
      · rw [if_pos hpq] at hR
        have e : (p == q) = true := by simp [hpq]
        rw [e]
        wp_walk
        exact ⟨rfl, rfl, i + 1, hlt, hrest, hR⟩
      · rw [if_neg hpq] at hR
        have e : (p == q) = false := by simp [hpq]
        rw [e]
        simp only [Bool.not_false, if_true]
        refine wpAny_bind (wpAny_rule ?_)
        refine wpAny_bind (lt_int (a := p) (b := q) ?_)
        wp_walk
        exact ⟨_, rfl, hR⟩
    case fin =>
      rintro ⟨b1, b2⟩ s' ⟨hb', rfl, i, hi, hz, hR⟩
      simp only at hb'
      subst hb'
      have hge : min as.length bs.length ≤ i := by
        rcases Nat.lt_or_ge i (as.zip bs).length with h' | h'
        · rw [List.drop_eq_getElem_cons h'] at hz; cases hz
        · exact hZ ▸ h'
      have e : lexLt (xs.drop i) (ys.drop i) = decide (xs.length - i < ys.length - i) := lex_end (by rw [la, lb] at hge; exact hge)
      have e2 : decide (xs.length - i < ys.length - i) = decide (as.length < bs.length) := by
        rw [hZ] at hi
        by_cases q : as.length < bs.length
        · rw [decide_eq_true q, decide_eq_true (by omega)]
        · rw [decide_eq_false q, decide_eq_false (by omega)]
      rw [e, e2] at hR
      wp_walk
      exact ⟨_, rfl, by simpa [Builtin.Tuple.tupleCompareSizes] using hR⟩
    case h =>
      exact ⟨rfl, rfl, 0, Nat.zero_le _, rfl, by simpa using h⟩
theorem tuple_ne (ra : IntsAre as xs) (rb : IntsAre bs ys) :
    Meets (Builtin.«tuple.__ne__» ⟨[.ref l, .ref b], []⟩)
      (fun _ R s => s.heap.get? l = some { cls := .type "tuple", dict := dd, data := .seq as.toArray n, slots := sl } ∧ s.heap.get? b = some { cls := .type "tuple", dict := dd2, data := .seq bs.toArray n2, slots := sl2 } ∧
        R (.ok (.ret (.bool (lexNe xs ys)))) s) :=
  .of_wp fun prog w A R s h => by
    obtain ⟨hp, g, d, tk, os⟩ := s
    obtain ⟨hl, hb, h⟩ := h
    have f2 := AutoSeq1.sub_tuple_tuple
    have la := ints_len ra
    have lb := ints_len rb
    have hZ : (as.zip bs).length = min as.length bs.length := by simp
    wp_walk using wpAny_loadPart' hl, wpAny_loadPart' hb, wpAny_forIn_list _ (fun rest b s' => b.1 = none ∧ s' = ⟨hp, g, d, tk, os⟩ ∧ ∃ i, i ≤ (as.zip bs).length ∧ rest = (as.zip bs).drop i ∧
      R (.ok (.ret (.bool (lexNe (xs.drop i) (ys.drop i))))) ⟨hp, g, d, tk, os⟩) _
    case turn =>
      rintro ⟨y, x⟩ rest b s' ⟨hb', rfl, i, hi, hz, hR⟩
      have hlt : i < (as.zip bs).length := by
        rcases Nat.lt_or_ge i (as.zip bs).length with h' | h'
        · exact h'
        · rw [List.drop_of_length_le h'] at hz; cases hz
      have h1 : i < as.length := by omega
      have h2 : i < bs.length := by omega
      rw [List.drop_eq_getElem_cons hlt] at hz
      injection hz with hyx hrest
      obtain ⟨p, t1, e1, d1⟩ := drop_ints ra h1
      obtain ⟨q, t2, e2, d2⟩ := drop_ints rb h2
      have hy : y = .int p t1 := by have := congrArg Prod.fst hyx; rw [← e1]; simpa using this
      have hx : x = .int q t2 := by have := congrArg Prod.snd hyx; rw [← e2]; simpa using this
      subst hy hx
      rw [d1, d2] at hR
      have hR : R (.ok (.ret (.bool (if p = q then lexNe (xs.drop (i + 1)) (ys.drop (i + 1)) else true)))) ⟨hp, g, d, tk, os⟩ := hR
      refine wpAny_bind (SeqAt.EqAt.int_int _ _ _ _ prog w _ _ ?_)
      by_cases hpq : p = q
      · rw [if_pos hpq] at hR
        have e : (p == q) = true := by simp [hpq]
        rw [e]
        wp_walk
        exact ⟨rfl, rfl, i + 1, hlt, hrest, hR⟩
      · rw [if_neg hpq] at hR
        have e : (p == q) = false := by simp [hpq]
        rw [e]
        wp_walk
        exact ⟨_, rfl, hR⟩
    case fin =>
      rintro ⟨b1, b2⟩ s' ⟨hb', rfl, i, hi, hz, hR⟩
      simp only at hb'
      subst hb'
      have hge : min as.length bs.length ≤ i := by
        rcases Nat.lt_or_ge i (as.zip bs).length with h' | h'
        · rw [List.drop_eq_getElem_cons h'] at hz; cases hz
        · exact hZ ▸ h'
      have e : lexNe (xs.drop i) (ys.drop i) = (xs.length - i != ys.length - i) := lex_end (by rw [la, lb] at hge; exact hge)
      have e2 : (xs.length - i != ys.length - i) = (as.length != bs.length) := by
        rw [hZ] at hi
        by_cases q : as.length = bs.length
        · have q2 : xs.length - i = ys.length - i := by omega
          rw [bne, bne, q2, q, beq_self_eq_true, beq_self_eq_true]
        · have q2 : ¬ xs.length - i = ys.length - i := by omega
          rw [bne, bne, beq_eq_false_iff_ne.mpr q2, beq_eq_false_iff_ne.mpr q]
      rw [e, e2] at hR
      wp_walk
      exact ⟨_, rfl, by simpa [Builtin.Tuple.tupleCompareSizes] using hR⟩
    case h =>
      exact ⟨rfl, rfl, 0, Nat.zero_le _, rfl, by simpa using h⟩
end
section
variable {X : Cx}
noncomputable def rOrdT (K : PySem.W.Frag) (f : List Int → List Int → Bool) : R2 := fun x y H Q => ∃ (a b : Addr) (ns ms : List Int), x = .ref a ∧ y = .ref b ∧ SqT K H a (ns.map V.int) ∧ SqT K H b (ms.map V.int) ∧ Q (.bl (f ns ms)) H
theorem op_ltT (hu : X.A.units < cLine) : OpR X (compareOp .Lt) (rOrdT X.K lexLt) := by
  intro pins s σ H x y v u Q I rx ry h
  obtain ⟨a, b, ns, ms, rfl, rfl, ha, hb, q⟩ := h
  cases rx
  cases ry
  obtain ⟨its, r1, p1, _⟩ := I.tuple ha
  obtain ⟨its2, r2, p2, _⟩ := I.tuple hb
  obtain ⟨⟨cls, dd, data, sl⟩, ho, hc, n, hd⟩ := id p1
  obtain ⟨⟨cls2, dd2, data2, sl2⟩, ho2, hc2, n2, hd2⟩ := id p2
  simp only at hc hd hc2 hd2
  subst hc hd hc2 hd2
  exact richCompare_meets_room (op := .Lt) ⟨_, ho, rfl⟩ ⟨_, ho2, rfl⟩ PySem.F.slot_tuple_lt PySem.F.entry_tuple_lt (PySem.F.args_tuple_lt_2 _ _) (tuple_lt (intsAre_of r1) (intsAre_of r2)) ⟨ho, ho2, show Value.bool _ ≠ Value.notImplemented ∧ _ from ⟨(fun z => nomatch z), ⟨.bl _, H, I, rfl, q⟩⟩⟩ hu
theorem op_neT (hu : X.A.units < cLine) : OpR X (compareOp .NotEq) (rOrdT X.K lexNe) := by
  intro pins s σ H x y v u Q I rx ry h
  obtain ⟨a, b, ns, ms, rfl, rfl, ha, hb, q⟩ := h
  cases rx
  cases ry
  obtain ⟨its, r1, p1, _⟩ := I.tuple ha
  obtain ⟨its2, r2, p2, _⟩ := I.tuple hb
  obtain ⟨⟨cls, dd, data, sl⟩, ho, hc, n, hd⟩ := id p1
  obtain ⟨⟨cls2, dd2, data2, sl2⟩, ho2, hc2, n2, hd2⟩ := id p2
  simp only at hc hd hc2 hd2
  subst hc hd hc2 hd2
  exact richCompare_meets_room (op := .NotEq) ⟨_, ho, rfl⟩ ⟨_, ho2, rfl⟩ PySem.F.slot_tuple_ne PySem.F.entry_tuple_ne (PySem.F.args_tuple_ne_2 _ _) (tuple_ne (intsAre_of r1) (intsAre_of r2)) ⟨ho, ho2, show Value.bool _ ≠ Value.notImplemented ∧ _ from ⟨(fun z => nomatch z), ⟨.bl _, H, I, rfl, q⟩⟩⟩ hu
end
end LwT


namespace L2
open PySem PySem.Spec PyProof.Rows

section
variable {κ : Type} [DecidableEq κ]
noncomputable def valV (kvs : List (κ × V)) (k : κ) : Option V := (kvs.find? fun kv => decide (kv.1 = k)).map (·.2)
noncomputable def putK (kvs : List (κ × V)) (k : κ) (v : V) : List (κ × V) :=
  if (kvs.any fun kv => decide (kv.1 = k)) = true then kvs.map (fun kv => if kv.1 = k then (kv.1, v) else kv) else kvs ++ [(k, v)]
noncomputable def dropK (kvs : List (κ × V)) (k : κ) : List (κ × V) := kvs.filter fun kv => decide (kv.1 ≠ k)

theorem valV_pos {p : κ × V} {r : List (κ × V)} {k : κ} (e : p.1 = k) : valV (p :: r) k = some p.2 := by simp [valV, List.find?_cons, e]
theorem valV_neg {p : κ × V} {r : List (κ × V)} {k : κ} (e : ¬ p.1 = k) : valV (p :: r) k = valV r k := by simp [valV, List.find?_cons, e]
theorem valV_any (k : κ) : ∀ kvs : List (κ × V), (kvs.any fun kv => decide (kv.1 = k)) = (valV kvs k).isSome
  | [] => rfl
  | p :: r => by
    rw [List.any_cons]
    by_cases e : p.1 = k
    · simp only [valV_pos e, decide_eq_true e, Bool.true_or, Option.isSome_some]
    · rw [valV_neg e, decide_eq_false e, Bool.false_or]; exact valV_any k r
theorem length_putK (kvs : List (κ × V)) (k : κ) (v : V) : (putK kvs k v).length ≤ kvs.length + 1 := by
  unfold putK
  split
  · rw [List.length_map]; omega
  · rw [List.length_append, List.length_cons, List.length_nil]; omega

theorem RelO.isSome_eq {o : Option V} {u : Option Value} (r : RelO o u) : o.isSome = u.isSome := by
  cases o with
  | none => cases u with
    | none => rfl
    | some _ => exact (show False from r).elim
  | some _ => cases u with
    | none => exact (show False from r).elim
    | some _ => rfl
theorem RelO.getD {o : Option V} {u : Option Value} {d : V} {d' : Value} (r : RelO o u) (rd : RelV d d') : RelV (o.getD d) (u.getD d') := by
  cases o with
  | none => cases u with
    | none => exact rd
    | some _ => exact (show False from r).elim
  | some _ => cases u with
    | none => exact (show False from r).elim
    | some _ => exact r

theorem KV.val {kvs : List (κ × V)} {vs : List (κ × Value)} (r : KV kvs vs) (k : κ) : RelO (valV kvs k) (valueAt vs k) := by
  unfold KV at r
  induction r with
  | nil => exact True.intro
  | @cons p q ps qs h t ih =>
    obtain ⟨h1, h2⟩ := h
    by_cases e : p.1 = k
    · have e' : q.1 = k := h1.symm.trans e
      have b : valueAt (q :: qs) k = some q.2 := by simp [valueAt, List.find?_cons, e']
      rw [valV_pos e, b]; exact h2
    · have e' : ¬ q.1 = k := fun z => e (h1.trans z)
      have b : valueAt (q :: qs) k = valueAt qs k := by simp [valueAt, List.find?_cons, e']
      rw [valV_neg e, b]; exact ih
theorem KV.any {kvs : List (κ × V)} {vs : List (κ × Value)} (r : KV kvs vs) (k : κ) : (kvs.any fun kv => decide (kv.1 = k)) = vs.any fun kv => decide (kv.1 = k) := by
  unfold KV at r
  induction r with
  | nil => rfl
  | cons h t ih => rw [List.any_cons, List.any_cons, ih, h.1]
theorem KV.repl {kvs : List (κ × V)} {vs : List (κ × Value)} (r : KV kvs vs) (k : κ) {y : V} {u : Value} (ry : RelV y u) :
    KV (kvs.map fun kv => if kv.1 = k then (kv.1, y) else kv) (vs.map fun kv => if kv.1 = k then (kv.1, u) else kv) := by
  unfold KV at r ⊢
  induction r with
  | nil => exact .nil
  | @cons p q ps qs h t ih =>
    rw [List.map_cons, List.map_cons]
    refine .cons ?_ ih
    obtain ⟨h1, h2⟩ := h
    by_cases e : p.1 = k
    · rw [if_pos e, if_pos (h1.symm.trans e)]; exact ⟨h1, ry⟩
    · rw [if_neg e, if_neg (fun z => e (h1.trans z))]; exact ⟨h1, h2⟩
theorem KV.put {kvs : List (κ × V)} {vs : List (κ × Value)} (r : KV kvs vs) (k : κ) {y : V} {u : Value} (ry : RelV y u) : KV (putK kvs k y) (stored vs k u) := by
  unfold putK stored
  rw [r.any k]
  by_cases e : (vs.any fun kv => decide (kv.1 = k)) = true
  · rw [if_pos e, if_pos e]; exact r.repl k ry
  · rw [if_neg e, if_neg e]; exact Paired.snoc r ⟨rfl, ry⟩
theorem KV.length {kvs : List (κ × V)} {vs : List (κ × Value)} (r : KV kvs vs) : kvs.length = vs.length := Paired.length r
theorem dropK_le (kvs : List (κ × V)) (k : κ) : (dropK kvs k).length ≤ kvs.length := List.length_filter_le _ _
end


theorem kV_is {P : Program} {w : World} {k : Key} {u : Value} (r : RelV (kV k) u) : (mixKind P w).is k u = true := by
  cases k with
  | inl i => obtain ⟨t, e⟩ := (show ∃ t, u = Value.int i t from r); subst e; exact mixKind_int P w i t
  | inr x => obtain ⟨t, e⟩ := (show ∃ t, u = Value.str x t from r); subst e; exact mixKind_str P w x t
theorem items_are {P : Program} {w : World} : ∀ {ks : List Key} {us : List Value}, Vals (ks.map kV) us → ItemsAre (mixKind P w) ks us
  | [], _, r => by rw [List.map_nil] at r; cases r; exact .nil
  | k :: ks, _, r => by
    rw [List.map_cons] at r
    cases r with
    | cons h t => exact .cons (kV_is h) (items_are t)

noncomputable abbrev KT (H : Hp) : List (List Key × V) → List (List Key × Addr × Value) → Prop := Paired fun p q => p.1 = q.1 ∧ H q.2.1 = some (.tup (p.1.map kV)) ∧ RelV p.2 q.2.2
theorem KT.val {H : Hp} {kvs : List (List Key × V)} {xs : List (List Key × Addr × Value)} (r : KT H kvs xs) (k : List Key) : RelO (valV kvs k) ((atKey xs k).map (·.2)) := by
  induction r with
  | nil => exact True.intro
  | @cons p q ps qs h t ih =>
    obtain ⟨h1, _, h2⟩ := h
    by_cases e : p.1 = k
    · have e' : q.1 = k := h1.symm.trans e
      have b : atKey (q :: qs) k = some q.2 := by simp [atKey, List.find?_cons, e']
      rw [valV_pos e, b]; exact h2
    · have e' : ¬ q.1 = k := fun z => e (h1.trans z)
      have b : atKey (q :: qs) k = atKey qs k := by simp [atKey, List.find?_cons, e']
      rw [valV_neg e, b]; exact ih
theorem KT.repl {H : Hp} {kvs : List (List Key × V)} {xs : List (List Key × Addr × Value)} (r : KT H kvs xs) (k : List Key) {y : V} {u : Value} (ry : RelV y u) :
    KT H (kvs.map fun kv => if kv.1 = k then (kv.1, y) else kv) (xs.map (putAt k u)) := by
  induction r with
  | nil => exact .nil
  | @cons p q ps qs h t ih =>
    rw [List.map_cons, List.map_cons]
    refine .cons ?_ ih
    obtain ⟨h1, h2, h3⟩ := h
    unfold putAt
    by_cases e : p.1 = k
    · rw [if_pos e, if_pos (h1.symm.trans e)]; exact ⟨h1, h2, ry⟩
    · rw [if_neg e, if_neg (fun z => e (h1.trans z))]; exact ⟨h1, h2, h3⟩
theorem KT.put {H : Hp} {kvs : List (List Key × V)} {xs : List (List Key × Addr × Value)} (r : KT H kvs xs) (k : List Key) {b : Addr} {y : V} {u : Value} (hb : H b = some (.tup (k.map kV))) (ry : RelV y u) :
    KT H (putK kvs k y) (storedH xs k b u) := by
  have e : (kvs.any fun kv => decide (kv.1 = k)) = (atKey xs k).isSome := by
    rw [valV_any, (r.val k).isSome_eq, Option.isSome_map]
  unfold putK storedH
  rw [e]
  by_cases q : (atKey xs k).isSome = true
  · rw [if_pos q, if_pos q]; exact r.repl k ry
  · rw [if_neg q, if_neg q]; exact Paired.snoc r ⟨rfl, hb, ry⟩
theorem KT.keeps {H H' : Hp} {kvs : List (List Key × V)} {xs : List (List Key × Addr × Value)} (r : KT H kvs xs) (ht : ∀ b ys, H b = some (.tup ys) → H' b = some (.tup ys)) : KT H' kvs xs :=
  Paired.mapP r fun _ _ z => ⟨z.1, ht _ _ z.2.1, z.2.2⟩

section
variable {P : Program} {w : World} {H : Hp} {h : Heap} {a : Addr}
theorem rd_of {u : HO} (ok : HOk P w H h) (e : Rd H a u) : ObjOk P w H h a u := e.ok ok
theorem dk_rd {kvs : List (Key × V)} (ok : HOk P w H h) (e : Rd H a (.dK kvs)) : kvs.length ≤ sizeLine ∧ (a == sysModules) = false ∧ ∃ vs, KV kvs vs ∧ h.DictOf (mixKind P w) a vs :=
  show ObjOk P w H h a (.dK kvs) from rd_of ok e
theorem dk_of {kvs : List (Key × V)} (ok : HOk P w H h) (e : H a = some (.dK kvs)) : kvs.length ≤ sizeLine ∧ (a == sysModules) = false ∧ ∃ vs, KV kvs vs ∧ h.DictOf (mixKind P w) a vs := dk_rd ok (.inl e)
theorem key_of {ks : List Key} (ok : HOk P w H h) (e : H a = some (.tup (ks.map kV))) : (tupleKind (mixKind P w)).is h ks a := by
  obtain ⟨_, its, r, o, h1, h2, n, h3⟩ := (show ObjOk P w H h a (.tup (ks.map kV)) from ok a _ e)
  exact ⟨o, its.toArray, n, h1, h2, h3, by simpa using items_are r⟩
theorem dt_rd {kvs : List (List Key × V)} (ok : HOk P w H h) (e : Rd H a (.dT kvs)) : kvs.length ≤ sizeLine ∧ (a == sysModules) = false ∧
    ∃ xs, KT H kvs xs ∧ h.DictOfH (tupleKind (mixKind P w)) a xs := by
  obtain ⟨z, y, xs, r, o, es, ep, h1, h2, h3, h4, h5⟩ := (show ObjOk P w H h a (.dT kvs) from rd_of ok e)
  refine ⟨z, y, xs, r, o, es, ep, h1, h2, h3, h4, fun x hx => ?_, h5⟩
  have all : ∀ {l : List (List Key × V)} {m : List (List Key × Addr × Value)}, KT H l m → ∀ x ∈ m, (tupleKind (mixKind P w)).is h x.1 x.2.1 := by
    intro l m q
    induction q with
    | nil => intro x hx; exact nomatch hx
    | @cons p q ps qs hq t ih =>
      intro x hx
      rcases List.mem_cons.mp hx with e | hx
      · subst e
        exact key_of ok (by rw [← hq.1]; exact hq.2.1)
      · exact ih x hx
  exact all r x hx
theorem dt_of {kvs : List (List Key × V)} (ok : HOk P w H h) (e : H a = some (.dT kvs)) : kvs.length ≤ sizeLine ∧ (a == sysModules) = false ∧
    ∃ xs, KT H kvs xs ∧ h.DictOfH (tupleKind (mixKind P w)) a xs := dt_rd ok (.inl e)
end

noncomputable def DGet (H : Hp) (a : Addr) (y : V) (r : Option V) : Prop :=
  (∃ kvs k, Rd H a (.dK kvs) ∧ y = kV k ∧ r = valV kvs k) ∨ ∃ kvs k b, Rd H a (.dT kvs) ∧ y = .ref b ∧ H b = some (.tup (k.map kV)) ∧ r = valV kvs k
noncomputable def DPut (H : Hp) (a : Addr) (y v : V) (H' : Hp) : Prop :=
  (∃ kvs k, H a = some (.dK kvs) ∧ y = kV k ∧ kvs.length < sizeLine ∧ H' = upd H a (.dK (putK kvs k v))) ∨
  ∃ kvs k b, H a = some (.dT kvs) ∧ y = .ref b ∧ H b = some (.tup (k.map kV)) ∧ kvs.length < sizeLine ∧ H' = upd H a (.dT (putK kvs k v))
theorem DGet.t {H : Hp} {a b : Addr} {kvs : List (List Key × V)} {k : List Key} (e : H a = some (.dT kvs)) (eb : H b = some (.tup (k.map kV))) : DGet H a (.ref b) (valV kvs k) := .inr ⟨kvs, k, b, .inl e, rfl, eb, rfl⟩
theorem DPut.t {H : Hp} {a b : Addr} {kvs : List (List Key × V)} {k : List Key} {v : V} (e : H a = some (.dT kvs)) (eb : H b = some (.tup (k.map kV))) (hl : kvs.length < sizeLine) :
    DPut H a (.ref b) v (upd H a (.dT (putK kvs k v))) := .inr ⟨kvs, k, b, e, rfl, eb, hl, rfl⟩


section
variable {X : Cx} {pins : List (Addr × Obj)} {σ : St} {H : Hp} {s : Shared} {a : Addr} {y v : V} {u r : Value} {o : Option V} {A : Around} {E : Value → Shared → Prop}

theorem Inv.big (I : Inv X pins σ H s) : sysModules < s.heap.objs.size := by
  have h : mainGlobals < s.heap.objs.size := (I.mod.glob.keeps I.bk).lt
  exact Nat.lt_trans (by decide) h

theorem d_getItem {Q : Value → Shared → Prop} (hu : A.units + 1 < cLine) (I : Inv X pins σ H s) (g : DGet H a y (some v)) (ry : RelV y u) (h : ∀ w' s', Inv X pins σ H s' → RelV v w' → Q w' s') :
    wpAny (model X.prog X.w) A (getItem (.ref a) u) Q E s := by
  rcases g with ⟨kvs, k, e, ey, l⟩ | ⟨kvs, k, b, e, ey, eb, l⟩
  · subst ey
    obtain ⟨z, hd, vs, rel, dd⟩ := dk_rd I.hok e
    obtain ⟨w', hw, rw'⟩ := RelO.some_of (v := v) (o := valueAt vs k) (by rw [l]; exact rel.val k)
    exact wpAny_getItem_of (kV_is ry) dd.mapOf hw (h w' _ (I.tok _) rw')
  · subst ey
    cases (show u = Value.ref b from ry)
    obtain ⟨z, hd, xs, rel, dd⟩ := dt_rd I.hok e
    obtain ⟨w', hw, rw'⟩ := RelO.some_of (v := v) (o := (atKey xs k).map (·.2)) (by rw [l]; exact rel.val k)
    obtain ⟨p, hp, hp2⟩ := Option.map_eq_some_iff.mp hw
    refine wpAny_getItem_heap (tupleKind_room_in1 hu) (key_of I.hok eb) dd hp ?_
    rw [hp2]
    exact h w' _ (I.tok _) rw'
theorem d_in {Q : Value → Shared → Prop} (hu : A.units + 1 < cLine) (I : Inv X pins σ H s) (g : DGet H a y o) (ry : RelV y u) (h : ∀ s', Inv X pins σ H s' → Q (.bool o.isSome) s') :
    wpAny (model X.prog X.w) A (compareOp .In u (.ref a)) Q E s := by
  rcases g with ⟨kvs, k, e, ey, l⟩ | ⟨kvs, k, b, e, ey, eb, l⟩
  · subst ey
    obtain ⟨z, hd, vs, rel, dd⟩ := dk_rd I.hok e
    refine wpAny_in_of (kV_is ry) hd dd.mapOf ?_
    rw [← (rel.val k).isSome_eq, ← l]
    exact h _ (I.tok _)
  · subst ey
    cases (show u = Value.ref b from ry)
    obtain ⟨z, hd, xs, rel, dd⟩ := dt_rd I.hok e
    refine wpAny_in_heap (tupleKind_room_in1 hu) (key_of I.hok eb) hd dd ?_
    have q := (rel.val k).isSome_eq
    rw [Option.isSome_map] at q
    rw [← q, ← l]
    exact h _ (I.tok _)
theorem d_write {h' : Heap} {t' : Nat} {ob : HO} (I : Inv X pins σ H s) (mu : Mut (H a)) (hs : Heap.SameBut a s.heap h') (he : ∃ q, h'.get? a = some q) (new : ObjOk X.prog X.w (upd H a ob) h' a ob) :
    Inv X pins σ (upd H a ob) { s with heap := h', toks := t' } :=
  I.write (x := a) (e := a) mu (.inl rfl) (fun b q hb z => (hs.2 b hb).trans z) he new
theorem dk_new {P : Program} {w : World} {H' : Hp} {h' : Heap} {kvs : List (Key × V)} {vs : List (Key × Value)} (z : kvs.length ≤ sizeLine) (hd : (a == sysModules) = false) (rel : KV kvs vs) (dd : h'.DictOf (mixKind P w) a vs) :
    ObjOk P w H' h' a (.dK kvs) := ⟨z, hd, vs, rel, dd⟩
theorem d_setItem {H' : Hp} {Q : Unit → Shared → Prop} (hu : A.units + 1 < cLine) (I : Inv X pins σ H s) (g : DPut H a y v H') (ry : RelV y u) (rv : RelV v r) (h : ∀ s', Inv X pins σ H' s' → Q () s') :
    wpAny (model X.prog X.w) A (setItem (.ref a) u r) Q E s := by
  rcases g with ⟨kvs, k, e, ey, l, eH⟩ | ⟨kvs, k, b, e, ey, eb, l, eH⟩
  · subst ey eH
    obtain ⟨z, hd, vs, rel, dd⟩ := dk_of I.hok e
    have hz : vs.length ≤ sizeLine := by rw [← rel.length]; exact z
    have hl : (putK kvs k v).length ≤ sizeLine := by have := length_putK kvs k v; omega
    refine wpAny_setItem_pairs (hsz := hz) (kV_is ry) dd fun h' dd' hs => h _ ?_
    have he : ∃ q, h'.get? a = some q := let ⟨q, _, _, hq, _⟩ := dd'; ⟨q, hq⟩
    exact d_write I (by rw [e]; exact True.intro) hs he (dk_new hl hd (rel.put k rv) dd')
  · subst ey eH
    cases (show u = Value.ref b from ry)
    obtain ⟨z, hd, xs, rel, dd⟩ := dt_of I.hok e
    have hz : xs.length ≤ sizeLine := by rw [← Paired.length rel]; exact z
    have hl : (putK kvs k v).length ≤ sizeLine := by have := length_putK kvs k v; omega
    refine wpAny_setItem_heap (hsz := hz) (tupleKind_room_in1 hu) (key_of I.hok eb) dd fun h' dd' hs => h _ ?_
    obtain ⟨q, es, ep, hq, h2, h3, h4, _, h5⟩ := dd'
    refine d_write I (by rw [e]; exact True.intro) hs ⟨q, hq⟩ ⟨hl, hd, _, (rel.put k eb rv).keeps fun c ys ec => ?_, q, es, ep, hq, h2, h3, h4, h5⟩
    rw [upd_ne (ne_of ec e (fun z => nomatch z))]
    exact ec
end

section
variable {X : Cx} {pins : List (Addr × Obj)} {σ : St} {H : Hp} {s : Shared} {a : Addr} {kvs : List (Key × V)} {k : Key} {u : Value} {A : Around} {E : Value → Shared → Prop}
end


noncomputable def NoSl (i : Expr) : Prop := ∀ ov iv, subscripted i false ov iv = operate [ov, iv] (getItem ov iv)
theorem subD_of {prog : Program} {w : World} {A : Around} {E : Value → Shared → Prop} {s : Shared} {env : Env} {value slice : Expr} {pos : Pos} {T id : String} {Q : Value → Shared → Prop}
    (hl : typeLookup (.type T) "__getitem__" = pure (some (.builtin id))) (hs : NoSl slice)
    (h : wpAny (model prog w) A (eval value env) (fun o s₁ => wpAny (model prog w) A (eval slice env) (fun i s₂ => s₂.TypeIs o T ∧ wpAny (model prog w) A (getItem o i) Q E s₂) E s₁) E s) :
    wpAny (model prog w) A (eval (.Subscript value slice pos) env) Q E s := by
  refine Subscript_ (wpAny_mono h (fun o s₁ h₁ => wpAny_mono h₁ (fun i s₂ h₂ => ?_) fun _ _ x => x) fun _ _ x => x)
  obtain ⟨hT, h₂⟩ := h₂
  unfold subscriptTail
  refine wpAny_bind ?_
  rw [getitemInPython_of_ne hT.not_modules]
  refine wpAny_bind (wpAny_specialOf hT hl ?_)
  have fin : wpAny (model prog w) A (subscripted slice false o i) (fun r s₃ => wpAny (model prog w) A (letTemporaryGo value o r >>= fun _ => pure r) Q E s₃) E s₂ := by
    rw [hs o i]
    exact wpAny_operating (wpAny_mono h₂ (fun r s₃ h₃ => wpAny_bind (wpAny_letTemporaryGo (wpAny_pure h₃))) fun _ _ x => x)
  first
    | exact wpAny_pure (wpAny_bind fin)
    | exact wpAny_bind (wpAny_pure (wpAny_bind fin))
    | exact wpAny_bind fin

theorem dict_typeIs {X : Cx} {pins : List (Addr × Obj)} {σ : St} {H : Hp} {s : Shared} {a : Addr} {y : V} {o : Option V} (I : Inv X pins σ H s) (g : DGet H a y o) : s.TypeIs (.ref a) "dict" := by
  rcases g with ⟨kvs, k, e, _, _⟩ | ⟨kvs, k, b, e, _, _, _⟩
  · obtain ⟨_, _, vs, _, dd⟩ := dk_rd I.hok e
    exact dd.typeIs
  · obtain ⟨_, _, xs, _, dd⟩ := dt_rd I.hok e
    exact dd.typeIs

noncomputable def tDGet (td ty : TE) : TE := fun σ H Q => td σ H fun x H1 => ty σ H1 fun y H2 => ∃ a v, x = .ref a ∧ DGet H2 a y (some v) ∧ Q v H2
noncomputable def tDIn (ty td : TE) : TE := fun σ H Q => ty σ H fun y H1 => td σ H1 fun x H2 => ∃ a o, x = .ref a ∧ DGet H2 a y o ∧ Q (.bl o.isSome) H2
noncomputable def sDPut (td ty tv : TE) : TS := fun D σ H => tv σ H fun v H1 => td σ H1 fun x H2 => ty σ H2 fun y H3 => ∃ a H4, x = .ref a ∧ DPut H3 a y v H4 ∧ D.nx σ H4

section
variable {X : Cx} {o i e value : Expr} {pos pos' tpos : Pos} {td ty tv : TE}
theorem pe_dget (hu : X.A.units + 1 < cLine) (ho : PE X o td) (hi : PE X i ty) (hs : NoSl i) : PE X (.Subscript o i pos) (tDGet td ty) := by
  intro pins s σ H Q I h
  refine subD_of PySem.F.slot_dict_getitem.lookup hs (thn (ho pins s σ H _ I h) fun u s1 ⟨x, H1, I1, rx, q1⟩ => thn (hi pins s1 σ H1 _ I1 q1) fun iv s2 ⟨y, H2, I2, ry, a, v, ex, g, q2⟩ => ?_)
  subst ex
  obtain rfl : u = Value.ref a := rx
  exact ⟨dict_typeIs I2 g, d_getItem hu I2 g ry fun w' s3 I3 rw' => ⟨v, H2, I3, rw', q2⟩⟩
theorem pc_din (hu : X.A.units + 1 < cLine) (hi : PE X i ty) (ho : PE X o td) : PC X .In i o (tDIn ty td) := by
  intro pins s σ H Q I h
  refine thn (hi pins s σ H _ I h) fun iv s1 ⟨y, H1, I1, ry, q1⟩ => thn (ho pins s1 σ H1 _ I1 q1) fun u s2 ⟨x, H2, I2, rx, a, ov, ex, g, q2⟩ => ?_
  subst ex
  obtain rfl : u = Value.ref a := rx
  exact d_in hu I2 g ry fun s3 I3 => ⟨.bl ov.isSome, H2, I3, rfl, q2⟩
theorem ps_dput (hu : X.A.units + 1 < cLine) (ho : PE X o td) (hi : PE X i ty) (hv : PE X value tv) (hs : swapsWith value (some (.Subscript o i pos')) pos.line X.env = pure false) :
    PS X (.Assign [.Subscript o i pos'] value pos) (sDPut td ty tv) := by
  intro pins s σ H D I h
  refine wpAny_Assign_Subscript (thn (hv pins s σ H _ I h) fun r s1 ⟨v, H1, I1, rv, q1⟩ => thn (ho pins s1 σ H1 _ I1 q1) fun u s2 ⟨x, H2, I2, rx, q2⟩ => thn (hi pins s2 σ H2 _ I2 q2) fun iv s3 ⟨y, H3, I3, ry, a, H4, ex, g, q3⟩ => ?_) hs
  subst ex
  obtain rfl : u = Value.ref a := rx
  exact d_setItem hu I3 g ry rv fun s4 I4 => ⟨σ, H4, I4, q3⟩
end


theorem dt_empty {P : Program} {w : World} {H : Hp} (h : Heap) (hb : sysModules < h.objs.size) : ObjOk P w H (h.push { cls := .type "dict", data := .dict #[] }) h.objs.size (.dT []) :=
  ⟨Nat.zero_le _, beq_eq_false_iff_ne.mpr (Ne.symm (Nat.ne_of_lt hb)), [], .nil, _, #[], 0, Heap.get?_push_size _ rfl, ⟨rfl, rfl, rfl⟩, rfl, rfl, List.nodup_nil⟩
noncomputable def tDNewT : TE := fun _ H Q => ∀ p, H p = none → Q (.ref p) (upd H p (.dT []))
section
variable {X : Cx} {pos : Pos}
theorem pe_dnewT : PE X (.Dict [] [] pos) tDNewT := fun pins s σ H Q I h =>
  wpAny_Dict_empty ⟨.ref s.heap.objs.size, _, I.laid (a := s.heap.objs.size) (o := .dT []) (t' := s.toks) (fun _ _ q => Heap.get?_push_of_some _ q) (Nat.le_refl _) (dt_empty s.heap I.big), rfl, h _ (I.hok.fresh (Nat.le_refl _))⟩
end




structure M1 (X : Cx) (o : Expr) (m : Str) (apos : Pos) (e : Expr) (cpos : Pos) : Prop where
  base : attributeBase o m X.env (eval o X.env) = eval o X.env
  few : ((backTo cpos (starEach [e] X.env)).all (fun x => !x.1) && (backToKw cpos (keywordEach [] X.env)).all (fun x => x.1.isSome)
    && decide (([e] : List Expr).length + ([] : List Keyword).length + (if ([] : List Keyword).isEmpty then 0 else 1) < 30)) = true
  line : (apos.endLine == cpos.line) = true
  trees : backTo cpos (starEach [e] X.env) = [(false, eval e X.env)]
structure M2 (X : Cx) (o : Expr) (m : Str) (apos : Pos) (e f : Expr) (cpos : Pos) : Prop where
  base : attributeBase o m X.env (eval o X.env) = eval o X.env
  few : ((backTo cpos (starEach [e, f] X.env)).all (fun x => !x.1) && (backToKw cpos (keywordEach [] X.env)).all (fun x => x.1.isSome)
    && decide (([e, f] : List Expr).length + ([] : List Keyword).length + (if ([] : List Keyword).isEmpty then 0 else 1) < 30)) = true
  line : (apos.endLine == cpos.line) = true
  trees : backTo cpos (starEach [e, f] X.env) = [(false, eval e X.env), (false, eval f X.env)]

noncomputable def IsD (H : Hp) (a : Addr) : Prop := (∃ kvs, Rd H a (.dK kvs)) ∨ ∃ kvs, Rd H a (.dT kvs)
theorem isD_at {X : Cx} {pins : List (Addr × Obj)} {σ : St} {H : Hp} {s : Shared} {a : Addr} (I : Inv X pins σ H s) (d : IsD H a) :
    s.TypeIs (.ref a) "dict" ∧ (∀ b, Value.ref a = .ref b → ∃ ob, s.heap.get? b = some ob ∧ ob.dict = none) ∧ (a == sysModules) = false := by
  rcases d with ⟨kvs, e⟩ | ⟨kvs, e⟩
  · obtain ⟨_, hd, vs, _, dd⟩ := dk_rd I.hok e
    refine ⟨dd.typeIs, fun b q => ?_, hd⟩
    cases q
    obtain ⟨ob, _, _, h1, h2, _⟩ := dd
    exact ⟨ob, h1, h2.2.1⟩
  · obtain ⟨_, hd, xs, _, dd⟩ := dt_rd I.hok e
    refine ⟨dd.typeIs, fun b q => ?_, hd⟩
    cases q
    obtain ⟨ob, _, _, h1, h2, _⟩ := dd
    exact ⟨ob, h1, h2.2.1⟩

section
variable {X : Cx} {pins : List (Addr × Obj)} {σ : St} {H : Hp} {s : Shared} {a : Addr} {y d : V} {u r : Value} {o : Option V} {A : Around} {E : Value → Shared → Prop}
theorem d_get2 {Q : Value → Shared → Prop} (hu : A.units + 1 < cLine) (I : Inv X pins σ H s) (g : DGet H a y o) (ry : RelV y u) (rd : RelV d r) (h : ∀ w' s', Inv X pins σ H s' → RelV (o.getD d) w' → Q w' s') :
    wpAny (model X.prog X.w) A (call (.builtin "dict.get") [.ref a, u, r]) Q E s := by
  rcases g with ⟨kvs, k, e, ey, l⟩ | ⟨kvs, k, b, e, ey, eb, l⟩
  · subst ey
    obtain ⟨z, hd, vs, rel, dd⟩ := dk_rd I.hok e
    refine call_meetsIn PySem.F.slot_dict_get dd.typeIs PySem.F.entry_dict_get (PySem.F.args_dict_get_3 _ _ _) (meets_dict_get_default (mixKind X.prog X.w) a (kV_is ry) hd r) ⟨_, dd.mapOf, h _ _ (I.tok _) ?_⟩
    rw [l]
    exact (rel.val k).getD rd
  · subst ey
    cases (show u = Value.ref b from ry)
    obtain ⟨z, hd, xs, rel, dd⟩ := dt_rd I.hok e
    refine call_meetsIn PySem.F.slot_dict_get dd.typeIs PySem.F.entry_dict_get (PySem.F.args_dict_get_3 _ _ _) (meetsH_dict_get_default (tupleKind (mixKind X.prog X.w)) a b hd r) ⟨tupleKind_room_in1 hu, k, xs, key_of I.hok eb, dd, h _ _ (I.tok _) ?_⟩
    rw [l]
    exact (rel.val k).getD rd
end

noncomputable def tDGet2 (td ty tx : TE) : TE := fun σ H Q => td σ H fun x H1 => ∃ a, x = .ref a ∧ IsD H1 a ∧ ty σ H1 fun y H2 => tx σ H2 fun z H3 => ∃ o, DGet H3 a y o ∧ Q (o.getD z) H3
section
variable {X : Cx} {o e f : Expr} {apos cpos : Pos} {td ty tx : TE}
theorem pe_dget2 (hu : X.A.units + 1 < cLine) (ho : PE X o td) (he : PE X e ty) (hf : PE X f tx) (m : M2 X o "get" apos e f cpos) : PE X (.Call (.Attribute o "get" apos) [e, f] [] cpos) (tDGet2 td ty tx) := by
  intro pins s σ H Q I h
  refine wpAny_Call_method m.base m.few m.line PySem.F.plainAttrs_dict PySem.F.slot_dict_get PySem.F.type_dict_get (thn (ho pins s σ H _ I h) fun u s1 ⟨x, H1, I1, rx, a, ex, d, q1⟩ => ?_)
  subst ex
  obtain rfl : u = Value.ref a := rx
  obtain ⟨t1, t2, _⟩ := isD_at I1 d
  refine ⟨t1, t2, ?_⟩
  rw [m.trees]
  refine Calls.callWith_builtin rfl (Calls.evalArgs_plain (Calls.spliced_cons (thn (he pins s1 σ H1 _ I1 q1) fun iv s2 ⟨y, H2, I2, ry, q2⟩ =>
    Calls.spliced_cons (thn (hf pins s2 σ H2 _ I2 q2) fun fv s3 ⟨z, H3, I3, rz, ov, g, q3⟩ => Calls.spliced_nil ?_))))
  exact d_get2 hu I3 g ry rz fun w' s4 I4 rw' => ⟨_, H3, I4, rw', q3⟩
end

section
variable {X : Cx} {pins : List (Addr × Obj)} {σ : St} {H : Hp} {s : Shared} {a : Addr} {kvs : List (Key × V)} {A : Around} {E : Value → Shared → Prop}
end


section
variable {X : Cx} {pins : List (Addr × Obj)} {σ : St} {H : Hp} {s : Shared} {a : Addr} {y : V} {u : Value} {A : Around} {E : Value → Shared → Prop}
end
end L2
namespace L2
open PySem PySem.Spec PyProof.Rows
section
variable {X : Cx}
end
end L2
namespace L2
open PySem PySem.Spec PyProof.Rows

section
variable {κ : Type} [DecidableEq κ]
end
end L2

namespace LwD
open PySem PySem.Spec PyProof.Rows L2
theorem KTdrop {H : Hp} {kvs : List (List Key × V)} {xs : List (List Key × Addr × Value)} (r : KT H kvs xs) (k : List Key) : KT H (dropK kvs k) (xs.filter fun x => decide (x.1 ≠ k)) := by
  induction r with
  | nil => exact .nil
  | @cons p q ps qs h t ih =>
    unfold dropK at ih ⊢
    rw [List.filter_cons, List.filter_cons]
    by_cases e : p.1 = k
    · rw [if_neg (by simp [e]), if_neg (by rw [h.1] at e; simp [e])]
      exact ih
    · rw [if_pos (by simp [e]), if_pos (by rw [h.1] at e; simp [e])]
      exact .cons h ih
theorem map_erase {α β : Type} (f : α → β) : ∀ (xs : List α) (j : Nat), (xs.map f).eraseIdx j = (xs.eraseIdx j).map f
  | [], _ => rfl
  | _ :: _, 0 => rfl
  | x :: r, j + 1 => by rw [List.map_cons, List.eraseIdx_cons_succ, List.eraseIdx_cons_succ, List.map_cons, map_erase f r j]
theorem erase_filter {K : Type} [DecidableEq K] {k : K} : ∀ {xs : List (K × Addr × Value)} {j : Nat} {p : Addr × Value}, (xs.map (·.1)).Nodup → xs[j]? = some (k, p) → xs.eraseIdx j = xs.filter fun x => decide (x.1 ≠ k)
  | [], _, _, _, e => by simp at e
  | x :: r, 0, p, hn, e => by
    simp only [List.getElem?_cons_zero, Option.some.injEq] at e
    subst e
    rw [List.map_cons, List.nodup_cons] at hn
    rw [List.eraseIdx_zero, List.tail_cons, List.filter_cons, if_neg (by simp)]
    symm
    rw [List.filter_eq_self]
    intro y hy
    have : y.1 ≠ k := fun z => hn.1 (List.mem_map.mpr ⟨y, hy, z⟩)
    simp [this]
  | x :: r, j + 1, p, hn, e => by
    rw [List.map_cons, List.nodup_cons] at hn
    have e' : r[j]? = some (k, p) := by simpa using e
    have hx : x.1 ≠ k := fun z => hn.1 (z ▸ List.mem_map.mpr ⟨(k, p), List.mem_of_getElem? e', rfl⟩)
    rw [List.eraseIdx_cons_succ, List.filter_cons, if_pos (by simp [hx]), erase_filter hn.2 e']
section
variable {prog : Program} {w : World} {K : Type} [DecidableEq K] {knd : HeapKind prog w K} {A : Around} {E : Value → Shared → Prop} {s : Shared}
theorem takeOut_heap {d a : Addr} {xs : List (K × Addr × Value)} {k : K} {p : Addr × Value} {Q : Option DictEntry → Shared → Prop} (hu : knd.room A) (hkey : knd.is s.heap k a) (hm : s.heap.DictOfH knd d xs) (hz : xs.length ≤ sizeLine) (hp : atKey xs k = some p)
    (hs : ∀ h', h'.DictOfH knd d (xs.filter fun x => decide (x.1 ≠ k)) → Heap.SameBut d s.heap h' → Q (some (entryOfKey knd (k, p))) { s with heap := h', toks := s.toks + knd.draws k }) :
    wpAny (model prog w) A (Builtin.Dict.takeOut d (.ref a)) Q E s := by
  obtain ⟨o, es, ep, ho, hc, hd, he, his, hn⟩ := hm
  have hes : es.size ≤ sizeLine := by rw [size_of_entries he]; exact hz
  unfold Builtin.Dict.takeOut
  try with_reducible refine wpAny_holding ?_
  refine wpAny_bind (knd.pyHash hu hkey (wpAny_bind (wpAny_dictFind_heap (s := { s with toks := s.toks + knd.draws k }) hu hkey ho hd he his hn ?_ ?_)))
  · intro hno
    rw [atKey_none_of_get hno] at hp
    cases hp
  · intro j p' hj
    rw [atKey_of_get hn hj] at hp
    cases hp
    refine wpAny_bind (wpAny_dictEntries (s := { s with toks := s.toks + knd.draws k }) ho hd ?_)
    rw [entry_at he j, hj]
    refine wpAny_bind (wpAny_updateDictKeys (hz := hes) (s := { s with toks := s.toks + knd.draws k }) ho hd (wpAny_pure (hs _ ⟨_, _, ep + 1, Heap.get?_update_self _ ho (Obj.isFreed_of_dict (Obj.data_mapDictKeys hd _)), hc.mapDictKeys _, Obj.data_mapDictKeys hd _, ?_, ?_, ?_⟩ (Heap.SameBut.update ..))))
    · rw [← erase_filter hn hj]
      obtain ⟨l⟩ := es
      simp only at he
      subst he
      show ((List.map (entryOfKey knd) xs).toArray.eraseIdxIfInBounds j).toList = _
      rw [List.eraseIdxIfInBounds_toArray]
      exact map_erase _ xs j
    · intro x hx
      exact knd.keeps (his x (List.mem_filter.mp hx).1) ho hd (Heap.SameBut.update ..)
    · exact hn.sublist (List.filter_sublist.map _)
theorem meets_popT {d a : Addr} {k : K} :
    MeetsIn prog w (Builtin.«dict.pop» ⟨[.ref d, .ref a], []⟩) (fun A R s => ∃ xs p, knd.room A.in1 ∧ knd.is s.heap k a ∧ s.heap.DictOfH knd d xs ∧ xs.length ≤ sizeLine ∧ atKey xs k = some p ∧
      ∀ h', h'.DictOfH knd d (xs.filter fun x => decide (x.1 ≠ k)) → Heap.SameBut d s.heap h' → R (.ok (.ret p.2)) { s with heap := h', toks := s.toks + knd.draws k }) :=
  .of_wp fun A R s ⟨xs, p, hu, hkey, hm, hz, hp, h⟩ => by
    unfold Builtin.«dict.pop»
    refine wpAny_bind ?_
    unfold Builtin.Dict.keyAndDefault
    refine wpAny_bind (wpAny_notOrdered_dict hm.typeIs ?_)
    show wpAny _ _ (pure (d, Value.ref a, none)) _ _ s
    refine wpAny_pure ?_
    obtain ⟨o, es, ep, ho, hc, hd, he, his, hn⟩ := id hm
    have ne : es.isEmpty = false := by
      have e1 := size_of_entries he
      have e2 : xs ≠ [] := fun z => by subst z; cases hp
      have e3 : 0 < xs.length := List.length_pos_iff.mpr e2
      rw [Array.isEmpty_eq_false_iff_exists_mem]
      exact ⟨es[0]'(by omega), Array.getElem_mem _⟩
    have go : wpAny (model prog w) A.in1 (Builtin.Dict.takeOut d (.ref a)) (fun old s' => old = some (entryOfKey knd (k, p)) ∧ R (.ok (.ret p.2)) s') (fun _ _ => False) s :=
      takeOut_heap hu hkey hm hz hp fun h' hm' hs' => ⟨rfl, h h' hm' hs'⟩
    have kp : (keyPart (Value.ref a)).isSome = false := rfl
    simp only [kp, Bool.false_eq_true, if_false]
    refine wpAny_bind (wpAny_dictEntries ho hd ?_)
    rw [ne]
    refine wpAny_bind (wpAny_pure ?_)
    simp only [Bool.false_eq_true, if_false]
    refine wpAny_bind (wpAny_mono go (fun old s' ⟨e1, hR⟩ => ?_) fun _ _ z => z.elim)
    subst e1
    simp only [Option.isNone_some, Bool.false_eq_true, if_false]
    exact wpAny_bind (wpAny_letGo (wpAny_pure ⟨p.2, rfl, hR⟩))
end
section
variable {X : Cx} {pins : List (Addr × Obj)} {σ : L2.St} {H : Hp} {s : Shared} {a b : Addr} {kvs : List (List Key × V)} {k : List Key} {E : Value → Shared → Prop}
theorem d_popT {v : V} {Q : Value → Shared → Prop} (hu : X.A.units + 1 < cLine) (I : Inv X pins σ H s) (e : H a = some (.dT kvs)) (eb : H b = some (.tup (k.map kV))) (l : valV kvs k = some v)
    (h : ∀ w' s', Inv X pins σ (upd H a (.dT (dropK kvs k))) s' → RelV v w' → Q w' s') : wpAny (model X.prog X.w) X.A (call (.builtin "dict.pop") [.ref a, .ref b]) Q E s := by
  obtain ⟨z, hd, xs, rel, dd⟩ := dt_of I.hok e
  have hz : xs.length ≤ sizeLine := by rw [← Paired.length rel]; exact z
  have rv := rel.val k
  rw [l] at rv
  cases hp : atKey xs k with
  | none => rw [hp] at rv; exact rv.elim
  | some p =>
    rw [hp] at rv
    refine call_meetsIn PySem.F.slot_dict_pop dd.typeIs PySem.F.entry_dict_pop (PySem.F.args_dict_pop_2 _ _) (meets_popT (knd := tupleKind (mixKind X.prog X.w)) (k := k)) ⟨xs, p, tupleKind_room_in1 hu, key_of I.hok eb, dd, hz, hp, fun h' dd' hs => h p.2 _ ?_ rv⟩
    obtain ⟨q, es, ep, hq, h2, h3, h4, _, h5⟩ := dd'
    have hl : (dropK kvs k).length ≤ sizeLine := Nat.le_trans (dropK_le kvs k) z
    refine d_write I (by rw [e]; exact True.intro) hs ⟨q, hq⟩ ⟨hl, hd, _, (KTdrop rel k).keeps fun c ys ec => ?_, q, es, ep, hq, h2, h3, h4, h5⟩
    rw [upd_ne (ne_of ec e (fun z => nomatch z))]
    exact ec
variable {o e : Expr} {td ty : TE} {apos cpos : Pos}
noncomputable def tDPopT (td ty : TE) : TE := fun σ H Q => td σ H fun x H1 => ∃ a, x = .ref a ∧ IsD H1 a ∧ ty σ H1 fun y H2 => ∃ kvs k v b, H2 a = some (.dT kvs) ∧ y = .ref b ∧ H2 b = some (.tup (k.map kV)) ∧ valV kvs k = some v ∧ Q v (upd H2 a (.dT (dropK kvs k)))
theorem pe_dpopT (hu : X.A.units + 1 < cLine) (ho : PE X o td) (he : PE X e ty) (m : M1 X o "pop" apos e cpos) : PE X (.Call (.Attribute o "pop" apos) [e] [] cpos) (tDPopT td ty) := by
  intro pins s σ H Q I h
  refine wpAny_Call_method m.base m.few m.line PySem.F.plainAttrs_dict PySem.F.slot_dict_pop PySem.F.type_dict_pop (thn (ho pins s σ H _ I h) fun u s1 ⟨x, H1, I1, rx, a, ex, d, q1⟩ => ?_)
  subst ex
  obtain rfl : u = Value.ref a := rx
  obtain ⟨t1, t2, _⟩ := isD_at I1 d
  refine ⟨t1, t2, ?_⟩
  rw [m.trees]
  refine Calls.callWith_builtin rfl (Calls.evalArgs_plain (Calls.spliced_cons (thn (he pins s1 σ H1 _ I1 q1) fun iv s2 ⟨y, H2, I2, ry, kvs, k, v, b, ea, ey, eb, l, q2⟩ => Calls.spliced_nil ?_)))
  subst ey
  cases ry
  exact d_popT hu I2 ea eb l fun w' s3 I3 rw' => ⟨v, _, I3, rw', q2⟩
end
end LwD

namespace LwD
open PySem PySem.Spec PyProof.Rows L2
noncomputable def Raw (h : Heap) (d : Addr) (es : Array DictEntry) (ep : Nat) : Prop := ∃ o, h.get? d = some o ∧ o.ExactDict ∧ o.data = .dict es ep
theorem Raw.lt {h : Heap} {d : Addr} {es : Array DictEntry} {ep : Nat} (r : Raw h d es ep) : d < h.objs.size := let ⟨_, e, _⟩ := r; Heap.lt_size e
theorem Raw.keep {h h' : Heap} {d : Addr} {es : Array DictEntry} {ep : Nat} (r : Raw h d es ep) (k : ∀ o, h.get? d = some o → h'.get? d = some o) : Raw h' d es ep := let ⟨o, e, x⟩ := r; ⟨o, k o e, x⟩
theorem Raw.ty {s : Shared} {d : Addr} {es : Array DictEntry} {ep : Nat} (r : Raw s.heap d es ep) : s.TypeIs (.ref d) "dict" := let ⟨o, e, c, _⟩ := r; ⟨o, e, c.1⟩
section
variable {prog : Program} {w : World} {A : Around} {E : Value → Shared → Prop} {s : Shared} {d it : Addr} {es : Array DictEntry} {ep i : Nat}
theorem raw_iter {Q : Value → Shared → Prop} (lo : (d == sysModules) = false) (r : Raw s.heap d es ep)
    (q : Q (.ref s.heap.objs.size) { s with heap := s.heap.push { cls := .type "dict_keyiterator", data := .fields #[.ref d, .int 0 0, .int es.size 0, .int ep 0] } }) : wpAny (model prog w) A (pyIter (.ref d)) Q E s := by
  have ty := r.ty
  obtain ⟨o, ho, hc, hdat⟩ := r
  refine wpAny_pyIter_slot ty PySem.F.slot_dict_iter (wpAny_call_entry PySem.F.slot_dict_iter ty PySem.F.entry_dict_iter ?_ (PySem.F.args_dict_iter_1 _))
  unfold Builtin.«dict.__iter__»
  refine wpAny_bind (show wpAny _ _ (Builtin.Dict.dictSlotNone _ _) _ _ s from ?_)
  unfold Builtin.Dict.dictSlotNone
  refine wpAny_bind (wpAny_notOrdered_dict ty (show wpAny _ _ (pure (Value.ref d)) _ _ s from wpAny_pure ?_))
  show wpAny _ _ (Builtin.Dict.showsAll d >>= _) _ _ s
  unfold Builtin.Dict.showsAll
  rw [if_neg (by rw [lo]; exact Bool.false_ne_true)]
  refine wpAny_bind (wpAny_pure (wpAny_bind (wpAny_dictEntries ho hdat (wpAny_bind (wpAny_dictEpoch ho hdat ?_)))))
  refine wpAny_bind (wpAny_newObj_type (wpAny_pure ⟨_, rfl, "dict_keyiterator", _, ⟨_, Heap.get?_push_size _ rfl, rfl⟩, PySem.F.slot_dict_keyiterator_next.lookup, ?_⟩))
  simpa [rawInt] using q
theorem raw_next {Q : Option Value → Shared → Prop} (k : s.heap.IsKeyIter it d i es.size ep) (r : Raw s.heap d es ep) (hi : i < es.size)
    (q : ∀ h', h'.IsKeyIter it d (i + 1) es.size ep → Heap.SameBut it s.heap h' → Q (some es[i].key) { s with heap := h' }) : wpAny (model prog w) A (pyNext (.ref it)) Q E s := by
  have ty := k.typeIs
  obtain ⟨o, ho, hc, hd⟩ := id k
  obtain ⟨od, hod, hcd, hdd⟩ := id r
  have own : Builtin.Dict_items.ownsTuple "dict_keyiterator" = false := by decide
  unfold pyNext
  refine wpAny_bind (wpAny_attempt (wpAny_callSpecial?_slot (name := Str.ofString "__next__") ty PySem.F.slot_dict_keyiterator_next (wpAny_call_entry PySem.F.slot_dict_keyiterator_next ty PySem.F.entry_dict_keyiterator_next ?_ (PySem.F.args_dict_keyiterator_next_1 _))))
  refine wpAny_bind (wpAny_pure (wpAny_bind (wpAny_bind ?_)))
  first | refine wpAny_bind (wpAny_typeNameOfWhole_keyiter ty (wpAny_pure (wpAny_bind (wpAny_fieldsOf ho hd ?_)))) | refine wpAny_bind (wpAny_typeNameOf_keyiter ty (wpAny_pure (wpAny_bind (wpAny_fieldsOf ho hd ?_))))
  simp only [own, Bool.false_eq_true, if_false]
  show wpAny _ _ (if (Value.ref d == Value.none) = true then _ else _) _ _ s
  rw [if_neg (show ¬ ((Value.ref d == Value.none) = true) from Bool.false_ne_true)]
  refine wpAny_bind (wpAny_pure (wpAny_bind (wpAny_dictEntries hod hdd ?_)))
  rw [if_neg (by simp)]
  refine wpAny_bind (wpAny_pure (wpAny_bind (wpAny_dictEpoch hod hdd ?_)))
  rw [if_neg (by simp)]
  refine wpAny_pure ?_
  simp only [show ¬ ((i : Int) < 0) from by omega, if_false, Int.toNat_natCast, Array.getElem?_eq_getElem hi]
  refine wpAny_bind ?_
  first | refine wpAny_bind (wpAny_typeNameOfWhole_keyiter ty (wpAny_pure (wpAny_bind (wpAny_isOneOf_keyiter ty ?_)))) | refine wpAny_bind (wpAny_typeNameOf_keyiter ty (wpAny_pure (wpAny_bind (wpAny_isOneOf_keyiter ty ?_))))
  show wpAny _ _ (setField (.ref it) 1 (rawInt ((i : Int) + 1)) >>= _) _ _ s
  have k' : (s.heap.update it (Obj.mapFields (·.setIfInBounds 1 (rawInt ((i : Int) + 1))))).IsKeyIter it d (i + 1) es.size ep :=
    ⟨_, Heap.get?_update_self _ ho (Obj.isFreed_of_fields (Obj.data_mapFields hd _)), (Obj.cls_mapFields ..).trans hc, by rw [Obj.data_mapFields hd]; simp [rawInt]⟩
  refine wpAny_bind (wpAny_setField ho hd (by simp) (wpAny_bind (wpAny_holding ?_)))
  refine wpAny_bind (wpAny_isOneOf_keyiter (s := { s with heap := s.heap.update it (Obj.mapFields (·.setIfInBounds 1 (rawInt ((i : Int) + 1)))) }) k'.typeIs ?_)
  show wpAny _ _ (pure es[i].key) _ _ _
  exact wpAny_pure (wpAny_pure ⟨_, rfl, wpAny_pure (q _ k' (Heap.SameBut.update ..))⟩)
theorem raw_end {Q : Option Value → Shared → Prop} (hh : A.handled = none) (k : s.heap.IsKeyIter it d es.size es.size ep) (r : Raw s.heap d es ep) (q : ∀ h', Heap.ExtBut it s.heap h' → Q none { s with heap := h' }) : wpAny (model prog w) A (pyNext (.ref it)) Q E s := by
  have ty := k.typeIs
  obtain ⟨o, ho, hc, hd⟩ := id k
  obtain ⟨od, hod, hcd, hdd⟩ := id r
  have own : Builtin.Dict_items.ownsTuple "dict_keyiterator" = false := by decide
  unfold pyNext
  refine wpAny_bind (wpAny_attempt (wpAny_callSpecial?_slot (name := Str.ofString "__next__") ty PySem.F.slot_dict_keyiterator_next (wpAny_call_entry PySem.F.slot_dict_keyiterator_next ty PySem.F.entry_dict_keyiterator_next ?_ (PySem.F.args_dict_keyiterator_next_1 _))))
  refine wpAny_bind (wpAny_pure (wpAny_bind (wpAny_bind ?_)))
  first | refine wpAny_bind (wpAny_typeNameOfWhole_keyiter ty (wpAny_pure (wpAny_bind (wpAny_fieldsOf ho hd ?_)))) | refine wpAny_bind (wpAny_typeNameOf_keyiter ty (wpAny_pure (wpAny_bind (wpAny_fieldsOf ho hd ?_))))
  simp only [own, Bool.false_eq_true, if_false]
  show wpAny _ _ (if (Value.ref d == Value.none) = true then _ else _) _ _ s
  rw [if_neg (show ¬ ((Value.ref d == Value.none) = true) from Bool.false_ne_true)]
  refine wpAny_bind (wpAny_pure (wpAny_bind (wpAny_dictEntries hod hdd ?_)))
  rw [if_neg (by simp)]
  refine wpAny_bind (wpAny_pure (wpAny_bind (wpAny_dictEpoch hod hdd ?_)))
  rw [if_neg (by simp)]
  refine wpAny_pure ?_
  simp only [show ¬ ((es.size : Int) < 0) from by omega, if_false, Int.toNat_natCast, Array.getElem?_eq_none (Nat.le_refl es.size)]
  refine wpAny_bind ?_
  first | refine wpAny_bind (wpAny_typeNameOfWhole_keyiter ty (wpAny_pure ?_)) | refine wpAny_bind (wpAny_typeNameOf_keyiter ty (wpAny_pure ?_))
  show wpAny _ _ (setField (.ref it) 0 .none >>= _) _ _ s
  refine wpAny_bind (wpAny_setField ho hd (by simp) (show wpAny _ _ (newExc (.type "StopIteration") [] >>= _) _ _ _ from wpAny_bind ?_))
  simp only [newExc, newTuple]
  refine wpAny_bind (wpAny_newObj_type (wpAny_bind (m := firstArgMember _ _) (wpAny_of_eq (a := Value.none) (by first | rfl | (simp only [firstArgMember]; rfl)) (wpAny_newObj_type ?_ (by size_fits)))) (by size_fits))
  simp only [raiseNew]
  refine wpAny_bind (wpAny_handled ?_)
  rw [show A.in1.handled = none from hh]
  refine wpAny_bind (wpAny_pure (wpAny_throw ?_))
  refine wpAny_bind (wpAny_isInstance (b := true) (T := "StopIteration") ⟨_, Heap.get?_push_size _ rfl, rfl⟩ isSubtype_stop ?_)
  exact wpAny_pure (q _ (((Heap.SameBut.update ..).extBut.push _).push _))
theorem raw_walks (hh : A.handled = none) (hne : d ≠ it) : Walks prog w A it [it, d] [it] es.size (fun i v => ∃ h : i < es.size, v = es[i].key) (fun i h => h.IsKeyIter it d i es.size ep ∧ Raw h d es ep) where
  sub := fun b hb => by simp at hb; simp [hb]
  frame := fun _ _ _ st hk => ⟨st.1.at fun o e => hk it (by simp) o e, st.2.keep fun o e => hk d (by simp) o e⟩
  item := fun i s Q E hi st hQ => raw_next st.1 st.2 hi fun h' k' hs' => hQ _ h' s.toks ⟨hi, rfl⟩ ⟨k', st.2.keep fun o e => hs'.extBut d o hne e⟩ fun b o hb e => hs'.extBut b o (fun h => hb (by simp [h])) e
  done := fun s Q E st hQ => raw_end hh st.1 st.2 fun h' he' => hQ h' s.toks fun b o hb e => he' b o (fun h => hb (by simp [h])) e
  self := fun _ _ _ _ st hQ => wpAny_pyIter_keyiter st.1 hQ
theorem raw_src (lo : (d == sysModules) = false) : PySem.W.KdlSrc prog w "dict" d d es.size (fun i v => ∃ h : i < es.size, v = es[i].key) (fun h => Raw h d es ep) where
  type := fun _ hm => hm.ty
  there := fun _ hm => ⟨hm.lt, hm.lt⟩
  keep := fun _ _ hm hk => hm.keep fun o e => hk d (.inl rfl) o e
  notList := by decide
  notTuple := by decide
  hint := fun _ _ _ _ hm hq => PySem.W.kdl_hint_dict hm.ty hq
  iter := fun _ _ hh hm => ⟨_, _, (fun _ _ hq => raw_iter lo hm hq), raw_walks hh (Nat.ne_of_lt hm.lt), ⟨⟨_, Heap.get?_push_size _ rfl, rfl, rfl⟩, hm.keep fun o e => Heap.get?_push_of_some _ e⟩⟩
end
end LwD

namespace LwD
open PySem PySem.W PySem.Spec PyProof.Rows
noncomputable def Pm (n : Nat) (p : Array Nat) : Prop := p.toList.Perm (List.range n)
theorem Pm.size {n : Nat} {p : Array Nat} (h : Pm n p) : p.size = n := by have := h.length_eq; simpa using this
theorem Pm.lt {n : Nat} {p : Array Nat} (h : Pm n p) {i : Nat} (hn : 0 < n) : p.getD i 0 < n := by
  by_cases hi : i < p.size
  · have : p.getD i 0 ∈ p.toList := by simp [Array.getD, hi]
    exact List.mem_range.mp (h.mem_iff.mp this)
  · simp [Array.getD, hi, hn]
theorem Pm.rev {n : Nat} {p : Array Nat} (h : Pm n p) (i j : Nat) : Pm n (kas_rev p i j) := (Array.perm_iff_toList_perm.mp (mirror_perm p i j _)).trans h
theorem Pm.bub {n : Nat} {p : Array Nat} (h : Pm n p) (i j : Nat) : Pm n (bubble p i j) := (Array.perm_iff_toList_perm.mp (bubble_perm p i j)).trans h
section
variable {prog : Program} {w : World} {A : Around} {E : Value → Shared → Prop} {s : Shared}
end
end LwD

namespace LwD
open PySem PySem.Spec PyProof.Rows L2 Lw
theorem ns_uniq {h : Heap} {a : Addr} {m m' : Str → Option Value} (x : h.Ns a m) (y : h.Ns a m') : m = m' := by
  obtain ⟨o, es, ep, ho, hd, hk, hm⟩ := x
  obtain ⟨o', es', ep', ho', hd', hk', hm'⟩ := y
  rw [ho] at ho'
  cases ho'
  rw [hd] at hd'
  cases hd'
  funext z
  rw [← hm z, ← hm' z]
theorem obj_some {P : Program} {w : World} {H : Hp} {h : Heap} {a : Addr} {o : HO} (x : ObjOk P w H h a o) : ∃ q, h.get? a = some q := by
  cases o with
  | lst xs => obtain ⟨_, _, _, _, e⟩ := x; exact ⟨_, e⟩
  | tup xs => obtain ⟨_, _, _, q, e, _⟩ := x; exact ⟨_, e⟩
  | dK kvs => obtain ⟨_, _, _, _, o, _, _, e, _⟩ := x; exact ⟨_, e⟩
  | dT kvs => obtain ⟨_, _, _, _, o, _, _, e, _⟩ := x; exact ⟨_, e⟩
  | set S n => obtain ⟨o, _, _, _, e, _⟩ := x; exact ⟨_, e⟩
  | ins C dx fs => obtain ⟨_, _, _, e, _⟩ := x; exact ⟨_, e⟩
  | own y => exact x
  | xd fs => obtain ⟨_, ⟨_, _, _, e, _⟩, _⟩ := x; exact ⟨_, e⟩
  | rng lo hi => obtain ⟨_, _, _, e⟩ := x; exact ⟨_, e⟩
  | frz ob u => exact ⟨_, x.1⟩
  | tbl ps => exact ⟨_, x⟩
  | met f y => exact ⟨_, x⟩
  | ext φ => exact x.2.1
section
variable {X : Cx} {pins : List (Addr × Obj)} {σ : L2.St} {H : Hp} {s : Shared}
theorem new_by_news {D : Addr} {o : Obj} {ho : HO} {h3 : Heap} {m : Str → Option Value} {tk : Nat} (I : Inv X pins σ H s) (F : Fr X.base X.env.locals s.heap m) (F3 : Fr X.base X.env.locals h3 m) (N3 : News X.base X.env.locals h3 ((D, o) :: allNews X.base s.heap X.env.locals))
    (lt : ∀ q ∈ allNews X.base s.heap X.env.locals, q.1 < D) (new : h3.get? D = some o → ObjOk X.prog X.w (upd H D ho) h3 D ho) : H D = none ∧ Inv X pins σ (upd H D ho) { s with heap := h3, toks := tk } := by
  have n1 := N3 (D, o) (List.mem_cons_self ..)
  have dn : s.heap.get? D = none := by
    cases q : s.heap.get? D with
    | none => rfl
    | some u => exact absurd (lt _ (mem_allNews n1.2.1 n1.2.2 q)) (Nat.lt_irrefl _)
  have Hn : H D = none := by
    cases q : H D with
    | none => rfl
    | some u =>
      obtain ⟨z, e⟩ := obj_some (I.hok D u q)
      rw [dn] at e
      cases e
  have kp : ∀ b u, b ≠ X.env.locals → s.heap.get? b = some u → h3.get? b = some u := fun b u hb e => by
    cases q : X.base.get? b with
    | some z =>
      have y := I.bk b z q
      rw [e] at y
      cases y
      exact F3.keep b _ q
    | none => exact (N3 (b, u) (List.mem_cons_of_mem _ (mem_allNews hb q e))).1
  have ne : ∀ b u, s.heap.get? b = some u → b ≠ D := fun b u e z => by rw [z, dn] at e; cases e
  have thr : ∀ b u, s.heap.get? b = some u → ∃ u', h3.get? b = some u' := fun b u e => by
    by_cases hb : b = X.env.locals
    · obtain ⟨u', _, _, e', _⟩ := F3.ns
      exact ⟨u', by rw [hb]; exact e'⟩
    · exact ⟨u, kp b u hb e⟩
  refine ⟨Hn, I.step (g' := s.gens) (d' := s.drawn) (ch := []) (fun _ z => nomatch z) (fun b u hb _ _ e _ => kp b u hb e) (fun b u hb _ _ e _ => ⟨u.slots, kp b u hb e⟩) (fun b u _ e n => ?_) (fun b u _ e => thr b u e) (fun b xs e => ?_) (fun b u v e => ?_) (fun b ps e => ?_) (fun m' hm => ?_) (fun b u e => ?_) I.bare⟩
  · rw [upd_ne (ne b u e)]
    exact n
  · rw [upd_ne (ne_of_none e Hn)]
    exact e
  · rw [upd_ne (ne_of_none e Hn)]
    exact e
  · exact ⟨#[], by rw [upd_ne (ne_of_none e Hn), e]; simp⟩
  · rw [ns_uniq hm F.ns]
    exact F3.ns
  · by_cases hb : b = D
    · subst hb
      rw [upd_same] at e
      cases e
      exact new n1.1
    · rw [upd_ne hb] at e
      refine (I.hok b u e).stay (fun c v hc q => kp c v (fun z => ?_) q) (fun c q => by rw [upd_ne (ne_of_none q Hn)]; exact q) fun c xs q => by rw [upd_ne (ne_of_none q Hn)]; exact q
      rcases hc with y | y
      · rw [← y, z, I.free] at e
        cases e
      · rw [z, I.free] at y
        cases y
end
section
variable {prog : Program} {w : World} {A : Around} {E : Value → Shared → Prop} {s : Shared}
theorem sort_small {a : Addr} {vs : List Value} {n : Nat} {Q : Value → Shared → Prop} (ho : s.heap.get? a = some (seqObj "list" vs.toArray n)) (h2 : vs.length < 2) (q : Q .none { s with heap := sortedHeap s.heap a vs vs.toArray }) : wpAny (model prog w) A (call (.builtin "list.sort") [.ref a]) Q E s := by
  refine wpAny_call_entry slot_list_sort ⟨_, ho, rfl⟩ entry_list_sort ?_ (args_list_sort _)
  rw [list_sort_plain]
  have ha : a < s.heap.objs.size := Heap.lt_size ho
  obtain ⟨e1, ho1⟩ : ∃ e1, (s.heap.update a (Obj.mapSeq fun _ => #[])).get? a = some (seqObj "list" #[] e1) := ⟨_, get?_update_seq ho (fun _ => #[])⟩
  have ho6 : (((s.heap.update a (Obj.mapSeq fun _ => #[])).push (seqObj "tuple" vs.toArray 0)).push (seqObj "list" #[] 0)).get? a = some (seqObj "list" #[] e1) := Heap.get?_push_of_some _ (Heap.get?_push_of_some _ ho1)
  have hz : vs.toArray.size < 2 := by simpa using h2
  refine wpAny_bind (listItems_at ho rfl (wpAny_bind (listUpdate_at ho rfl (wpAny_bind (seqEpoch_at ho1 rfl (wpAny_bind (wpAny_newTuple (wpAny_bind (wpAny_newList (wpAny_holding ?_))))))))))
  show wpAny (model prog w) _ _ _ E { s with heap := ((s.heap.update a (Obj.mapSeq fun _ => #[])).push (seqObj "tuple" vs.toArray 0)).push (seqObj "list" #[] 0) }
  dsimp only
  rw [if_pos hz, if_pos hz]
  refine wpAny_bind (wpAny_pure ?_)
  rw [StateT.run_pure]
  refine wpAny_bind (wpAny_pure ?_)
  dsimp only
  have hm : (arrOf (SortSt.mk' general' (vs.toArray.zip vs.toArray) #[] 7 none)).map (·.2) = vs.toArray := by
    show (vs.toArray.zip vs.toArray).map (·.2) = vs.toArray
    apply Array.ext'
    simp [List.map_snd_zip]
  refine wpAny_bind (seqEpoch_at ho6 rfl (wpAny_bind (listUpdate_at ho6 rfl ?_ (hsz2 := by rw [hm, sizeLine_eq]; omega))))
  rw [hm]
  simp only [bne_self_eq_false, Bool.false_eq_true, if_false]
  exact wpAny_pure ⟨_, rfl, q⟩
end
end LwD

namespace LwD
open PySem PySem.Spec PyProof.Rows L2 Lw
noncomputable abbrev ik (ns : List Int) : List Key := ns.map Sum.inl
theorem ik_map (ns : List Int) : (ik ns).map kV = ns.map V.int := by
  unfold ik
  rw [List.map_map]
  rfl
section
variable {X : Cx}
end
end LwD

namespace LwD
open PySem PySem.Spec PyProof.Rows L2 Lw
theorem KTgetI {H : Hp} {kvs : List (List Key × V)} {xs : List (List Key × Addr × Value)} (r : KT H kvs xs) : ∀ {j : Nat} {q : List Key × Addr × Value}, xs[j]? = some q → ∃ v, kvs[j]? = some (q.1, v) ∧ H q.2.1 = some (.tup (q.1.map kV)) := by
  induction r with
  | nil => intro j q e; simp at e
  | @cons p q' ps qs h t ih =>
    intro j q e
    cases j with
    | zero =>
      simp only [List.getElem?_cons_zero, Option.some.injEq] at e
      subst e
      exact ⟨p.2, by rw [← h.1]; rfl, by rw [← h.1]; exact h.2.1⟩
    | succ j =>
      simp only [List.getElem?_cons_succ] at e ⊢
      exact ih e
noncomputable def Keyed (H : Hp) (ys : List V) (zs : List (List Key × V)) : Prop := ys.length = zs.length ∧ ∀ (i : Nat) (y : V) (p : List Key × V), ys[i]? = some y → zs[i]? = some p → ∃ (b : Addr) (ns : List Int), y = .ref b ∧ H b = some (.tup (ns.map V.int)) ∧ p.1 = ik ns
theorem getD_range {α : Type} (l : List α) (d : α) : (List.range l.length).map (fun i => l.getD i d) = l := by
  apply List.ext_getElem
  · simp
  · intro i h1 h2
    simp at h1
    simp [h1]
end LwD

namespace L2
open PySem PySem.Spec PyProof.Rows
section
variable {prog : Program} {w : World} {A : Around} {E : Value → Shared → Prop} {s : Shared}
theorem nextT {it t : Addr} {k : Nat} {its : Array Value} {v : Value} {Q : Value → Shared → Prop} (st : s.heap.IsTupleIter it t k) (tu : s.heap.IsTuple t its) (hv : its[k]? = some v)
    (q : ∀ g, g.IsTupleIter it t (k + 1) → Heap.SameBut it s.heap g → Q v { s with heap := g }) : wpAny (model prog w) A (Builtin.SmallTypes.nextOf (.ref it)) Q E s := by
  obtain ⟨oi, gi, ci, di⟩ := id st; obtain ⟨ot, gt, _, nt, dt⟩ := tu
  unfold Builtin.SmallTypes.nextOf
  refine wpAny_bind (wpAny_callSpecial?_slot (name := Str.ofString "__next__") st.typeIs F.slot_tuple_iterator_next (wpAny_call_entry F.slot_tuple_iterator_next st.typeIs F.entry_tuple_iterator_next ?_ (F.args_tuple_iterator_next_1 _)))
  show wpAny _ _ (field (.ref it) 0 >>= _) _ _ _
  refine wpAny_bind (wpAny_field gi di (x := .ref t) rfl ?_)
  show wpAny _ _ (if (Value.ref t == Value.none) = true then _ else _) _ _ _
  rw [if_neg (show ¬ (Value.ref t == Value.none) = true from Bool.false_ne_true)]
  show wpAny _ _ (field (.ref it) 1 >>= _) _ _ _
  refine wpAny_bind (wpAny_field gi di (x := .int k 0) rfl ?_)
  show wpAny _ _ (seqItems? (.ref t) >>= _) _ _ _
  refine wpAny_bind (wpAny_seqItems gt dt ?_)
  simp only [Int.toNat_natCast, hv]
  refine wpAny_bind (wpAny_setField gi di (by simp) (wpAny_pure ⟨v, rfl, wpAny_pure (q _ ⟨_, Heap.get?_update_self _ gi (Obj.isFreed_of_fields (Obj.data_mapFields di _)), (Obj.cls_mapFields ..).trans ci, by rw [Obj.data_mapFields di]; simp [rawInt]⟩ (Heap.SameBut.update ..))⟩))
theorem nextT_end {it t : Addr} {k : Nat} {its : Array Value} {Q : Value → Shared → Prop} (hh : A.handled = none) (st : s.heap.IsTupleIter it t k) (tu : s.heap.IsTuple t its) (hv : its[k]? = none)
    (q : ∀ g e, Heap.ExtBut it s.heap g → (∃ o, g.get? e = some o ∧ o.cls = .type "StopIteration") → E (.ref e) { s with heap := g }) : wpAny (model prog w) A (Builtin.SmallTypes.nextOf (.ref it)) Q E s := by
  obtain ⟨oi, gi, ci, di⟩ := id st; obtain ⟨ot, gt, _, nt, dt⟩ := tu
  unfold Builtin.SmallTypes.nextOf
  refine wpAny_bind (wpAny_callSpecial?_slot (name := Str.ofString "__next__") st.typeIs F.slot_tuple_iterator_next (wpAny_call_entry F.slot_tuple_iterator_next st.typeIs F.entry_tuple_iterator_next ?_ (F.args_tuple_iterator_next_1 _)))
  show wpAny _ _ (field (.ref it) 0 >>= _) _ _ _
  refine wpAny_bind (wpAny_field gi di (x := .ref t) rfl ?_)
  show wpAny _ _ (if (Value.ref t == Value.none) = true then _ else _) _ _ _
  rw [if_neg (show ¬ (Value.ref t == Value.none) = true from Bool.false_ne_true)]
  show wpAny _ _ (field (.ref it) 1 >>= _) _ _ _
  refine wpAny_bind (wpAny_field gi di (x := .int k 0) rfl ?_)
  show wpAny _ _ (seqItems? (.ref t) >>= _) _ _ _
  refine wpAny_bind (wpAny_seqItems gt dt ?_)
  simp only [Int.toNat_natCast, hv]
  refine wpAny_bind (wpAny_rule (wpAny_bind (wpAny_setField gi di (by simp) ?_)))
  show wpAny _ _ (newExc (.type "StopIteration") [] >>= _) _ _ _
  refine wpAny_bind ?_
  simp only [newExc, newTuple]
  refine wpAny_bind (wpAny_newObj_type ?_ (by size_fits))
  refine wpAny_bind (m := firstArgMember _ _) (wpAny_of_eq (a := Value.none) (by first | rfl | (simp only [firstArgMember]; rfl)) ?_)
  refine wpAny_newObj_type ?_ (by size_fits)
  simp only [raiseNew]
  refine wpAny_bind (wpAny_handled ?_)
  first | rw [show A.in1.handled = none from hh] | rw [hh]
  exact wpAny_bind (wpAny_pure (wpAny_throw (q _ _ (((Heap.SameBut.update ..).extBut.push _).push _) ⟨_, Heap.get?_push_size _ rfl, rfl⟩)))
structure ZT (z TI TO i1 i2 l1 l2 : Addr) (k : Nat) (h : Heap) : Prop where
  zz : IsZip h z TI TO .none
  ti : IsPair h TI (.ref i1) (.ref i2)
  to : ∃ a b, IsPair h TO a b
  one : h.IsTupleIter i1 l1 k
  two : h.IsTupleIter i2 l2 k
theorem IsTupleIter.as {h h' : Heap} {a t : Addr} {k : Nat} (x : h.IsTupleIter a t k) (f : ∀ o, h.get? a = some o → h'.get? a = some o) : h'.IsTupleIter a t k := let ⟨o, ho, r⟩ := x; ⟨o, f o ho, r⟩
variable {z TI TO i1 i2 l1 l2 : Addr} {k : Nat} {xs ys : Array Value}
theorem zipT_item {x y : Value} {Q : Option Value → Shared → Prop} (D : ZipApart z TI TO i1 i2 l1 l2) (Z : ZT z TI TO i1 i2 l1 l2 k s.heap) (t1 : s.heap.IsTuple l1 xs) (t2 : s.heap.IsTuple l2 ys) (hx : xs[k]? = some x) (hy : ys[k]? = some y)
    (q : ∀ g, IsZip g z TI TO (rawInt s.heap.objs.size) → IsPair g TO x y → g.IsTupleIter i1 l1 (k + 1) → g.IsTupleIter i2 l2 (k + 1) → IsPair g s.heap.objs.size x y →
      (∀ c o, c ∉ [z, TO, i1, i2] → s.heap.get? c = some o → g.get? c = some o) → Q (some (.ref s.heap.objs.size)) { s with heap := g }) : wpAny (model prog w) A (pyNext (.ref z)) Q E s := by
  obtain ⟨hz, hti, ⟨a, b, hto⟩, s1, s2⟩ := Z
  have T : s.TypeIs (.ref z) "zip" := ⟨_, hz, rfl⟩
  unfold pyNext
  refine wpAny_bind (wpAny_attempt (wpAny_callSpecial?_slot (name := Str.ofString "__next__") T F.slot_zip_next (wpAny_call_entry F.slot_zip_next T F.entry_zip_next ?_ (F.args_zip_next_1 _))))
  show wpAny _ _ (field (.ref z) 2 >>= _) _ _ _
  refine wpAny_bind (wpAny_field hz rfl (x := .bool false) rfl ?_)
  show wpAny _ _ (field (.ref z) 3 >>= _) _ _ _
  refine wpAny_bind (wpAny_field hz rfl (x := .ref TI) rfl (wpAny_bind (wpAny_seqItems hti rfl ?_)))
  show wpAny _ _ (Builtin.SmallTypes.ownedTupleIsFree (.ref z) >>= _) _ _ _
  refine wpAny_bind ?_
  unfold Builtin.SmallTypes.ownedTupleIsFree
  refine wpAny_bind (wpAny_field hz rfl (x := .none) rfl (wpAny_pure ?_))
  simp only [if_true]
  refine wpAny_bind (wpAny_rule (wpAny_bind (wpAny_field hz rfl (x := .ref TO) rfl (wpAny_bind (wpAny_setField_rec hz (by simp) fun g1 z1 b1 => ?_)))))
  replace z1 : IsZip g1 z TI TO .ellipsis := z1
  refine wpAny_bind ?_
  simp only [List.zipIdx_cons, List.zipIdx_nil, List.forIn_cons, List.forIn_nil]
  refine wpAny_bind (wpAny_bind (wpAny_onRaise ?_))
  show wpAny _ _ (Builtin.SmallTypes.nextOf (.ref i1) >>= _) _ _ _
  refine wpAny_bind (nextT (s1.extBut b1.extBut D.i1z) (t1.extBut b1.extBut D.l1z) hx fun g2 n2 b2 => wpAny_pure ?_)
  have o2 : IsPair g2 TO a b := b2.extBut _ _ D.TOi1 (b1.extBut _ _ D.TOz hto)
  refine wpAny_bind (wpAny_seqItems o2 rfl (wpAny_bind (wpAny_updateSeq_pair o2 fun g3 o3 b3 => ?_)))
  replace o3 : IsPair g3 TO x b := o3
  refine wpAny_bind (wpAny_letGo (wpAny_pure (wpAny_bind (wpAny_bind (wpAny_onRaise ?_)))))
  show wpAny _ _ (Builtin.SmallTypes.nextOf (.ref i2) >>= _) _ _ _
  refine wpAny_bind (nextT (((s2.extBut b1.extBut D.i2z).extBut b2.extBut D.i12.symm).extBut b3.extBut D.TOi2.symm) (((t2.extBut b1.extBut D.l2z).extBut b2.extBut D.l2i1).extBut b3.extBut D.l2TO) hy fun g4 n4 b4 => wpAny_pure ?_)
  have o4 : IsPair g4 TO x b := b4.extBut _ _ D.TOi2 o3
  refine wpAny_bind (wpAny_seqItems o4 rfl (wpAny_bind (wpAny_updateSeq_pair o4 fun g5 o5 b5 => ?_)))
  replace o5 : IsPair g5 TO x y := o5
  refine wpAny_bind (wpAny_letGo (wpAny_pure (wpAny_pure (wpAny_bind (wpAny_seqItems o5 rfl (wpAny_bind (wpAny_newTuple ?_)))))))
  have sz : g5.objs.size = s.heap.objs.size := by rw [b5.1, b4.1, b3.1, b2.1, b1.1]
  have z5 : IsZip g5 z TI TO .ellipsis := b5.extBut _ _ D.TOz.symm (b4.extBut _ _ D.i2z.symm (b3.extBut _ _ D.TOz.symm (b2.extBut _ _ D.i1z.symm z1)))
  have k5 : ∀ c o, c ∉ [z, TO, i1, i2] → s.heap.get? c = some o → g5.get? c = some o := fun c o hc e => by
    simp only [List.mem_cons, not_or] at hc
    exact b5.extBut _ _ hc.2.1 (b4.extBut _ _ hc.2.2.2.1 (b3.extBut _ _ hc.2.1 (b2.extBut _ _ hc.2.2.1 (b1.extBut _ _ hc.1 e))))
  have n5 : g5.IsTupleIter i1 l1 (k + 1) := ((n2.extBut b3.extBut D.TOi1.symm).extBut b4.extBut D.i12).extBut b5.extBut D.TOi1.symm
  have m5 : g5.IsTupleIter i2 l2 (k + 1) := n4.extBut b5.extBut D.TOi2.symm
  have zl : z < g5.objs.size := Heap.lt_size z5
  show wpAny _ _ (Builtin.SmallTypes.ownedTupleHandOut (.ref z) (.ref g5.objs.size) >>= _) _ _ _
  refine wpAny_bind ?_
  unfold Builtin.SmallTypes.ownedTupleHandOut
  have z6 : IsZip (g5.push { cls := .type "tuple", data := .seq #[x, y] }) z TI TO .ellipsis := Heap.get?_push_of_some _ z5
  refine wpAny_bind (wpAny_setField_rec z6 (by simp) fun g7 z7 b7 => ?_)
  replace z7 : IsZip g7 z TI TO (rawInt g5.objs.size) := z7
  refine wpAny_setField_rec z7 (by simp) fun g8 z8 b8 => ?_
  replace z8 : IsZip g8 z TI TO (rawInt g5.objs.size) := z8
  have up : ∀ c o, c ≠ z → g5.get? c = some o → g8.get? c = some o := fun c o cz e => b8.extBut _ _ cz (b7.extBut _ _ cz (Heap.get?_push_of_some _ e))
  have nu : IsPair g8 g5.objs.size x y := b8.extBut _ _ (Nat.ne_of_gt zl) (b7.extBut _ _ (Nat.ne_of_gt zl) (Heap.get?_push_size _ rfl))
  rw [sz] at z8 nu
  refine wpAny_pure ⟨_, rfl, wpAny_pure ?_⟩
  show Q (some (.ref g5.objs.size)) _
  rw [sz]
  exact q g8 z8 (up _ _ D.TOz o5) (IsTupleIter.as n5 fun o e => up _ o D.i1z e) (IsTupleIter.as m5 fun o e => up _ o D.i2z e) nu fun c o hc e => up c o (fun h => hc (by simp [h])) (k5 c o hc e)
theorem zipT_end {Q : Option Value → Shared → Prop} (hh : A.handled = none) (D : ZipApart z TI TO i1 i2 l1 l2) (Z : ZT z TI TO i1 i2 l1 l2 k s.heap) (t1 : s.heap.IsTuple l1 xs) (t2 : s.heap.IsTuple l2 ys) (he : xs[k]? = none ∨ ys[k]? = none)
    (q : ∀ g, (∀ c o, c ∉ [z, TO, i1, i2] → s.heap.get? c = some o → g.get? c = some o) → Q none { s with heap := g }) : wpAny (model prog w) A (pyNext (.ref z)) Q E s := by
  obtain ⟨hz, hti, ⟨a, b, hto⟩, s1, s2⟩ := Z
  have T : s.TypeIs (.ref z) "zip" := ⟨_, hz, rfl⟩
  unfold pyNext
  refine wpAny_bind (wpAny_attempt (wpAny_callSpecial?_slot (name := Str.ofString "__next__") T F.slot_zip_next (wpAny_call_entry F.slot_zip_next T F.entry_zip_next ?_ (F.args_zip_next_1 _))))
  have fin : ∀ g (e : Addr), (∀ c o, c ∉ [z, TO, i1, i2] → s.heap.get? c = some o → g.get? c = some o) → (∃ o, g.get? e = some o ∧ o.cls = .type "StopIteration") →
      wpAny (model prog w) A (do if (← isInstance (.ref e) (.type "StopIteration")) then pure none else throw (.ref e)) Q E { s with heap := g } := fun g e hk ⟨o, ho, hc⟩ =>
    wpAny_bind (wpAny_isInstance (T := "StopIteration") (b := true) ⟨o, ho, hc⟩ isSubtype_stop (wpAny_pure (q _ hk)))
  show wpAny _ _ (field (.ref z) 2 >>= _) _ _ _
  refine wpAny_bind (wpAny_field hz rfl (x := .bool false) rfl ?_)
  show wpAny _ _ (field (.ref z) 3 >>= _) _ _ _
  refine wpAny_bind (wpAny_field hz rfl (x := .ref TI) rfl (wpAny_bind (wpAny_seqItems hti rfl ?_)))
  show wpAny _ _ (Builtin.SmallTypes.ownedTupleIsFree (.ref z) >>= _) _ _ _
  refine wpAny_bind ?_
  unfold Builtin.SmallTypes.ownedTupleIsFree
  refine wpAny_bind (wpAny_field hz rfl (x := .none) rfl (wpAny_pure ?_))
  simp only [if_true]
  refine wpAny_bind (wpAny_rule (wpAny_bind (wpAny_field hz rfl (x := .ref TO) rfl (wpAny_bind (wpAny_setField_rec hz (by simp) fun g1 z1 b1 => ?_)))))
  replace z1 : IsZip g1 z TI TO .ellipsis := z1
  refine wpAny_bind ?_
  simp only [List.zipIdx_cons, List.zipIdx_nil, List.forIn_cons, List.forIn_nil]
  refine wpAny_bind (wpAny_bind (wpAny_onRaise ?_))
  show wpAny _ _ (Builtin.SmallTypes.nextOf (.ref i1) >>= _) _ _ _
  cases hx : xs[k]? with
  | none =>
    refine wpAny_bind (nextT_end hh (s1.extBut b1.extBut D.i1z) (t1.extBut b1.extBut D.l1z) hx fun g2 e b2 ⟨oe, he, ce⟩ => ?_)
    have z2 : IsZip g2 z TI TO .ellipsis := b2 _ _ D.i1z.symm z1
    have ez : e ≠ z := fun h => by subst h; rw [z2] at he; cases he; simp at ce
    refine wpAny_setField_rec z2 (by simp) fun g3 _ b3 => fin g3 e (fun c o hc h => ?_) ⟨oe, b3.extBut _ _ ez he, ce⟩
    simp only [List.mem_cons, not_or] at hc
    exact b3.extBut _ _ hc.1 (b2 _ _ hc.2.2.1 (b1.extBut _ _ hc.1 h))
  | some x =>
    have hy : ys[k]? = none := he.resolve_left (by rw [hx]; simp)
    refine wpAny_bind (nextT (s1.extBut b1.extBut D.i1z) (t1.extBut b1.extBut D.l1z) hx fun g2 n2 b2 => wpAny_pure ?_)
    have o2 : IsPair g2 TO a b := b2.extBut _ _ D.TOi1 (b1.extBut _ _ D.TOz hto)
    refine wpAny_bind (wpAny_seqItems o2 rfl (wpAny_bind (wpAny_updateSeq_pair o2 fun g3 o3 b3 => ?_)))
    refine wpAny_bind (wpAny_letGo (wpAny_pure (wpAny_bind (wpAny_bind (wpAny_onRaise ?_)))))
    show wpAny _ _ (Builtin.SmallTypes.nextOf (.ref i2) >>= _) _ _ _
    refine wpAny_bind (nextT_end hh (((s2.extBut b1.extBut D.i2z).extBut b2.extBut D.i12.symm).extBut b3.extBut D.TOi2.symm) (((t2.extBut b1.extBut D.l2z).extBut b2.extBut D.l2i1).extBut b3.extBut D.l2TO) hy fun g4 e b4 ⟨oe, he, ce⟩ => ?_)
    have z4 : IsZip g4 z TI TO .ellipsis := b4 _ _ D.i2z.symm (b3.extBut _ _ D.TOz.symm (b2.extBut _ _ D.i1z.symm z1))
    have ez : e ≠ z := fun h => by subst h; rw [z4] at he; cases he; simp at ce
    refine wpAny_setField_rec z4 (by simp) fun g5 _ b5 => fin g5 e (fun c o hc h => ?_) ⟨oe, b5.extBut _ _ ez he, ce⟩
    simp only [List.mem_cons, not_or] at hc
    exact b5.extBut _ _ hc.1 (b4 _ _ hc.2.2.2.1 (b3.extBut _ _ hc.2.1 (b2.extBut _ _ hc.2.2.1 (b1.extBut _ _ hc.1 h))))
theorem meets_zipT (a b : Addr) (xs ys : Array Value) :
    Meets (Builtin.«zip.__new__» ⟨[.type "zip", .ref a, .ref b], []⟩) (fun _ R s => s.heap.IsTuple a xs ∧ s.heap.IsTuple b ys ∧
      ∀ g, (∀ c o, s.heap.get? c = some o → g.get? c = some o) → ZT (s.heap.objs.size + 4) (s.heap.objs.size + 2) (s.heap.objs.size + 3) s.heap.objs.size (s.heap.objs.size + 1) a b 0 g → R (.ok (.ret (.ref (s.heap.objs.size + 4)))) { s with heap := g }) :=
  .of_wp fun prog w A R s h => by
    obtain ⟨hp, gs, d, tk, os⟩ := s; obtain ⟨t1, t2, h⟩ := h
    have hsub := sub_zip
    have T1 : Heap.IsTuple (Shared.heap ⟨hp, gs, d, tk, os⟩) a xs := t1
    have T2 : Heap.IsTuple (Shared.heap ⟨hp.push { cls := .type "tuple_iterator", data := .fields #[.ref a, .int 0 0] }, gs, d, tk, os⟩) b ys := Heap.IsTuple.push t2 _
    wp_walk using wpAny_pyIter_tuple T1, wpAny_pyIter_tuple T2
    have e1 := fun o => Heap.size_push hp (o := o)
    refine ⟨_, rfl, ?_⟩
    simp only [Heap.size_push] at h ⊢
    refine h _ (fun c o e => Heap.get?_push_of_some _ (Heap.get?_push_of_some _ (Heap.get?_push_of_some _ (Heap.get?_push_of_some _ (Heap.get?_push_of_some _ e))))) ⟨?_, ?_, ?_, ?_, ?_⟩
    · have e := Heap.get?_push_size (((((hp.push { cls := .type "tuple_iterator", data := .fields #[.ref a, .int 0 0] }).push { cls := .type "tuple_iterator", data := .fields #[.ref b, .int 0 0] }).push { cls := .type "tuple", data := .seq #[.ref hp.objs.size, .ref (hp.objs.size + 1)] })).push { cls := .type "tuple", data := .seq #[.none, .none] }) (o := { cls := .type "zip", data := .fields #[.none, .bool false, .bool false, .ref (hp.objs.size + 2), .ref (hp.objs.size + 3)] }) rfl
      simp only [Heap.size_push] at e
      exact e
    · have e := Heap.get?_push_size ((hp.push { cls := .type "tuple_iterator", data := .fields #[.ref a, .int 0 0] }).push { cls := .type "tuple_iterator", data := .fields #[.ref b, .int 0 0] }) (o := { cls := .type "tuple", data := .seq #[.ref hp.objs.size, .ref (hp.objs.size + 1)] }) rfl
      simp only [Heap.size_push] at e
      exact Heap.get?_push_of_some _ (Heap.get?_push_of_some _ e)
    · have e := Heap.get?_push_size ((((hp.push { cls := .type "tuple_iterator", data := .fields #[.ref a, .int 0 0] }).push { cls := .type "tuple_iterator", data := .fields #[.ref b, .int 0 0] }).push { cls := .type "tuple", data := .seq #[.ref hp.objs.size, .ref (hp.objs.size + 1)] })) (o := { cls := .type "tuple", data := .seq #[.none, .none] }) rfl
      simp only [Heap.size_push] at e
      exact ⟨_, _, Heap.get?_push_of_some _ e⟩
    · have e := Heap.get?_push_size hp (o := { cls := .type "tuple_iterator", data := .fields #[.ref a, .int 0 0] }) rfl
      exact ⟨_, Heap.get?_push_of_some _ (Heap.get?_push_of_some _ (Heap.get?_push_of_some _ (Heap.get?_push_of_some _ e))), rfl, rfl⟩
    · have e := Heap.get?_push_size (hp.push { cls := .type "tuple_iterator", data := .fields #[.ref a, .int 0 0] }) (o := { cls := .type "tuple_iterator", data := .fields #[.ref b, .int 0 0] }) rfl
      simp only [Heap.size_push] at e
      exact ⟨_, Heap.get?_push_of_some _ (Heap.get?_push_of_some _ (Heap.get?_push_of_some _ e)), rfl, rfl⟩
theorem call_zipT {a b : Addr} {xs ys : Array Value} {Q : Value → Shared → Prop} (t1 : s.heap.IsTuple a xs) (t2 : s.heap.IsTuple b ys)
    (q : ∀ g, (∀ c o, s.heap.get? c = some o → g.get? c = some o) → ZT (s.heap.objs.size + 4) (s.heap.objs.size + 2) (s.heap.objs.size + 3) s.heap.objs.size (s.heap.objs.size + 1) a b 0 g → Q (.ref (s.heap.objs.size + 4)) { s with heap := g }) :
    wpAny (model prog w) A (call (.type "zip") [.ref a, .ref b]) Q E s :=
  callType_new F.called_zip (by decide) (F.typeCall_zip_2 _ _) (F.newCall_zip_2 _ _) (fun obj => F.args_object_init_3 obj _ _) F.entry_zip_new (meets_zipT a b xs ys) ⟨t1, t2, fun g k Z => ⟨⟨_, Z.zz, rfl⟩, q g k Z⟩⟩
end
section
variable {X : Cx} {pins : List (Addr × Obj)} {σ : St} {H : Hp} {s : Shared} {h' : Heap}
theorem Inv.turnedL {t' : Nat} {fp : List Addr} (I : Inv X pins σ H s) (hf : ∀ b ∈ fp, FpOk X pins H b) (k : ∀ b o, b ∉ fp → s.heap.get? b = some o → h'.get? b = some o) : Inv X pins σ H { s with heap := h', toks := t' } := by
  have nit : ∀ b u, H b = some u → b ∉ fp := fun b u e z => by rw [(hf b z).1] at e; cases e
  refine I.step (g' := s.gens) (d' := s.drawn) (ch := fp) (fun b hb => ⟨(hf b hb).2.2.2.1, (hf b hb).2.1, (hf b hb).2.2.2.2.1, (hf b hb).2.2.2.2.2⟩) (fun b o _ _ hc e _ => k b o hc e) (fun b o _ _ hc e _ => ⟨o.slots, k b o hc e⟩) (fun _ _ _ _ n => n)
    (fun b o hc e => ⟨o, k b o hc e⟩) (fun _ _ e => e) (fun _ _ _ e => e) (fun b ps e => ⟨#[], by rw [e]; simp⟩) (fun m ⟨o, es, ep, ho, r⟩ => ⟨o, es, ep, k _ o (fun z => (hf _ z).2.1 rfl) ho, r⟩) (fun b u e => ?_) I.bare
  refine (I.hok b u e).stay (fun c v hc q => k c v ?_ q) (fun _ q => q) fun _ _ q => q
  rcases hc with z | z
  · rw [z]; exact nit b u e
  · exact nit c _ z
theorem FpOk.apart {a b : Addr} {xs : List V} (I : Inv X pins σ H s) (f : FpOk X pins H b) (h : SqT X.K H a xs) : a ≠ b := by
  rintro rfl
  rcases h with (h | ⟨o, h⟩) | ⟨o, its, n, hk, hc, hs, hz, r⟩
  · rw [f.1] at h; cases h
  · rw [f.1] at h; cases h
  · have hb : X.base.get? a = some o := I.ok.mod.kin a o hk
    rcases f.2.2.2.1 with z | z
    · exact I.ok.noex a o hb z
    · exact absurd (Nat.lt_of_lt_of_le (Heap.lt_size hb) (Nat.le_trans I.ok.bsz z)) (Nat.lt_irrefl _)
end
noncomputable def Itz (K : PySem.W.Frag) (a b : Addr) : It :=
  ⟨fun i H => ∃ xs ys x y, SqT K H a xs ∧ SqT K H b ys ∧ xs[i]? = some x ∧ ys[i]? = some y,
   fun i H v H' => ∃ p x y, H p = none ∧ v = .ref p ∧ H' = upd H p (.tup [x, y]) ∧ (∀ xs, SqT K H a xs → xs[i]? = some x) ∧ (∀ ys, SqT K H b ys → ys[i]? = some y),
   fun i H => ∃ xs ys, SqT K H a xs ∧ SqT K H b ys ∧ (xs.length ≤ i ∨ ys.length ≤ i)⟩
structure Five (z TI TO i1 i2 : Addr) : Prop where
  nd : [z, TI, TO, i1, i2].Nodup
theorem Five.of {z TI TO i1 i2 l1 l2 : Addr} (F : Five z TI TO i1 i2) (h1 : ∀ b ∈ [z, TI, TO, i1, i2], l1 ≠ b) (h2 : ∀ b ∈ [z, TI, TO, i1, i2], l2 ≠ b) : ZipApart z TI TO i1 i2 l1 l2 := by
  have nd := F.nd
  simp only [List.nodup_cons, List.mem_cons, not_or, List.not_mem_nil] at nd
  obtain ⟨⟨a1, a2, a3, a4, _⟩, ⟨b1, b2, b3, _⟩, ⟨c1, c2, _⟩, ⟨d1, _⟩, _⟩ := nd
  exact ⟨Ne.symm a1, Ne.symm a2, Ne.symm a3, Ne.symm a4, b1, b2, b3, c1, c2, d1, h1 _ (by simp), h1 _ (by simp), h1 _ (by simp), h1 _ (by simp), h2 _ (by simp), h2 _ (by simp), h2 _ (by simp), h2 _ (by simp)⟩
theorem turn_zipT {P : Program} {w : World} {K : PySem.W.Frag} {es : List Expr} {x1} {pos : Pos} (l1 l2 : Addr) {z TI TO i1 i2 : Addr} (F : Five z TI TO i1 i2) : Turn P w K (.Tuple es x1 pos) (Itz K l1 l2) [z, TI, TO, i1, i2] z (fun i h => ZT z TI TO i1 i2 l1 l2 i h) where
  mem := by simp
  obj := fun i h Z b hb => by
    simp only [List.mem_cons, List.not_mem_nil, or_false] at hb
    obtain ⟨hz, hti, ⟨a, c, hto⟩, ⟨o1, g1, c1, d1⟩, ⟨o2, g2, c2, d2⟩⟩ := Z
    rcases hb with rfl | rfl | rfl | rfl | rfl
    · exact ⟨_, hz, fun v q => by cases (show Data.fields _ = Data.cell v from q)⟩
    · exact ⟨_, hti, fun v q => by cases (show Data.seq _ _ = Data.cell v from q)⟩
    · exact ⟨_, hto, fun v q => by cases (show Data.seq _ _ = Data.cell v from q)⟩
    · exact ⟨_, g1, fun v q => by rw [d1] at q; cases q⟩
    · exact ⟨_, g2, fun v q => by rw [d2] at q; cases q⟩
  keep := fun i h h' Z k => by
    obtain ⟨hz, hti, ⟨a, c, hto⟩, s1, s2⟩ := Z
    exact ⟨k z (by simp) _ hz, k TI (by simp) _ hti, ⟨a, c, k TO (by simp) _ hto⟩, IsTupleIter.as s1 fun o e => k i1 (by simp) o e, IsTupleIter.as s2 fun o e => k i2 (by simp) o e⟩
  item := by
    intro X hP hw hK hc i pins s σ H E I hf Z hg
    subst hP hw hK
    obtain ⟨xs, ys, x, y, q1, q2, hx, hy⟩ := hg
    obtain ⟨its1, r1, p1, _⟩ := I.tuple q1
    obtain ⟨its2, r2, p2, _⟩ := I.tuple q2
    obtain ⟨u1, hu1, ru1⟩ := r1.get hx
    obtain ⟨u2, hu2, ru2⟩ := r2.get hy
    have D := F.of (fun b hb => FpOk.apart I (hf b hb) q1) (fun b hb => FpOk.apart I (hf b hb) q2)
    refine zipT_item D Z (show s.heap.IsTuple l1 its1.toArray from p1) (show s.heap.IsTuple l2 its2.toArray from p2) (x := u1) (y := u2) (by simpa using hu1) (by simpa using hu2) fun g z1 to1 n1 n2 nu kk => ⟨_, rfl, ?_⟩
    refine wpAny_letOwnedTupleGo_zip z1 fun g2 z2 sb => ?_
    have fr : H s.heap.objs.size = none := I.hok.fresh (Nat.le_refl _)
    have fp : ∀ b ∈ [z, TI, TO, i1, i2], FpOk X pins (upd H s.heap.objs.size (.tup [x, y])) b := fun b hb => by
      have lt : b ≠ s.heap.objs.size := by
        simp only [List.mem_cons, List.not_mem_nil, or_false] at hb
        obtain ⟨hz, hti, ⟨a, c, hto⟩, ⟨o1, g1, _⟩, ⟨o2, g2, _⟩⟩ := Z
        rcases hb with rfl | rfl | rfl | rfl | rfl
        · exact Nat.ne_of_lt (Heap.lt_size hz)
        · exact Nat.ne_of_lt (Heap.lt_size hti)
        · exact Nat.ne_of_lt (Heap.lt_size hto)
        · exact Nat.ne_of_lt (Heap.lt_size g1)
        · exact Nat.ne_of_lt (Heap.lt_size g2)
      exact ⟨by rw [upd_ne lt]; exact (hf b hb).1, (hf b hb).2⟩
    have I1 : Inv X pins σ (upd H s.heap.objs.size (.tup [x, y])) { s with heap := s.heap.push { cls := .type "tuple", data := .seq #[u1, u2] } } := I.laid (t' := s.toks) (fun b u e => Heap.get?_push_of_some _ e) (Nat.le_refl _) ⟨by simp [sizeLine], [u1, u2], .cons ru1 (.cons ru2 .nil), ⟨_, Heap.get?_push_size _ rfl, rfl, _, rfl⟩⟩
    have up : ∀ c o, c ≠ z → g.get? c = some o → g2.get? c = some o := fun c o cz e => sb.extBut _ _ cz e
    have zs : z ≠ s.heap.objs.size := Nat.ne_of_lt (Heap.lt_size Z.zz)
    have I2 : Inv X pins σ (upd H s.heap.objs.size (.tup [x, y])) { s with heap := g2 } := by
      refine Inv.turnedL (s := { s with heap := s.heap.push { cls := .type "tuple", data := .seq #[u1, u2] } }) (h' := g2) (t' := s.toks) I1 fp fun b o hb e => ?_
      have bz : b ≠ z := fun h => hb (by simp [h])
      rcases Heap.get?_push_cases e with ⟨e1, e2⟩ | e1
      · rw [e1, e2]
        exact up _ _ (Ne.symm zs) nu
      · exact up _ _ bz (kk b o (fun h => hb (by simp only [List.mem_cons, List.not_mem_nil, or_false] at h ⊢; rcases h with h | h | h | h <;> simp [h])) e1)
    exact ⟨.ref s.heap.objs.size, _, I2, rfl, ⟨_, x, y, fr, rfl, rfl, fun xs' h => by rw [I.tuple_inj h q1]; exact hx, fun ys' h => by rw [I.tuple_inj h q2]; exact hy⟩, ⟨z2, up _ _ D.TIz (kk _ _ (by simp [D.TIz, D.TITO, D.TIi1, D.TIi2]) Z.ti), ⟨_, _, up _ _ D.TOz to1⟩, IsTupleIter.as n1 fun o e => up _ o D.i1z e, IsTupleIter.as n2 fun o e => up _ o D.i2z e⟩, fun b hb => (fp b hb).1⟩
  done := by
    intro X hP hw hK hc i pins s σ H E I hf Z hg
    subst hP hw hK
    obtain ⟨xs, ys, q1, q2, he⟩ := hg
    obtain ⟨its1, r1, p1, _⟩ := I.tuple q1
    obtain ⟨its2, r2, p2, _⟩ := I.tuple q2
    have D := F.of (fun b hb => FpOk.apart I (hf b hb) q1) (fun b hb => FpOk.apart I (hf b hb) q2)
    have e1 := r1.length; have e2 := r2.length
    refine zipT_end (I.ok.hd hc) D Z (show s.heap.IsTuple l1 its1.toArray from p1) (show s.heap.IsTuple l2 its2.toArray from p2) ?_ fun g kk => ⟨rfl, Inv.turnedL (t' := s.toks) I hf fun b o hb e => kk b o (fun h => hb (by simp only [List.mem_cons, List.not_mem_nil, or_false] at h ⊢; rcases h with h | h | h | h <;> simp [h])) e⟩
    rcases he with h | h
    · exact .inl (by simp; omega)
    · exact .inr (by simp; omega)
  self := fun _ _ _ _ _ Z h => wpAny_pyIter_zip Z.zz h
section
variable {X : Cx}
noncomputable def iZipT (K : PySem.W.Frag) (ta : TA) : TI := fun σ H R => ta σ H fun vs H1 => ∃ a b, vs = [.ref a, .ref b] ∧ (∃ xs, SqT K H1 a xs) ∧ (∃ ys, SqT K H1 b ys) ∧ R (Itz K a b) H1
theorem pi_zipT {es : List Expr} {x1} {tp : Pos} {a b : Expr} {ta : TA} {p pos : Pos} (hg : Gl X "zip") (hm : X.mg "zip" = none) (ha : PA X [a, b] ta) (hs : starEach [a, b] X.env = [(false, eval a X.env), (false, eval b X.env)] := by rfl) (hs2 : starEach [b] X.env = [(false, eval b X.env)] := by rfl) :
    PI X (.Tuple es x1 tp) (.Call (.Name "zip" p) [a, b] [] pos) (iZipT X.K ta) := by
  intro pins s σ H R I h
  refine Call_ (ld_blt I hg hm boot_zip (PyProof.Rows.callWith_type1 (thn (ha pos pins s σ H _ I h) fun us s1 ⟨vs, H1, I1, r1, q1⟩ => ?_) (by rw [hs, hs2]) (by rw [hs2]; rfl)))
  obtain ⟨l1, l2, e, ⟨xs, q1⟩, ⟨ys, q2⟩, q⟩ := q1
  subst e
  cases r1 with
  | cons r rr =>
    cases rr with
    | cons r' rr =>
      cases rr
      cases r
      cases r'
      obtain ⟨its1, _, p1, _⟩ := I1.tuple q1
      obtain ⟨its2, _, p2, _⟩ := I1.tuple q2
      refine call_zipT (show s1.heap.IsTuple l1 its1.toArray from p1) (show s1.heap.IsTuple l2 its2.toArray from p2) fun g k Z => wpAny_pyIter_zip Z.zz ?_
      refine ⟨_, _, _, _, H1, rfl, I1.kept (t' := s1.toks) k, turn_zipT l1 l2 ⟨by simp⟩, Z, fun b hb => ?_, q⟩
      have hb' : s1.heap.objs.size ≤ b := by
        simp only [List.mem_cons, List.not_mem_nil, or_false] at hb
        rcases hb with rfl | rfl | rfl | rfl | rfl <;> first | exact Nat.le_add_right _ _ | exact Nat.le_refl _
      exact I1.fpOk hb' (I1.hok.fresh hb')
end
end L2

namespace HT
open PySem PySem.Spec PyProof.Rows
section
variable {prog : Program} {w : World} {A : Around} {E : Value → Shared → Prop} {s : Shared}
theorem cut_whole {t sl : Addr} {items : Array Value} {vl vu : Value} {lo hi : Option Int} {Q : Value → Shared → Prop} (ht : IsTup s.heap t items) (hs : s.heap.IsSliceOf sl vl vu .none) (pl : IsPart vl lo) (pu : IsPart vu hi)
    (hw : sIx items.size 0 lo = 0 ∧ sIx items.size items.size hi = items.size) (h : Q (.ref t) s) : wpAny (model prog w) A (getItem (.ref t) (.ref sl)) Q E s := by
  obtain ⟨os, hos, hcs, hds⟩ := id hs
  have hTs : s.TypeIs (.ref sl) "slice" := ⟨os, hos, hcs⟩
  unfold getItem
  try with_reducible refine wpAny_holding ?_
  first | refine wpAny_bind (wpAny_pure ?_) | skip
  refine wpAny_bind (wpAny_sequenceKey ht.typeIs (by decide) ?_)
  refine wpAny_bind (wpAny_callSpecial?_slot (name := Str.ofString "__getitem__") ht.typeIs PyProof.Rows.slot_tuple_getitem (wpAny_call_entry PyProof.Rows.slot_tuple_getitem ht.typeIs entry_tuple_getitem ?_ (args_tuple_getitem _ _)))
  show wpAny _ _ (Builtin.Tuple.tupleItemsOf (.ref t) >>= _) _ _ s
  refine wpAny_bind (tupleItemsOf_ ht (wpAny_bind (wpAny_typeOf hTs ?_)))
  rw [if_pos (by decide)]
  refine wpAny_bind (sliceApplied_gen hs pl pu ?_)
  have hy : (((sIx items.size 0 lo : Nat) : Int) == 0 && (1 : Int) == 1 && (sIx items.size items.size hi - sIx items.size 0 lo) == items.size) = true := by
    rw [hw.1, hw.2]
    simp
  show wpAny _ _ (if (((sIx items.size 0 lo : Nat) : Int) == 0 && (1 : Int) == 1 && (sIx items.size items.size hi - sIx items.size 0 lo) == items.size) = true then _ else _) _ _ s
  rw [if_pos hy]
  refine wpAny_bind (m := Builtin.Tuple.tupleIsExact _) (wpAny_bind (wpAny_typeOf ht.typeIs (wpAny_pure ?_)))
  rw [if_pos (by decide)]
  refine wpAny_bind (wpAny_rule ?_)
  first
    | exact wpAny_bind (wpAny_pure (wpAny_pure ⟨_, rfl, wpAny_pure h⟩))
    | exact wpAny_pure ⟨_, rfl, wpAny_pure h⟩
    | exact wpAny_bind (wpAny_pure ⟨_, rfl, wpAny_pure h⟩)

theorem cat_any {t b : Addr} {vs ws : List Value} {Q : Value → Shared → Prop} (ht : IsTup s.heap t vs.toArray) (hb : IsTup s.heap b ws.toArray) (h0 : vs = [] → Q (.ref b) s)
    (h1 : ws = [] → Q (.ref t) s) (h2 : Q (.ref s.heap.objs.size) { s with heap := s.heap.push { cls := .type "tuple", data := .seq (vs ++ ws).toArray } })
    (hz : vs.length + ws.length ≤ sizeLine) : wpAny (model prog w) A (binaryOp .Add (.ref t) (.ref b)) Q E s := by
  by_cases hv : vs = []
  · obtain ⟨⟨c1, x1, y1, z1⟩, g1, rfl, n1, rfl⟩ := id ht
    obtain ⟨⟨c2, x2, y2, z2⟩, g2, rfl, n2, rfl⟩ := id hb
    exact concat_meets ⟨_, g1, rfl⟩ ⟨_, g2, rfl⟩ noFill_tuple_add seq_tuple_add PySem.F.slot_tuple_add PySem.F.entry_tuple_add (PySem.F.args_tuple_add_2 _ _) (tuple_addW0 t b vs.toArray ws.toArray n1 n2 x1 x2 z1 z2 (by simp [hv])) ⟨g1, g2, h0 hv⟩
  · exact cat_tup ht hb hv h1 (fun _ => h2) hz
theorem back_applied {sl : Addr} {u : Tok} {n : Nat} {Q : Int × Int × Nat → Shared → Prop} (hs : s.heap.IsSliceOf sl .none .none (.int (-1) u)) (h : Q ((n : Int) - 1, -1, n) s) : wpAny (model prog w) A (Builtin.Slice.sliceApplied (.ref sl) (pure (n : Int))) Q E s := by
  obtain ⟨os, hos, hcs, hds⟩ := id hs
  unfold Builtin.Slice.sliceApplied Builtin.Slice.sliceFields
  refine wpAny_bind (wpAny_bind (wpAny_field hos hds (x := .none) rfl (wpAny_bind (wpAny_field hos hds (x := .none) rfl (wpAny_bind (wpAny_field hos hds (x := .int (-1) u) rfl (wpAny_pure ?_)))))))
  refine wpAny_bind (slicePart_int ?_)
  show wpAny _ _ (if ((-1 : Int) == 0) = true then _ else _) _ _ s
  rw [if_neg (by decide)]
  refine wpAny_bind (slicePart_none (wpAny_bind (slicePart_none (wpAny_bind (wpAny_pure ?_)))))
  show wpAny _ _ (pure ((n : Int) - 1, (-1 : Int), Builtin.Slice.slicePlaces ((n : Int) - 1) (-1) (-1))) _ _ s
  have e : Builtin.Slice.slicePlaces ((n : Int) - 1) (-1) (-1) = n := by
    unfold Builtin.Slice.slicePlaces
    rw [if_neg (by omega)]
    split
    · rw [show (- (-1 : Int)) = 1 by omega, Int.ediv_one]
      omega
    · omega
  rw [e]
  exact wpAny_pure h
theorem pick_back (xs : Array Value) : (((List.range xs.size).filterMap fun (m : Nat) => xs[(((xs.size : Int) - 1) + (m : Int) * (-1)).toNat]?).toArray) = xs.toList.reverse.toArray := by
  have go : ∀ k, k ≤ xs.size → ((List.range k).filterMap fun (m : Nat) => xs[(((xs.size : Int) - 1) + (m : Int) * (-1)).toNat]?) = xs.toList.reverse.take k := by
    intro k
    induction k with
    | zero => intro _; rfl
    | succ k ih =>
      intro h
      have hr : k < xs.toList.reverse.length := by rw [List.length_reverse, Array.length_toList]; omega
      have e1 : (((xs.size : Int) - 1) + (k : Int) * (-1)).toNat = xs.size - 1 - k := by omega
      have e2 : xs[xs.size - 1 - k]? = some (xs[xs.size - 1 - k]'(by omega)) := Array.getElem?_eq_getElem (by omega)
      rw [List.range_succ, List.filterMap_append, ih (by omega), List.take_succ_eq_append_getElem hr]
      congr 1
      rw [List.filterMap_cons, List.filterMap_nil]
      simp only [e1, e2]
      rw [List.getElem_reverse]
      simp
  rw [go _ (Nat.le_refl _), List.take_of_length_le (by simp)]
theorem cut_back {t sl : Addr} {items : Array Value} {u : Tok} {Q : Value → Shared → Prop} (ht : IsTup s.heap t items) (hs : s.heap.IsSliceOf sl .none .none (.int (-1) u)) (hz : items.size ≤ sizeLine)
    (h : Q (.ref s.heap.objs.size) { s with heap := s.heap.push { cls := .type "tuple", data := .seq items.toList.reverse.toArray } }) : wpAny (model prog w) A (getItem (.ref t) (.ref sl)) Q E s := by
  have fits : sizeOk (.seq items.toList.reverse.toArray) := by
    show items.toList.reverse.toArray.size ≤ sizeLine
    rw [List.size_toArray, List.length_reverse, Array.length_toList]
    exact hz
  obtain ⟨os, hos, hcs, hds⟩ := id hs
  have hTs : s.TypeIs (.ref sl) "slice" := ⟨os, hos, hcs⟩
  unfold getItem
  try with_reducible refine wpAny_holding ?_
  first | refine wpAny_bind (wpAny_pure ?_) | skip
  refine wpAny_bind (wpAny_sequenceKey ht.typeIs (by decide) ?_)
  refine wpAny_bind (wpAny_callSpecial?_slot (name := Str.ofString "__getitem__") ht.typeIs PyProof.Rows.slot_tuple_getitem (wpAny_call_entry PyProof.Rows.slot_tuple_getitem ht.typeIs entry_tuple_getitem ?_ (args_tuple_getitem _ _)))
  show wpAny _ _ (Builtin.Tuple.tupleItemsOf (.ref t) >>= _) _ _ s
  refine wpAny_bind (tupleItemsOf_ ht (wpAny_bind (wpAny_typeOf hTs ?_)))
  rw [if_pos (by decide)]
  refine wpAny_bind (back_applied hs ?_)
  show wpAny _ _ (if (((items.size : Int) - 1) == 0 && (-1 : Int) == 1 && items.size == items.size) = true then _ else _) _ _ s
  rw [if_neg (by rw [show ((-1 : Int) == 1) = false from rfl]; simp), pick_back]
  first
    | exact wpAny_bind (m := Builtin.Tuple.tupleExact _) (wpAny_newObj_type (wpAny_pure ⟨_, rfl, wpAny_pure h⟩) fits)
    | exact wpAny_bind (m := Builtin.Tuple.tupleExact _) (wpAny_newObj_type (wpAny_bind (wpAny_pure (wpAny_pure ⟨_, rfl, wpAny_pure h⟩))) fits)
    | exact wpAny_bind (wpAny_bind (m := Builtin.Tuple.tupleExact _) (wpAny_newObj_type (wpAny_pure (wpAny_pure ⟨_, rfl, wpAny_pure h⟩)) fits))
    | exact wpAny_bind (wpAny_bind (m := Builtin.Tuple.tupleExact _) (wpAny_newObj_type (wpAny_pure ⟨_, rfl, wpAny_pure h⟩) fits))
end
end HT
namespace L2
open PySem PySem.Spec PyProof.Rows
section
variable {X : Cx}
noncomputable def Gets (H : Hp) (xs : List V) (Q : VK) : Prop := ∀ p H', Same H H' → H' p = some (.tup xs) → Q (.ref p) H'
noncomputable def rSlH : V → Option Int → Option Int → Hp → VK → Prop := fun x lo hi H Q => ∃ a xs, x = .ref a ∧ H a = some (.tup xs) ∧ Gets H (cutV xs lo hi) Q
theorem sl_tupH : SlR X rSlH := by
  intro pins s σ H x v vl vu lo hi sl Q I rx hs pl pu h
  obtain ⟨a, xs, rfl, hx, q⟩ := h
  by_cases hw : HT.sIx xs.length 0 lo = 0 ∧ HT.sIx xs.length xs.length hi = xs.length
  · cases rx
    obtain ⟨its, r, ht, hz⟩ := I.tuple (SqT.of hx)
    have hl : its.toArray.size = xs.length := by rw [List.size_toArray]; exact r.length.symm
    refine ⟨"tuple", _, PyProof.Rows.slot_tuple_getitem.lookup, ht.typeIs, HT.cut_whole ht hs pl pu (by rw [hl]; exact hw) ⟨.ref a, H, I, rfl, q a H (fun _ _ e => e) ?_⟩⟩
    rw [hx, cutV, hw.1, hw.2]
    simp
  · exact sl_tup pins s σ H _ v vl vu lo hi sl Q I rx hs pl pu ⟨a, xs, rfl, SqT.of hx, hw, fun p n => q p _ (Lw.same_upd _ n) upd_same⟩
noncomputable def rCatH : R2 := fun x y H Q => ∃ a b xs ys, x = .ref a ∧ y = .ref b ∧ H a = some (.tup xs) ∧ H b = some (.tup ys) ∧ xs.length + ys.length ≤ sizeLine ∧ Gets H (xs ++ ys) Q
theorem op_catH : OpR X (binaryOp .Add) rCatH := by
  intro pins s σ H x y v u Q I rx ry h
  obtain ⟨a, b, xs, ys, rfl, rfl, ha, hb, hz, q⟩ := h
  cases rx
  cases ry
  obtain ⟨its, r1, p1, _⟩ := I.tuple (SqT.of ha)
  obtain ⟨its2, r2, p2, _⟩ := I.tuple (SqT.of hb)
  refine HT.cat_any p1 p2 (fun z => ⟨.ref b, H, I, rfl, q b H (fun _ _ e => e) ?_⟩) (fun z => ⟨.ref a, H, I, rfl, q a H (fun _ _ e => e) ?_⟩) ?_ (by rw [← r1.length, ← r2.length]; exact hz)
  · rw [r1.nil_iff.mp z]; exact hb
  · rw [r2.nil_iff.mp z, List.append_nil]; exact ha
  · have n := I.hok.fresh (Nat.le_refl s.heap.objs.size)
    refine ⟨.ref s.heap.objs.size, _, I.laid (t' := s.toks) (o := .tup (xs ++ ys)) (fun b ob q => Heap.get?_push_of_some _ q) (Nat.le_refl _) ?_, rfl, q _ _ (Lw.same_upd _ n) upd_same⟩
    exact ⟨by rw [List.length_append]; exact hz, _, r1.append r2, IsTup.new _ _⟩
theorem reverse_vals : ∀ {xs : List V} {us : List Value}, Vals xs us → Vals xs.reverse us.reverse
  | _, _, .nil => .nil
  | _, _, .cons h t => by
    rw [List.reverse_cons, List.reverse_cons]
    exact (reverse_vals t).append (.cons h .nil)
noncomputable def tBack (te : TE) (ts : TO) : TE := fun σ H Q => te σ H fun x H1 => ts σ H1 fun o H2 => o = some (-1) ∧ ∃ a xs, x = .ref a ∧ H2 a = some (.tup xs) ∧ Gets H2 xs.reverse Q
theorem pe_back {e st : Expr} {te : TE} {ts : TO} {pos p2 : Pos} (he : PE X e te) (hs : PO X (some st) ts) : PE X (.Subscript e (.Slice none none (some st) p2) pos) (tBack te ts) := by
  intro pins s σ H Q I h
  refine Subscript_ (thn (he pins s σ H _ I h) fun v s1 ⟨x, H1, I1, r1, q1⟩ => ?_)
  refine wpAny_Slice ?_
  rw [evalPart_none]
  refine wpAny_pure (wpAny_pure (thn (hs pins s1 σ H1 _ I1 q1) fun vs s2 ⟨o, H2, I2, po, eo, a, xs, ex, hx, q⟩ => ?_))
  subst eo ex
  cases r1
  cases po with
  | int i u =>
  have I3 : Inv X pins σ H2 { s2 with heap := s2.heap.push { cls := .type "slice", data := .fields #[.none, .none, .int (-1) u] } } := I2.kept (t' := s2.toks) fun b ob q => Heap.get?_push_of_some _ q
  obtain ⟨its, r, ht, hz⟩ := I3.tuple (SqT.of hx)
  have hl : its.toArray.size = xs.length := by rw [List.size_toArray]; exact r.length.symm
  show wpAny (model X.prog X.w) X.A (subscriptTail e (.Slice none none (some st) p2) (.ref a) (.ref s2.heap.objs.size)) (EP X pins σ Q) X.xe { s2 with heap := s2.heap.push { cls := .type "slice", data := .fields #[.none, .none, .int (-1) u] } }
  refine tail_any (ops := [.ref a, .ref s2.heap.objs.size]) ht.typeIs PyProof.Rows.slot_tuple_getitem.lookup ?_ (by with_unfolding_all rfl)
  have n := I3.hok.fresh (Nat.le_refl (s2.heap.push { cls := .type "slice", data := .fields #[.none, .none, .int (-1) u] }).objs.size)
  refine HT.cut_back ht (Heap.IsSliceOf.new ..) (by rw [hl]; exact hz) ⟨.ref _, _, I3.laid (t' := s2.toks) (o := .tup xs.reverse) (fun b ob q => Heap.get?_push_of_some _ q) (Nat.le_refl _) ?_, rfl, q _ _ (Lw.same_upd _ n) upd_same⟩
  exact ⟨by rw [List.length_reverse]; exact hz, _, reverse_vals r, IsTup.new _ _⟩
end
end L2

namespace LwMx
open PySem PySem.Spec PyProof.Rows L2 Lw
section
variable {prog : Program} {w : World} {A : Around} {R : Result → Shared → Prop} {J : Addr} {fp wr : List Addr} {n : Nat} {Pv : Nat → Value → Prop} {St : Nat → Heap → Prop}
end
section
variable {prog : Program} {w : World} {A : Around} {E : Value → Shared → Prop} {s : Shared}
end
section
variable {X : Cx}
variable {p pos kpos : Pos} {e e2 : Expr} {es : List Expr} {t tk : TA}
end
end LwMx

namespace L2
open PySem PySem.Spec PyProof.Rows
section
variable {prog : Program} {w : World} {A : Around} {E : Value → Shared → Prop} {s : Shared}
structure ZU (z TI TO i1 i2 l1 l2 : Addr) (k : Nat) (h : Heap) : Prop where
  zz : IsZip h z TI TO .none
  ti : IsPair h TI (.ref i1) (.ref i2)
  to : ∃ a b, IsPair h TO a b
  one : h.IsTupleIter i1 l1 k
  two : h.IsListIter i2 l2 k
variable {z TI TO i1 i2 l1 l2 : Addr} {k : Nat} {xs ys : Array Value}
end
section
variable {X : Cx} {pins : List (Addr × Obj)} {σ : St} {H : Hp} {s : Shared} {h' : Heap}
end
section
variable {X : Cx}
end
end L2

namespace L2
open PySem PySem.Spec PyProof.Rows
section
open AutoSeq1 (wpAny_loadPart')
end
section
variable {prog : Program} {w : World} {A : Around} {E : Value → Shared → Prop} {s : Shared}
end
section
variable {X : Cx}
end
end L2

namespace LwD
open PySem PySem.Spec PyProof.Rows L2 Lw
section
variable {X : Cx}
end
end LwD

namespace LwD
open PySem PySem.Spec PyProof.Rows L2 Lw
section
variable {X : Cx} {pins : List (Addr × Obj)} {σ : L2.St} {H : Hp} {s : Shared}
theorem Inv.freeze {d : Addr} {kvs : List (List Key × V)} (I : Inv X pins σ H s) (e : H d = some (.dT kvs)) : ∃ o, Inv X pins σ (upd H d (.frz o (.dT kvs))) s := by
  have ob : ObjOk X.prog X.w H s.heap d (.dT kvs) := I.hok d _ e
  obtain ⟨z, lo, xs, rel, o, es, ep, ho, r⟩ := id ob
  refine ⟨o, ?_⟩
  have ne : ∀ {b : Addr} {u : HO}, H b = some u → (∀ k, u ≠ .dT k) → upd H d (.frz o (.dT kvs)) b = some u := fun {b u} q n => by
    rw [upd_ne (fun y => by rw [y, e] at q; cases q; exact n _ rfl)]
    exact q
  refine I.step (h' := s.heap) (g' := s.gens) (t' := s.toks) (d' := s.drawn) (ch := []) (fun _ y => nomatch y) (fun b u _ _ _ q _ => q) (fun b u _ _ _ q _ => ⟨u.slots, q⟩) (fun b u _ _ q => ?_) (fun b u _ q => ⟨u, q⟩) (fun b xs q => ne q fun _ y => by cases y) (fun b u v q => ne q fun _ y => by cases y)
    (fun b ps q => ⟨#[], by rw [ne q fun _ y => by cases y]; simp⟩) (fun m hm => hm) ?_ I.bare
  · rw [upd_ne (fun y => by rw [y, e] at q; cases q)]
    exact q
  · intro b u q
    by_cases hb : b = d
    · subst hb
      rw [upd_same] at q
      cases q
      exact ⟨ho, ob.stay (fun c v _ q => q) (fun c q => ne q fun _ y => by cases y) fun c xs q => ne q fun _ y => by cases y⟩
    · rw [upd_ne hb] at q
      exact (I.hok b u q).stay (fun c v _ q => q) (fun c q => ne q fun _ y => by cases y) fun c xs q => ne q fun _ y => by cases y
end
section
variable {X : Cx}
noncomputable def tFrz (te : TE) : TE := fun σ H Q => te σ H fun v H1 => ∃ d kvs, v = .ref d ∧ H1 d = some (.dT kvs) ∧ ∀ o, Q v (upd H1 d (.frz o (.dT kvs)))
theorem pe_frz {e : Expr} {te : TE} (h : PE X e te) : PE X e (tFrz te) := by
  intro pins s σ H Q I hq
  refine thn (h pins s σ H _ I hq) fun u s1 ⟨x, H1, I1, r1, q1⟩ => ?_
  obtain ⟨d, kvs, rfl, hd, k⟩ := q1
  obtain ⟨o, I2⟩ := Inv.freeze I1 hd
  exact ⟨.ref d, _, I2, r1, k o⟩
end
noncomputable def Itk (d : Addr) (o : Obj) (kvs : List (List Key × V)) (ys : List V) : It :=
  ⟨fun i H => H d = some (.frz o (.dT kvs)) ∧ i < ys.length, fun i H x H' => H' = H ∧ ys[i]? = some x, fun i H => H d = some (.frz o (.dT kvs)) ∧ i = ys.length⟩
theorem turn_keys {P : Program} {w : World} {K : PySem.W.Frag} {tg : Expr} (d it : Addr) {o : Obj} {es : Array DictEntry} {ep : Nat} {kvs : List (List Key × V)} {ys : List V} (xo : o.ExactDict) (ho : o.data = .dict es ep)
    (hy : ∀ (i : Nat) (h : i < es.size), ∃ b, es[i].key = .ref b ∧ ys[i]? = some (.ref b)) (hl : ys.length = es.size) : Turn P w K tg (Itk d o kvs ys) [it] it (fun i h => h.IsKeyIter it d i es.size ep) where
  mem := by simp
  obj := fun i h st b hb => by
    have e : b = it := by simpa using hb
    subst e
    obtain ⟨o, e, c, d⟩ := st
    exact ⟨o, e, fun v z => by rw [d] at z; cases z⟩
  keep := fun i h h' st k => st.at fun o e => k it (by simp) o e
  item := by
    intro X hP hw hK hc i pins s σ H E I hf st hg
    subst hP hw hK
    obtain ⟨hd, hi⟩ := hg
    have raw : Raw s.heap d es ep := ⟨o, (I.hok d _ hd).1, xo, ho⟩
    obtain ⟨b, eb, yb⟩ := hy i (by omega)
    obtain ⟨f0, f1, f2, f3, f4, f5⟩ := hf it (by simp)
    refine raw_next st raw (by omega) fun h' st' sb => ?_
    have I1 : Inv X pins σ H { s with heap := h' } := I.turned (t' := s.toks) (fun b o hb e => (sb.2 b hb).trans e) f0 f1 f3 f4 f5
    obtain ⟨oi, e, c, dd⟩ := id st'
    exact ⟨_, rfl, go_of (s := { s with heap := h' }) e c dd (by decide) ⟨.ref b, H, I1, by rw [eb]; rfl, ⟨rfl, yb⟩, st', fun b hb => (hf b hb).1⟩⟩
  done := by
    intro X hP hw hK hc i pins s σ H E I hf st hg
    subst hP hw hK
    obtain ⟨hd, hi⟩ := hg
    have raw : Raw s.heap d es ep := ⟨o, (I.hok d _ hd).1, xo, ho⟩
    obtain ⟨f0, f1, f2, f3, f4, f5⟩ := hf it (by simp)
    rw [hi, hl] at st
    exact raw_end (I.ok.hd hc) st raw fun h' eb => ⟨rfl, I.turned (t' := s.toks) (fun b o hb e => eb b o hb e) f0 f1 f3 f4 f5⟩
  self := fun _ _ _ _ _ st h => wpAny_pyIter_keyiter st h
section
variable {X : Cx}
noncomputable def iKeys (te : TE) : TI := fun σ H R => te σ H fun v H1 => ∃ d o kvs, v = .ref d ∧ H1 d = some (.frz o (.dT kvs)) ∧ (∀ p ∈ kvs, ∃ ns : List Int, p.1 = ik ns) ∧ ∀ ys, Keyed H1 ys kvs → R (Itk d o kvs ys) H1
theorem pi_keys {tg l : Expr} {tl : TE} (hl : PE X l tl) : PI X tg l (iKeys tl) := by
  intro pins s σ H R I h
  refine thn (hl pins s σ H _ I h) fun v s1 ⟨x, H1, I1, r1, q1⟩ => ?_
  obtain ⟨d, o, kvs, rfl, hd, hk, q⟩ := q1
  cases r1
  obtain ⟨go, ob⟩ := I1.hok d _ hd
  obtain ⟨z, lo, ks, rel, o', es, ep, ho, xo, hdat, he, hn⟩ := (show ObjOk X.prog X.w H1 s1.heap d (.dT kvs) from ob)
  rw [go] at ho
  cases ho
  have esz : es.size = kvs.length := by rw [size_of_entries he, ← Paired.length rel]
  have itup : ∀ (j : Nat) (h : j < es.size), ∃ (b : Addr) (ns : List Int) (v : V), es[j].key = .ref b ∧ H1 b = some (.tup (ns.map V.int)) ∧ kvs[j]? = some (ik ns, v) := fun j hj => by
    have e1 := entry_at he j
    rw [Array.getElem?_eq_getElem hj] at e1
    cases e2 : ks[j]? with
    | none => rw [e2] at e1; cases e1
    | some x =>
      rw [e2] at e1
      have e3 : es[j] = entryOfKey _ x := Option.some.inj e1
      obtain ⟨v, m1, m2⟩ := KTgetI rel e2
      obtain ⟨ns, n1⟩ := hk _ (List.mem_of_getElem? m1)
      dsimp only at n1
      rw [n1] at m1 m2
      rw [ik_map] at m2
      exact ⟨x.2.1, ns, v, by rw [e3]; rfl, m2, m1⟩
  have kref : ∀ (j : Nat) (h : j < es.size), ∃ b : Addr, es[j].key = .ref b := fun j hj => let ⟨b, _, _, e, _⟩ := itup j hj; ⟨b, e⟩
  refine raw_iter lo ⟨o, go, xo, hdat⟩ ?_
  refine ⟨s1.heap.objs.size, [s1.heap.objs.size], _, _, H1, rfl, I1.kept (t' := s1.toks) fun b o e => Heap.get?_push_of_some _ e, turn_keys (kvs := kvs) d _ xo hdat (ys := es.toList.map fun e => match e.key with | .ref b => V.ref b | _ => V.non) ?_ (by simp), ⟨_, Heap.get?_push_size _ rfl, rfl, rfl⟩, fun b hb => ?_, q _ ⟨by simp [esz], fun i y p ey ep => ?_⟩⟩
  · intro i hi
    obtain ⟨b, e⟩ := kref i hi
    refine ⟨b, e, ?_⟩
    simp only [List.getElem?_map, Array.getElem?_toList, Array.getElem?_eq_getElem hi, Option.map_some, e]
  · have e : b = s1.heap.objs.size := by simpa using hb
    rw [e]
    exact I1.fpOk (Nat.le_refl _) (I1.hok.fresh (Nat.le_refl _))
  · have hi : i < es.size := by
      have := (List.getElem?_eq_some_iff.mp ey).1
      simpa using this
    obtain ⟨b, ns, v, e1, e2, e3⟩ := itup i hi
    simp only [List.getElem?_map, Array.getElem?_toList, Array.getElem?_eq_getElem hi, Option.map_some, e1, Option.some.injEq] at ey
    rw [e3] at ep
    cases ep
    exact ⟨b, ns, ey.symm, e2, rfl⟩
end
theorem for_keys {d : Addr} {o : Obj} {kvs : List (List Key × V)} {xs : List V} {g : TG} {tb : TS} {D : Ends} {σ : L2.St} {H : Hp} (Pv : Nat → L2.St → Hp → Prop) (h0 : Pv 0 σ H) (hl : ∀ i σ H, Pv i σ H → H d = some (.frz o (.dT kvs)))
    (hs : ∀ i x σ H, xs[i]? = some x → Pv i σ H → g x σ H fun σ2 H2 => tb { D with nx := Pv (i + 1), ct := Pv (i + 1), bk := D.nx } σ2 H2) (hd : ∀ σ H, Pv xs.length σ H → D.nx σ H) :
    ∃ W : Nat → Nat → L2.St → Hp → Prop, (∃ m, W 0 m σ H) ∧ ∀ i m σ H, W i m σ H →
      ((Itk d o kvs xs).stop i H ∧ D.nx σ H) ∨ ((Itk d o kvs xs).go i H ∧ ∃ N : L2.St → Hp → Prop, (∀ σ' H', N σ' H' → ∃ m', m' < m ∧ W (i + 1) m' σ' H') ∧ ∀ x H', (Itk d o kvs xs).yld i H x H' → g x σ H' fun σ2 H2 => tb { D with nx := N, ct := N, bk := D.nx } σ2 H2) := by
  refine ⟨fun i m σ H => m = xs.length - i ∧ i ≤ xs.length ∧ Pv i σ H, ⟨xs.length, by simp, Nat.zero_le _, h0⟩, ?_⟩
  rintro i m σ H ⟨rfl, hi, p⟩
  have q := hl i σ H p
  by_cases hlt : i < xs.length
  · refine .inr ⟨⟨q, hlt⟩, Pv (i + 1), fun σ' H' p' => ⟨xs.length - (i + 1), by omega, rfl, hlt, p'⟩, fun x H' y => ?_⟩
    obtain ⟨e, y⟩ := y
    subst e
    exact hs i x σ _ y p
  · have ei : i = xs.length := by omega
    subst ei
    exact .inl ⟨⟨q, rfl⟩, hd σ H p⟩
theorem tmul_meets (l : Addr) (x : Value) (n : Nat) (od : Option Addr) (sl : Array (Option Value)) (k : Nat) (hk : 2 ≤ k ∧ k ≤ 4) (u : Tok) :
    Meets (Builtin.«tuple.__mul__» ⟨[.ref l, .int k u], []⟩) (fun _ R s => s.heap.get? l = some { cls := .type "tuple", dict := od, data := .seq #[x] n, slots := sl } ∧ R (.ok (.ret (Value.ref s.heap.objs.size))) { s with heap := s.heap.push { cls := Value.type "tuple", data := Data.seq (List.replicate k x).toArray } }) :=
  .of_wp fun prog w A R s h => by
    obtain ⟨hp, g, d, tk, os⟩ := s; obtain ⟨hl, h⟩ := h
    have : k = 2 ∨ k = 3 ∨ k = 4 := by omega
    rcases this with rfl | rfl | rfl <;> (wp_walk; exact ⟨_, rfl, h⟩)
theorem tmul_one (l : Addr) (x : Value) (n : Nat) (od : Option Addr) (sl : Array (Option Value)) (u : Tok) :
    Meets (Builtin.«tuple.__mul__» ⟨[.ref l, .int 1 u], []⟩) (fun _ R s => s.heap.get? l = some { cls := .type "tuple", dict := od, data := .seq #[x] n, slots := sl } ∧ R (.ok (.ret (Value.ref l))) s) :=
  .of_wp fun prog w A R s h => by
    obtain ⟨hp, g, d, tk, os⟩ := s; obtain ⟨hl, h⟩ := h
    wp_walk
    exact ⟨_, rfl, h⟩
theorem tmul_r (a : Int) (t : Tok) (l : Addr) (x : Value) (n : Nat) (od : Option Addr) (sl : Array (Option Value)) :
    Meets (Builtin.«int.__rmul__» ⟨[.int a t, .ref l], []⟩) (fun _ R s => s.heap.get? l = some { cls := .type "tuple", dict := od, data := .seq #[x] n, slots := sl } ∧ R (.ok (.ret Value.notImplemented)) s) :=
  .of_wp fun prog w A R s h => by obtain ⟨hp, g, d, tk, os⟩ := s; obtain ⟨hl, h⟩ := h; wp_walk; exact ⟨_, rfl, h⟩
theorem nofill_tmul : fillsNumberSlot (.type "tuple") "mul" = pure false :=
  PySem.fillsNumberSlot_seq (id := "tuple.__mul__") (r := some (.builtin "tuple.__rmul__")) F.slot_tuple_mul.lookup (by decide +kernel) F.slot_tuple_rmul.lookup (by decide +kernel)
theorem rep_tup : seqRepeat? (.type "tuple") = pure (some (.builtin "tuple.__mul__")) := by
  unfold seqRepeat?
  rw [PySem.seqSlot_of (T := "tuple") (name := "__mul__") (id := "tuple.__mul__") F.slot_tuple_mul.lookup (by decide +kernel), PySem.seqSlot_of (T := "tuple") (name := "__rmul__") (id := "tuple.__rmul__") F.slot_tuple_rmul.lookup (by decide +kernel)]
  rfl
section
variable {X : Cx}
noncomputable def rRepT : R2 := fun x y H Q => ∃ (l : Addr) (k : Nat) (v : V), x = .ref l ∧ y = .int k ∧ H l = some (.tup [v]) ∧ 1 ≤ k ∧ k ≤ 4 ∧ ∀ p H', Same H H' → H' p = some (.tup (List.replicate k v)) → Q (.ref p) H'
theorem op_repT : OpR X (binaryOp .Mult) rRepT := by
  intro pins s σ H x y v u Q I rx ry h
  obtain ⟨l, k, z, rfl, rfl, hH, h1, h2, q⟩ := h
  cases rx
  obtain ⟨t, rfl⟩ := ry
  obtain ⟨zl, its, rv, ⟨⟨cl, od, dt, sl⟩, ho, hc, n, hd⟩⟩ := (show ObjOk X.prog X.w H s.heap l (.tup [z]) from I.hok l _ hH)
  replace hc : cl = .type "tuple" := hc
  replace hd : dt = .seq its.toArray n := hd
  obtain ⟨iv, rfl, riv⟩ := vals1 rv
  subst hc hd
  refine wpAny_binaryOp_repeat_ref (T := "tuple") (U := "int") (by decide) ⟨_, ho, rfl⟩ (fun s' => typeIs_int s' k t) nofill_tmul F.fills_int_mul F.slot_int_rmul rep_tup F.slot_int_index.lookup
    (call_meets F.slot_int_rmul (typeIs_int s k t) F.entry_int_rmul (F.args_int_rmul_2 _ _) (tmul_r k t l iv n od sl) ⟨ho, rfl, ⟨_, ho, rfl⟩, ?_⟩)
  by_cases k1 : k = 1
  · subst k1
    exact call_meets F.slot_tuple_mul ⟨_, ho, rfl⟩ F.entry_tuple_mul (F.args_tuple_mul_2 _ _) (tmul_one l iv n od sl t) ⟨ho, ⟨.ref l, H, I, rfl, q l H (Same.refl _) hH⟩⟩
  · refine call_meets F.slot_tuple_mul ⟨_, ho, rfl⟩ F.entry_tuple_mul (F.args_tuple_mul_2 _ _) (tmul_meets l iv n od sl k (by omega) t) ⟨ho, ?_⟩
    have nz : H s.heap.objs.size = none := I.hok.fresh (Nat.le_refl _)
    have rr : Vals (List.replicate k z) (List.replicate k iv) := by
      clear h1 h2 q k1
      induction k with
      | zero => exact .nil
      | succ k ih => exact .cons riv ih
    exact ⟨.ref s.heap.objs.size, _, I.laid (o := .tup (List.replicate k z)) (t' := s.toks) (fun b u e => Heap.get?_push_of_some _ e) (Nat.le_refl _) ⟨by rw [List.length_replicate]; exact Nat.le_trans h2 (by decide), _, rr, ⟨_, Heap.get?_push_size _ rfl, rfl, _, rfl⟩⟩, rfl, q _ _ (same_upd _ nz) upd_same⟩
noncomputable def CDivP (i j : Int) : Prop := 0 < j ∧ Builtin.divisionGoesByPylong i j = false
theorem op_fdivP : OpR X (binaryOp .FloorDiv) (rI CDivP fun i j => .int (i / j)) := opI fun i j _ _ _ _ _ hc q => by
  refine floordiv_int (by have := hc.1; omega) ?_ (.inl hc.2)
  rw [Int.fdiv_eq_ediv_of_nonneg _ (Int.le_of_lt hc.1)]
  exact q
theorem cdivp_of {i j : Int} (h : CDivL i j) : CDivP i j := ⟨h.1, PyProof.noPylong_of_log2 (Nat.lt_of_lt_of_le (LwM.log2_lt (by decide) h.2) (by decide))⟩
theorem cdivp_near {i j : Int} {m : Nat} (hj : 0 < j) (hm : m ≤ 13400) (hi : i.natAbs < 2 ^ m) : CDivP i j := by
  refine ⟨hj, ?_⟩
  by_cases h9 : j.natAbs.log2 < 9000
  · exact PyProof.noPylong_of_log2 h9
  · show (decide ((if j == 0 then 0 else j.natAbs.log2 / 30 + 1) > 300) && decide ((if i == 0 then 0 else i.natAbs.log2 / 30 + 1) > (if j == 0 then 0 else j.natAbs.log2 / 30 + 1) + 150)) = false
    rw [Bool.and_eq_false_iff]
    right
    refine decide_eq_false ?_
    have j0 : (j == 0) = false := by
      rw [beq_eq_false_iff_ne]
      omega
    rw [j0]
    simp only [Bool.false_eq_true, if_false]
    have : i.natAbs.log2 < 13440 := by
      by_cases z : i.natAbs = 0
      · rw [z]; decide +kernel
      · exact (Nat.log2_lt z).mpr (Nat.lt_of_lt_of_le hi (Nat.pow_le_pow_right (by decide) (by omega)))
    split <;> omega
end
end LwD

namespace LwD
open PySem PySem.W PySem.Spec PyProof.Rows
noncomputable def TruT {α : Type} (lt : Nat → Nat → Bool) (n : Nat) : KasT α → (α → Prop) → Prop
  | .ret a, P => P a
  | .ask i j k, P => i < n ∧ j < n ∧ TruT lt n (k (lt i j)) P
theorem TruT.bind {α β : Type} {lt : Nat → Nat → Bool} {n : Nat} {f : α → KasT β} {P : α → Prop} {R : β → Prop} : ∀ {t : KasT α}, TruT lt n t P → (∀ a, P a → TruT lt n (f a) R) → TruT lt n (t.bind f) R
  | .ret a, h, g => g a h
  | .ask _ _ _, h, g => ⟨h.1, h.2.1, TruT.bind h.2.2 g⟩
theorem TruT.mono {α : Type} {lt : Nat → Nat → Bool} {n : Nat} {P R : α → Prop} (g : ∀ a, P a → R a) : ∀ {t : KasT α}, TruT lt n t P → TruT lt n t R
  | .ret a, h => g a h
  | .ask _ _ _, h => ⟨h.1, h.2.1, TruT.mono g h.2.2⟩
structure Strict (lt : Nat → Nat → Bool) (n : Nat) : Prop where
  tr : ∀ a b c, lt a b = true → lt b c = true → lt a c = true
  as : ∀ a b, lt a b = true → lt b a = false
  tot : ∀ a b, a < n → b < n → a ≠ b → lt a b = false → lt b a = true
noncomputable def Up (lt : Nat → Nat → Bool) (p : Array Nat) (m : Nat) : Prop := ∀ a b, a < b → b < m → lt (p.getD a 0) (p.getD b 0) = true
noncomputable def Dn (lt : Nat → Nat → Bool) (p : Array Nat) (m : Nat) : Prop := ∀ a b, a < b → b < m → lt (p.getD b 0) (p.getD a 0) = true
theorem Pm.ne {n : Nat} {p : Array Nat} (h : Pm n p) {a b : Nat} (hab : a < b) (hb : b < n) : p.getD a 0 ≠ p.getD b 0 := by
  have sz := h.size
  have nd : p.toList.Nodup := h.nodup_iff.mpr List.nodup_range
  have ha' : a < p.toList.length := by simp [sz]; omega
  have hb' : b < p.toList.length := by simp [sz]; omega
  intro e
  have e1 : p.toList[a] = p.toList[b] := by
    have h1 : p.getD a 0 = p.toList[a] := by simp [Array.getD, show a < p.size by omega]
    have h2 : p.getD b 0 = p.toList[b] := by simp [Array.getD, show b < p.size by omega]
    rw [← h1, ← h2, e]
  have := (List.getElem_inj nd).mp e1
  omega
section
variable {lt : Nat → Nat → Bool} {n : Nat}
theorem Up.snoc (O : Strict lt n) {p : Array Nat} {m : Nat} (u : Up lt p m) (h : 0 < m → lt (p.getD (m - 1) 0) (p.getD m 0) = true) : Up lt p (m + 1) := by
  intro a b hab hb
  by_cases hbm : b < m
  · exact u a b hab hbm
  · have : b = m := by omega
    subst this
    by_cases ha : a = b - 1
    · rw [ha]; exact h (by omega)
    · exact O.tr _ _ _ (u a (b - 1) (by omega) (by omega)) (h (by omega))
theorem Dn.snoc (O : Strict lt n) {p : Array Nat} {m : Nat} (u : Dn lt p m) (h : 0 < m → lt (p.getD m 0) (p.getD (m - 1) 0) = true) : Dn lt p (m + 1) := by
  intro a b hab hb
  by_cases hbm : b < m
  · exact u a b hab hbm
  · have : b = m := by omega
    subst this
    by_cases ha : a = b - 1
    · rw [ha]; exact h (by omega)
    · exact O.tr _ _ _ (h (by omega)) (u a (b - 1) (by omega) (by omega))
theorem tru_asc (O : Strict lt n) {p : Array Nat} (h : Pm n p) (hn : 0 < n) : ∀ (f k : Nat), 1 ≤ k → k + f = n → Up lt p k → TruT lt n (kas_asc p f k) fun m => k ≤ m ∧ m ≤ n ∧ Up lt p m ∧ (m < n → lt (p.getD m 0) (p.getD (m - 1) 0) = true)
  | 0, k, h1, h2, u => ⟨Nat.le_refl _, by omega, u, fun z => by omega⟩
  | f + 1, k, h1, h2, u => by
    refine ⟨h.lt hn, h.lt hn, ?_⟩
    cases hb : lt (p.getD k 0) (p.getD (k - 1) 0) with
    | true => exact ⟨Nat.le_refl _, by omega, u, fun _ => hb⟩
    | false =>
      have up : Up lt p (k + 1) := u.snoc O fun _ => O.tot _ _ (h.lt hn) (h.lt hn) (Ne.symm (h.ne (by omega) (by omega))) hb
      refine (tru_asc O h hn f (k + 1) (by omega) (by omega) up).mono fun m hm => ⟨by omega, hm.2⟩
theorem tru_desc (O : Strict lt n) (hn : 0 < n) {p : Array Nat} (h : Pm n p) : ∀ (f k : Nat), 1 ≤ k → k + f = n → Dn lt p k → TruT lt n (kas_desc f p k 0) fun r => r.1 = p ∧ r.2.2 = 0 ∧ k ≤ r.2.1 ∧ r.2.1 ≤ n ∧ Dn lt p r.2.1
  | 0, k, _, h2, d => ⟨rfl, rfl, Nat.le_refl _, (show k ≤ n by omega), d⟩
  | f + 1, k, h1, h2, d => by
    refine ⟨h.lt hn, h.lt hn, ?_⟩
    cases hb : lt (p.getD k 0) (p.getD (k - 1) 0) with
    | true =>
      have dn : Dn lt p (k + 1) := d.snoc O fun _ => hb
      exact (tru_desc O hn h f (k + 1) (by omega) (by omega) dn).mono fun r hr => ⟨hr.1, hr.2.1, by omega, hr.2.2.2⟩
    | false =>
      refine ⟨h.lt hn, h.lt hn, ?_⟩
      have : lt (p.getD (k - 1) 0) (p.getD k 0) = true := O.tot _ _ (h.lt hn) (h.lt hn) (Ne.symm (h.ne (by omega) (by omega))) hb
      rw [this]
      exact ⟨rfl, rfl, Nat.le_refl _, (show k ≤ n by omega), d⟩
theorem getD_of? {p : Array Nat} {i : Nat} {q : Array Nat} {j : Nat} (h : p[i]? = q[j]?) : p.getD i 0 = q.getD j 0 := by
  rw [Array.getD_eq_getD_getElem?, Array.getD_eq_getD_getElem?, h]
theorem rev_up {p : Array Nat} (sz : p.size = n) {k : Nat} (hk : k ≤ n) (d : Dn lt p k) : Up lt (kas_rev p 0 k) k := by
  intro a b hab hb
  have e : ∀ c, c < k → (kas_rev p 0 k).getD c 0 = p.getD (k - 1 - c) 0 := fun c hc => by
    refine getD_of? ?_
    unfold kas_rev
    rw [getElem?_mirror_all (by omega), if_pos ⟨Nat.zero_le _, hc⟩, Nat.zero_add]
  rw [e a (by omega), e b hb]
  exact d (k - 1 - b) (k - 1 - a) (by omega) (by omega)
theorem tru_count (O : Strict lt n) (hn : 0 < n) : TruT lt n (kas_count n (List.toArray (List.range n))) fun r => Pm n r.2 ∧ 1 ≤ r.1 ∧ r.1 ≤ n ∧ Up lt r.2 r.1 := by
  have h : Pm n (List.toArray (List.range n)) := by unfold Pm; simp
  generalize List.toArray (List.range n) = p at h
  have u1 : Up lt p 1 := fun a b h1 h2 => by omega
  refine (tru_asc O h hn (n - 1) 1 (by omega) (by omega) u1).bind fun m hm => ?_
  obtain ⟨m1, m2, um, hlt⟩ := hm
  by_cases e : m = n
  · rw [if_pos (by simp [e])]
    exact ⟨h, m1, m2, um⟩
  · rw [if_neg (by simp [e])]
    by_cases m3 : m > 1
    · rw [if_pos m3]
      refine ⟨h.lt hn, h.lt hn, ?_⟩
      rw [um 0 (m - 1) (by omega) (by omega)]
      exact ⟨h, m1, m2, um⟩
    · rw [if_neg m3]
      have m4 : m = 1 := by omega
      subst m4
      have d2 : Dn lt p 2 := by
        intro a b hab hb
        have hl := hlt (by omega)
        have : a = 0 ∧ b = 1 := by omega
        rw [this.1, this.2]
        exact hl
      unfold kas_descPart
      refine (tru_desc O hn h (n - (1 + 1)) (1 + 1) (by omega) (by omega) d2).bind fun r hr => ?_
      obtain ⟨r1, r2, r3, r4, r5⟩ := hr
      rw [if_neg (by rw [r2]; decide), r1]
      unfold kas_tail3
      have hv : Pm n (kas_rev p 0 r.2.1) := h.rev _ _
      refine (tru_asc O hv hn (n - r.2.1) r.2.1 (by omega) (by omega) (rev_up h.size r4 r5)).bind fun k hk => ?_
      exact ⟨hv, by omega, hk.2.1, hk.2.2.1⟩
theorem tru_place (O : Strict lt n) (hn : 0 < n) {p : Array Nat} (h : Pm n p) {k : Nat} (hk : k < n) (u : Up lt p k) : ∀ (f l r : Nat), l ≤ r → r ≤ k → r - l ≤ f → (∀ a, a < l → lt (p.getD a 0) (p.getD k 0) = true) → (∀ a, r ≤ a → a < k → lt (p.getD k 0) (p.getD a 0) = true) →
    TruT lt n (kas_place p k f l r) fun x => x ≤ k ∧ (∀ a, a < x → lt (p.getD a 0) (p.getD k 0) = true) ∧ ∀ a, x ≤ a → a < k → lt (p.getD k 0) (p.getD a 0) = true
  | 0, l, r, h1, h2, h3, hl, hr => ⟨by omega, hl, fun a ha => hr a (by omega)⟩
  | f + 1, l, r, h1, h2, h3, hl, hr => by
    show TruT lt n (if l ≥ r then _ else _) _
    split
    · exact ⟨by omega, hl, fun a ha => hr a (by omega)⟩
    · refine ⟨h.lt hn, h.lt hn, ?_⟩
      have mk : (l + r) / 2 < k := by omega
      cases hb : lt (p.getD k 0) (p.getD ((l + r) / 2) 0) with
      | true =>
        refine tru_place O hn h hk u f l ((l + r) / 2) (by omega) (by omega) (by omega) hl fun a ha hak => ?_
        by_cases e : a = (l + r) / 2
        · rw [e]; exact hb
        · exact O.tr _ _ _ hb (u _ _ (by omega) hak)
      | false =>
        have hm : lt (p.getD ((l + r) / 2) 0) (p.getD k 0) = true := O.tot _ _ (h.lt hn) (h.lt hn) (Ne.symm (h.ne mk hk)) hb
        refine tru_place O hn h hk u f ((l + r) / 2 + 1) r (by omega) h2 (by omega) (fun a ha => ?_) hr
        by_cases e : a = (l + r) / 2
        · rw [e]; exact hm
        · exact O.tr _ _ _ (u a _ (by omega) mk) hm
theorem bub_up {p : Array Nat} (sz : p.size = n) {k l : Nat} (hk : k < n) (hl : l ≤ k) (u : Up lt p k) (h1 : ∀ a, a < l → lt (p.getD a 0) (p.getD k 0) = true) (h2 : ∀ a, l ≤ a → a < k → lt (p.getD k 0) (p.getD a 0) = true) : Up lt (bubble p k (k - l)) (k + 1) := by
  have e : ∀ c, (bubble p k (k - l)).getD c 0 = if c = l then p.getD k 0 else if l < c ∧ c ≤ k then p.getD (c - 1) 0 else p.getD c 0 := fun c => by
    have := getElem?_bubble (xs := p) (src := k) (by omega) (k - l) (by omega) c
    have z : k - (k - l) = l := by omega
    rw [z] at this
    split
    · rename_i hc
      rw [if_pos hc] at this
      exact getD_of? this
    · rename_i hc
      rw [if_neg hc] at this
      split
      · rename_i hc2
        rw [if_pos hc2] at this
        exact getD_of? this
      · rename_i hc2
        rw [if_neg hc2] at this
        exact getD_of? this
  intro a b hab hb
  rw [e a, e b]
  by_cases a1 : a = l
  · rw [if_pos a1, if_neg (by omega), if_pos ⟨by omega, by omega⟩]
    exact h2 _ (by omega) (by omega)
  · rw [if_neg a1]
    by_cases a2 : l < a ∧ a ≤ k
    · rw [if_pos a2, if_neg (by omega), if_pos ⟨by omega, by omega⟩]
      exact u _ _ (by omega) (by omega)
    · rw [if_neg a2]
      by_cases b1 : b = l
      · rw [if_pos b1]
        exact h1 a (by omega)
      · rw [if_neg b1]
        by_cases b2 : l < b ∧ b ≤ k
        · rw [if_pos b2]
          by_cases ab : a = b - 1
          · omega
          · exact u _ _ (by omega) (by omega)
        · rw [if_neg b2]
          exact u _ _ hab (by omega)
theorem tru_bin (O : Strict lt n) (hn : 0 < n) : ∀ (f : Nat) {p : Array Nat} (_ : Pm n p) (k : Nat), k + f = n → Up lt p k → TruT lt n (kas_bin f p k) fun q => Pm n q ∧ Up lt q n
  | 0, p, h, k, hk, u => ⟨h, by have : k = n := by omega
                                rw [← this]; exact u⟩
  | f + 1, p, h, k, hk, u => by
    refine (tru_place O hn h (by omega) u k 0 k (Nat.zero_le _) (Nat.le_refl _) (by omega) (fun a ha => by omega) (fun a h1 h2 => by omega)).bind fun l hl => ?_
    exact tru_bin O hn f (h.bub _ _) (k + 1) (by omega) (bub_up h.size (by omega) hl.1 u hl.2.1 hl.2.2)
theorem tru_sort (O : Strict lt n) (hn : 0 < n) : TruT lt n (kas_sort n) fun q => Pm n q ∧ Up lt q n := by
  refine (tru_count O hn).bind fun r hr => ?_
  obtain ⟨h1, h2, h3, h4⟩ := hr
  split
  · rw [show max r.1 1 = r.1 by omega]
    exact tru_bin O hn _ h1 _ (by omega) h4
  · have : r.1 = n := by omega
    exact ⟨h1, this ▸ h4⟩
theorem wp_tru {α : Type} {cmp : Nat → Nat → (Bool → Shared → Prop) → Shared → Prop} {s : Shared} (hc : ∀ i j C, i < n → j < n → C (lt i j) s → cmp i j C s) {P : α → Prop} {Q : α → Shared → Prop} (hq : ∀ a, P a → Q a s) : ∀ {t : KasT α}, TruT lt n t P → t.kasWp cmp Q s
  | .ret a, h => hq a h
  | .ask i j k, h => hc i j _ h.1 h.2.1 (wp_tru hc hq h.2.2)
end
end LwD

namespace LwD
open PySem PySem.Spec PyProof.Rows L2 Lw
noncomputable def lexI : List Int → List Int → Bool
  | x :: xs, y :: ys => if x = y then lexI xs ys else decide (x < y)
  | [], _ :: _ => true
  | _, [] => false
theorem lexI_tr : ∀ a b c : List Int, lexI a b = true → lexI b c = true → lexI a c = true
  | [], [], _, h, _ => by simp [lexI] at h
  | [], _ :: _, [], _, h => by simp [lexI] at h
  | [], _ :: _, _ :: _, _, _ => by simp [lexI]
  | _ :: _, [], _, h, _ => by simp [lexI] at h
  | _ :: _, _ :: _, [], _, h => by simp [lexI] at h
  | x :: xs, y :: ys, z :: zs, h1, h2 => by
    have ih := lexI_tr xs ys zs
    simp only [lexI] at h1 h2 ⊢
    by_cases e1 : x = y
    · subst e1
      rw [if_pos rfl] at h1
      by_cases e2 : x = z
      · rw [if_pos e2] at h2 ⊢
        exact ih h1 h2
      · rw [if_neg e2] at h2 ⊢
        exact h2
    · rw [if_neg e1] at h1
      have h1 := of_decide_eq_true h1
      by_cases e2 : y = z
      · subst e2
        rw [if_neg e1]
        exact decide_eq_true h1
      · rw [if_neg e2] at h2
        have h2 := of_decide_eq_true h2
        rw [if_neg (by omega)]
        exact decide_eq_true (by omega)
theorem lexI_as : ∀ a b : List Int, lexI a b = true → lexI b a = false
  | [], [], h => by simp [lexI] at h
  | [], _ :: _, _ => by simp [lexI]
  | _ :: _, [], h => by simp [lexI] at h
  | x :: xs, y :: ys, h => by
    have ih := lexI_as xs ys
    simp only [lexI] at h ⊢
    by_cases e1 : x = y
    · subst e1
      rw [if_pos rfl] at h ⊢
      exact ih h
    · rw [if_neg e1] at h
      have h := of_decide_eq_true h
      rw [if_neg (by omega)]
      exact decide_eq_false (by omega)
theorem lexI_tot : ∀ a b : List Int, a ≠ b → lexI a b = false → lexI b a = true
  | [], [], n, _ => absurd rfl n
  | [], _ :: _, _, h => by simp [lexI] at h
  | _ :: _, [], _, _ => by simp [lexI]
  | x :: xs, y :: ys, n, h => by
    have ih := lexI_tot xs ys
    simp only [lexI] at h ⊢
    by_cases e1 : x = y
    · subst e1
      rw [if_pos rfl] at h ⊢
      exact ih (fun z => n (by rw [z])) h
    · rw [if_neg e1] at h
      have h := of_decide_eq_false h
      rw [if_neg (by omega)]
      exact decide_eq_true (by omega)
noncomputable def lexG (fin : Bool) : List Int → List Int → Bool
  | x :: xs, y :: ys => if x = y then lexG fin xs ys else decide (x < y)
  | _, _ => fin
theorem lexG_is : ∀ a b : List Int, lexG (decide (a.length < b.length)) a b = lexI a b
  | [], [] => rfl
  | [], _ :: _ => by simp [lexG, lexI]
  | _ :: _, [] => by simp [lexG, lexI]
  | x :: xs, y :: ys => by
    have ih := lexG_is xs ys
    simp only [lexG, lexI, List.length_cons, Nat.add_lt_add_iff_right]
    rw [ih]
noncomputable def kInts (k : List Key) : List Int := k.filterMap fun | .inl i => some i | .inr _ => none
theorem kInts_ik (ns : List Int) : kInts (ik ns) = ns := by
  unfold kInts ik
  induction ns with
  | nil => rfl
  | cons n r ih => simp [ih]
theorem KTkeys {H : Hp} {kvs : List (List Key × V)} {xs : List (List Key × Addr × Value)} (r : KT H kvs xs) : kvs.map (·.1) = xs.map (·.1) := by
  induction r with
  | nil => rfl
  | cons h _ ih => rw [List.map_cons, List.map_cons, ih, h.1]
section
variable {prog : Program} {w : World} {A : Around} {E : Value → Shared → Prop} {s : Shared}
theorem lex_true {b fin : Bool} {Q : Bool → Shared → Prop} : ∀ {as bs : List Value} {xs ys : List Int} (_ : IntsAre as xs) (_ : IntsAre bs ys) (_ : Q (lexG fin xs ys) s) (i : Nat), PySem.W.KatLex prog w A b fin Q (as.zip bs) i s
  | _, _, _, _, .nil, _, h, _ => by
    rw [List.zip_nil_left]
    exact PySem.W.kat_nil (by simpa [lexG] using h)
  | _, _, _, _, .cons _ _ _, .nil, h, _ => by
    rw [List.zip_nil_right]
    exact PySem.W.kat_nil (by simpa [lexG] using h)
  | _, _, _, _, .cons n t r, .cons m u r2, h, i => by
    rw [List.zip_cons_cons]
    simp only [lexG] at h
    refine PySem.W.kat_cons (SeqAt.EqAt.int_int _ _ _ _ prog w _ _ ?_)
    refine PySem.W.kat_go (fun e => PySem.W.kat_yes (lex_true r r2 (by rwa [if_pos (by simpa using e)] at h) (i + 1))) fun e => PySem.W.kat_no ?_
    rw [if_neg (by simpa using e)] at h
    cases hb : (b && i == 0) with
    | true => exact oneLt_int h
    | false => exact PySem.W.kat_one _ _ (lt_int h)
end
section
variable {X : Cx}
noncomputable def rSortS : List V → Hp → VK → Prop := fun xs H Q => ∃ (a : Addr) (kvs : List (List Key × V)), xs = [.ref a] ∧ Rd H a (.dT kvs) ∧ kvs.length < 64 ∧ (∀ p ∈ kvs, ∃ ns : List Int, p.1 = ik ns ∧ ns ≠ []) ∧
  ∀ (ys : List V) (zs : List (List Key × V)), zs.Perm kvs → Keyed H ys zs → zs.Pairwise (fun p q => lexI (kInts p.1) (kInts q.1) = true) → New H (.lst ys) Q
theorem call_sortS (hc : X.calm = true) : CallR X (.builtin "sorted") rSortS := by
  intro pins s σ H xs us Q I r h
  obtain ⟨a, kvs, rfl, ha, h64, hk, q⟩ := h
  obtain ⟨u, rfl, ru⟩ := vals1 r
  cases ru
  obtain ⟨z, lo, ks, rel, dd⟩ := dt_rd I.hok ha
  obtain ⟨o, es, ep, hd1, hd2, hd3, he, his, hn⟩ := id dd
  have raw : Raw s.heap a es ep := ⟨o, hd1, hd2, hd3⟩
  have esz : es.size = kvs.length := by rw [size_of_entries he, ← Paired.length rel]
  obtain ⟨m, F⟩ := I.fr
  have kn : (kvs.map (·.1)).Nodup := by rw [KTkeys rel]; exact hn
  have itup : ∀ (j : Nat) (h : j < es.size), ∃ (b : Addr) (ns : List Int) (v : V), es[j].key = .ref b ∧ H b = some (.tup (ns.map V.int)) ∧ kvs[j]? = some (ik ns, v) ∧ ns ≠ [] := fun j hj => by
    have e1 := entry_at he j
    rw [Array.getElem?_eq_getElem hj] at e1
    cases e2 : ks[j]? with
    | none => rw [e2] at e1; cases e1
    | some x =>
      rw [e2] at e1
      have e3 : es[j] = entryOfKey _ x := Option.some.inj e1
      obtain ⟨v, m1, m2⟩ := KTgetI rel e2
      obtain ⟨ns, n1, n2⟩ := hk _ (List.mem_of_getElem? m1)
      dsimp only at n1
      rw [n1] at m1 m2
      rw [ik_map] at m2
      exact ⟨x.2.1, ns, v, by rw [e3]; rfl, m2, m1, n2⟩
  refine PySem.W.kdu_sorted (raw_src lo) (I.ok.hd hc) F news_all raw (by rw [esz]; exact z) fun D h' tk vs F' N' lt hlen hP => ?_
  have vtup : ∀ (j : Nat) (hj : j < vs.length), ∃ (b : Addr) (ns : List Int) (v : V), vs[j] = .ref b ∧ H b = some (.tup (ns.map V.int)) ∧ kvs[j]? = some (ik ns, v) ∧ ns ≠ [] := fun j hj => by
    obtain ⟨h1, h2⟩ := hP j vs[j] (by simp [hj])
    rw [h2]
    exact itup j h1
  have vl : vs.length = kvs.length := by rw [hlen, esz]
  have kvI : ∀ (j : Nat) (ns : List Int) (v : V), kvs[j]? = some (ik ns, v) → kInts (kvs.getD j ([], .non)).1 = ns := fun j ns v e => by rw [List.getD_eq_getElem?_getD, e]; exact kInts_ik ns
  have O : Strict (fun i j => lexI (kInts (kvs.getD i ([], .non)).1) (kInts (kvs.getD j ([], .non)).1)) vs.length := by
    refine ⟨fun a b c => lexI_tr _ _ _, fun a b => lexI_as _ _, fun a b ha hb hab hf => ?_⟩
    obtain ⟨_, ns, v, _, _, e3, _⟩ := vtup a ha
    obtain ⟨_, ms, v', _, _, e3', _⟩ := vtup b hb
    rw [kvI _ _ _ e3, kvI _ _ _ e3'] at hf
    show lexI (kInts (kvs.getD b ([], .non)).1) (kInts (kvs.getD a ([], .non)).1) = true
    rw [kvI _ _ _ e3, kvI _ _ _ e3']
    refine lexI_tot _ _ (fun z => hab ?_) hf
    have i1 : (kvs.map (·.1))[a]? = some (ik ns) := by rw [List.getElem?_map, e3]; rfl
    have i2 : (kvs.map (·.1))[b]? = some (ik ns) := by rw [List.getElem?_map, e3', z]; rfl
    exact (List.getElem?_inj (by rw [List.length_map]; omega) kn).mp (i1.trans i2.symm)
  -- the values in another order
  have fin : ∀ (idx : List Nat) (h3 : Heap) (c tk3 : Nat), idx.Perm (List.range kvs.length) → idx.Pairwise (fun i j => lexI (kInts (kvs.getD i ([], .non)).1) (kInts (kvs.getD j ([], .non)).1) = true) → Fr X.base X.env.locals h3 m → News X.base X.env.locals h3 ((D, PySem.W.listOf (idx.map fun i => vs.getD i Value.none).toArray c) :: allNews X.base s.heap X.env.locals) →
      EP X pins σ Q (.ref D) { s with heap := h3, toks := tk3 } := fun idx h3 c tk3 pm pw F3 N3 => by
    have il : idx.length = kvs.length := by rw [pm.length_eq, List.length_range]
    have im : ∀ i ∈ idx, i < kvs.length := fun i hi => List.mem_range.mp (pm.mem_iff.mp hi)
    have tr : ∀ js : List Nat, (∀ i ∈ js, i < kvs.length) → ∃ ys : List V, Vals ys (js.map fun i => vs.getD i Value.none) ∧ Keyed H ys (js.map fun i => kvs.getD i ([], .non)) := by
      intro js
      induction js with
      | nil => exact fun _ => ⟨[], .nil, rfl, fun i y p e => by simp at e⟩
      | cons j js ih =>
        intro hj
        obtain ⟨ys, r1, r2, r3⟩ := ih fun i hi => hj i (List.mem_cons_of_mem _ hi)
        have hj1 := hj j (List.mem_cons_self ..)
        obtain ⟨b, ns, x, e1, e2, e3, _⟩ := vtup j (by rw [vl]; exact hj1)
        refine ⟨.ref b :: ys, ?_, by simp [r2], fun i y p ey ep => ?_⟩
        · rw [List.map_cons]
          refine .cons ?_ r1
          rw [List.getD_eq_getElem?_getD, List.getElem?_eq_getElem (by rw [vl]; exact hj1), e1]
          rfl
        · cases i with
          | zero =>
            simp only [List.map_cons, List.getElem?_cons_zero, Option.some.injEq] at ey ep
            rw [List.getD_eq_getElem?_getD, e3] at ep
            subst ey
            subst ep
            exact ⟨b, ns, rfl, e2, rfl⟩
          | succ i =>
            simp only [List.map_cons, List.getElem?_cons_succ] at ey ep
            exact r3 i y p ey ep
    obtain ⟨ys, rv, hy⟩ := tr idx im
    have yl : ys.length = kvs.length := by rw [hy.1, List.length_map]; exact il
    have nb := new_by_news (ho := .lst ys) (tk := tk3) I F F3 N3 lt fun e => ⟨by rw [yl]; exact z, _, c, rv, e⟩
    have pz : (idx.map fun i => kvs.getD i ([], .non)).Perm kvs := by
      have := pm.map fun i => kvs.getD i ([], V.non)
      rw [getD_range] at this
      exact this
    exact ⟨.ref D, _, nb.2, rfl, (q ys _ pz hy (List.pairwise_map.mpr pw)).at nb.1⟩
  have nD := N' (D, PySem.W.listOf vs.toArray 0) (List.mem_cons_self ..)
  by_cases h2 : vs.length < 2
  · refine sort_small (n := 0) nD.1 h2 ?_
    obtain ⟨c, hat⟩ := sortedHeap_at (vs := vs) (n := 0) (out := vs.toArray) nD.1
    have old : ∀ b u, b ≠ D → h'.get? b = some u → (sortedHeap h' D vs vs.toArray).get? b = some u := fun b u hb e => by
      rw [sortedHeap_old hb (Heap.lt_size e)]
      exact e
    have er : (List.range kvs.length).map (fun i => vs.getD i Value.none) = vs := by rw [← vl]; exact getD_range vs _
    refine fin (List.range kvs.length) _ c tk (List.Perm.refl _) (by
      rw [← vl]
      have : vs.length = 0 ∨ vs.length = 1 := by omega
      rcases this with z | z <;> rw [z] <;> simp) ⟨?_, fun b u e => old b u (fun y => by rw [y, nD.2.2] at e; cases e) (F'.keep b u e), F'.above⟩ (fun p hp => ?_)
    · obtain ⟨ob, es', ep', e1, e2⟩ := F'.ns
      exact ⟨ob, es', ep', old _ _ (Ne.symm nD.2.1) e1, e2⟩
    · rw [er] at hp
      rcases List.mem_cons.mp hp with rfl | hp
      · exact ⟨hat, nD.2⟩
      · have y := N' p (List.mem_cons_of_mem _ hp)
        exact ⟨old _ _ (Nat.ne_of_lt (lt p hp)) y.1, y.2⟩
  · have hd : ∀ q ∈ allNews X.base s.heap X.env.locals, q.1 ≠ D := fun q hq => Nat.ne_of_lt (lt q hq)
    refine PySem.W.kat_lsort (vs := vs) (its := vs.toArray) F' N' (.head hd) rfl (by omega) (by omega) fun e1 h4 F4 N4 => ?_
    have in4 : ∀ b xs, H b = some (.tup xs) → ∃ its : List Value, Vals xs its ∧ IsTup h4 b its.toArray := fun b xs e => by
      obtain ⟨_, its, rv, ob, ho, hc2⟩ := (show ObjOk X.prog X.w H s.heap b (.tup xs) from I.hok b _ e)
      refine ⟨its, rv, ob, ?_, hc2⟩
      cases y : X.base.get? b with
      | some u =>
        have y2 := I.bk b u y
        rw [ho] at y2
        cases y2
        exact F4.keep b _ y
      | none => exact (N4 (b, ob) (List.mem_cons_of_mem _ (mem_allNews (fun y2 => by rw [y2, I.free] at e; cases e) y ho))).1
    have tups : ∀ l : List Value, (∀ v ∈ l, v ∈ vs) → ∃ fs : List Value, PySem.W.KatTups h4 l fs ∧ fs.length = l.length ∧ ∀ f ∈ fs, ∃ n t, f = Value.int n t := by
      intro l
      induction l with
      | nil => exact fun _ => ⟨[], .nil, rfl, fun _ y => nomatch y⟩
      | cons v r ih =>
        intro hm
        obtain ⟨fs, t1, t2, t3⟩ := ih fun v' hv' => hm v' (List.mem_cons_of_mem _ hv')
        obtain ⟨j, hj, ev⟩ := List.getElem_of_mem (hm v (List.mem_cons_self ..))
        obtain ⟨b, ns, x, g1, g2, g3, g4⟩ := vtup j hj
        obtain ⟨its, rv, ob, ho, hc2, nn, hdt⟩ := in4 b _ g2
        match ns, g4, rv with
        | n :: nr, _, .cons (b := iv) (l₂ := ir) rr rt =>
          obtain ⟨tt, rfl⟩ := rr
          rw [← ev, g1]
          exact ⟨.int n tt :: fs, .cons ho hc2 hdt (by simp) t1, by simp [t2], fun f hf => (List.mem_cons.mp hf).elim (fun y => ⟨n, tt, y⟩) (t3 f)⟩
    obtain ⟨fs, t1, t2, t3⟩ := tups vs fun _ y => y
    refine PySem.W.kat_kind (T := .type "int") t1 (by omega) (fun f hf => ?_) (by decide) ?_
    · obtain ⟨n, t, rfl⟩ := t3 f hf
      exact PySem.W.Looks.of_pure rfl
    · refine wp_tru (n := vs.length) (P := fun q => Pm vs.length q ∧ Up (fun i j => lexI (kInts (kvs.getD i ([], .non)).1) (kInts (kvs.getD j ([], .non)).1)) q vs.length) (fun i j C hi hj hC => ?_) (fun p hp => ?_) (tru_sort O (by omega))
      · obtain ⟨b, ns, x, g1, g2, g3, _⟩ := vtup i hi
        obtain ⟨b', ns', x', g1', g2', g3', _⟩ := vtup j hj
        obtain ⟨its, rv, ob, ho, hc2, nn, hdt⟩ := in4 b _ g2
        obtain ⟨its', rv', ob', ho', hc2', nn', hdt'⟩ := in4 b' _ g2'
        unfold PySem.W.kas_ask
        rw [show vs.getD i Value.none = .ref b by rw [List.getD_eq_getElem?_getD, List.getElem?_eq_getElem hi, g1]; rfl, show vs.getD j Value.none = .ref b' by rw [List.getD_eq_getElem?_getD, List.getElem?_eq_getElem hj, g1']; rfl]
        rw [kvI _ _ _ g3, kvI _ _ _ g3'] at hC
        have i1 := intsAre_of rv
        have i2 := intsAre_of rv'
        refine PySem.W.kat_lt ho hdt ho' hdt' (lex_true i1 i2 ?_ 0)
        rw [List.size_toArray, List.size_toArray, ints_len i1, ints_len i2, lexG_is]
        exact hC
      · refine PySem.W.KasFin.intro F4 N4 (.head hd) fun h5 c F5 N5 => fin p.toList h5 c tk ?_ ?_ F5 N5
        · rw [← vl]
          exact hp.1
        · have sz := hp.1.size
          refine List.pairwise_iff_getElem.mpr fun a b ha hb hab => ?_
          have ha' : a < p.size := by simpa using ha
          have hb' : b < p.size := by simpa using hb
          have := hp.2 a b hab (by omega)
          simpa [Array.getD, ha', hb'] using this
end
end LwD

namespace LwI
open PySem PySem.Spec PyProof.Rows
open Sem (wp)
theorem st_int : typeLookup (.type "str") "__int__" = pure none := by rw [typeLookup_type, builtinLookup_eq_fast]; kernel_rfl
theorem st_index : typeLookup (.type "str") "__index__" = pure none := by rw [typeLookup_type, builtinLookup_eq_fast]; kernel_rfl
theorem st_trunc : typeLookup (.type "str") "__trunc__" = pure none := by rw [typeLookup_type, builtinLookup_eq_fast]; kernel_rfl
section
local macro_rules | `(panic! $s:str) => return Lean.mkIdent ((Lean.Name.str (.str (.num (.str (.str (.str (.str (.str .anonymous "_private") "PySem") "Builtin") "Int") "W0All") 0) "PySem") "Builtin") ++ s.getString.toName)
local macro_rules | `(tactic| trivial) => do
  let n (s : String) := Lean.mkIdent (.str (.str (.str (.num (.str (.str (.str (.str (.str .anonymous "_private") "PySem") "Builtin") "Int") "W0All") 0) "PySem") "Builtin") s)
  `(tactic| first | unfold $(n "intFromObject") | unfold $(n "numeralText?") | unfold $(n "intFromText") | unfold $(n "readNumeral") | unfold $(n "prefixBase?") | unfold $(n "numeralDigits?") | unfold $(n "digitValue?"))
noncomputable def Dig (D : List Nat) : Prop := ∀ c ∈ D, 48 ≤ c ∧ c ≤ 57
noncomputable def valD (D : List Nat) : Nat := D.foldl (fun acc c => acc * 10 + (c - 48)) 0
theorem blank_no {c : Nat} (h : 45 ≤ c) : (panic! "isBlank") c = false := by
  show ((c == 32) || (decide (9 ≤ c) && decide (c ≤ 13))) = false
  have h1 : (c == 32) = false := by simp; omega
  have h2 : decide (c ≤ 13) = false := by simp; omega
  rw [h1, h2]
  simp
theorem digit_is {c : Nat} (h : 48 ≤ c ∧ c ≤ 57) : (panic! "digitValue?") c = some (c - 48) := by
  trivial
  have h1 : (decide (48 ≤ c) && decide (c ≤ 57)) = true := by simp; omega
  rw [if_pos h1]
theorem pre_no : ∀ (D : List Nat), Dig D → (panic! "prefixBase?") D = none
  | [], _ => by trivial; rfl
  | [c], _ => by
    trivial
    split
    · rename_i h; cases h
    · rfl
  | c :: e :: r, h => by
    have he := h e (by simp)
    trivial
    split
    · rename_i q
      injection q with q1 q2
      injection q2 with q2 q3
      subst q2
      have n : ∀ k, 57 < k → (e == k) = false := fun k hk => by simp; omega
      rw [n 120 (by decide), n 88 (by decide), n 111 (by decide), n 79 (by decide), n 98 (by decide), n 66 (by decide)]
      rfl
    · rfl
theorem foldM_dig {F : Array Nat × Bool → Nat → Option (Array Nat × Bool)} (hF : ∀ ds b c, 48 ≤ c ∧ c ≤ 57 → F (ds, b) c = some (ds.push (c - 48), true)) : ∀ (D : List Nat) (ds : Array Nat) (b : Bool), Dig D → D ≠ [] → D.foldlM F (ds, b) = some (ds ++ (D.map (· - 48)).toArray, true)
  | [], _, _, _, h => absurd rfl h
  | [c], ds, b, h, _ => by
    rw [List.foldlM_cons, hF ds b c (h c (by simp))]
    simp
  | c :: e :: r, ds, b, h, _ => by
    rw [List.foldlM_cons, hF ds b c (h c (by simp))]
    show (e :: r).foldlM F _ = _
    rw [foldM_dig hF (e :: r) _ _ (fun x hx => h x (List.mem_cons_of_mem _ hx)) (by simp)]
    simp
theorem digs_are {D : List Nat} (h : Dig D) (n : D ≠ []) : (panic! "numeralDigits?") 10 D = some (D.map (· - 48)).toArray := by
  trivial
  rw [foldM_dig (fun ds b c hc => ?_) D #[] false h n]
  · simp
  · have h1 : (c == 95) = false := by simp; omega
    have h2 : c - 48 < 10 := by omega
    dsimp only
    rw [h1, digit_is hc]
    simp [h2]
theorem val_fold (D : List Nat) : (D.map (· - 48)).toArray.foldl (fun acc d => acc * 10 + d) 0 = valD D := by
  rw [List.foldl_toArray, List.foldl_map]
  rfl
theorem drop_no {p : Nat → Bool} {a : Nat} {l : List Nat} (h : p a = false) : List.dropWhile p (a :: l) = a :: l := by simp [List.dropWhile, h]
theorem read_dig {D : List Nat} (h : Dig D) (n : D ≠ []) (l : D.length ≤ 640) : (panic! "readNumeral") 0 10 D = (panic! "Numeral.value") (valD D) ∧ (panic! "readNumeral") 0 10 (45 :: D) = (panic! "Numeral.value") (-(valD D : Int)) := by
  have sz : decide ((D.map (· - 48)).toArray.size > 6000) = false := by simp; omega
  have rv : (List.dropWhile (panic! "isBlank") D.reverse).reverse = D := by
    cases e : D.reverse with
    | nil => rw [List.reverse_eq_nil_iff] at e; exact absurd e n
    | cons a r =>
      have ha : a ∈ D := List.mem_reverse.mp (by rw [e]; simp)
      rw [drop_no (blank_no (by have := h a ha; omega)), ← e, List.reverse_reverse]
  have core : ∀ neg : Bool, (match (panic! "numeralDigits?") 10 (List.dropWhile (panic! "isBlank") D.reverse).reverse with
      | none => (panic! "Numeral.invalid")
      | some ds => if (![2, 4, 8, 16, 32].contains 10 && 0 != 0 && decide (ds.size > 0)) = true then (panic! "Numeral.tooLong") ds.size else
          if (10 == 10 && decide (ds.size > 6000)) = true then (panic! "Numeral.byTheLibrary") else
            if (false && ds.foldl (fun acc d => acc * 10 + d) 0 != 0) = true then (panic! "Numeral.invalid") else (panic! "Numeral.value") (if neg = true then -((ds.foldl (fun acc d => acc * 10 + d) 0 : Nat) : Int) else ((ds.foldl (fun acc d => acc * 10 + d) 0 : Nat) : Int))) = (panic! "Numeral.value") (if neg = true then -(valD D : Int) else (valD D : Int)) := fun neg => by
    rw [rv, digs_are h n]
    dsimp only
    rw [if_neg (by simp), sz, if_neg (by simp), if_neg (by simp), val_fold]
  obtain ⟨d, r, e⟩ : ∃ d r, D = d :: r := by
    cases D with
    | nil => exact absurd rfl n
    | cons d r => exact ⟨d, r, rfl⟩
  have hd := h d (by rw [e]; simp)
  refine ⟨?_, ?_⟩
  · have c0 := core false
    have p0 := pre_no D h
    clear core rv sz
    subst e
    trivial
    rw [drop_no (blank_no (by omega))]
    extract_lets t
    split
    rename_i neg tt hq
    have hq' : (neg, tt) = (false, d :: r) := by
      rw [← hq]
      show (match d :: r with | 45 :: r => (true, r) | 43 :: r => (false, r) | _ => (false, d :: r)) = _
      split
      · rename_i q; injection q with q _; omega
      · rename_i q; injection q with q _; omega
      · rfl
    cases hq'
    dsimp only
    rw [p0]
    exact c0
  · trivial
    rw [drop_no (blank_no (Nat.le_refl 45))]
    extract_lets t
    split
    rename_i neg tt hq
    have hq' : (neg, tt) = (true, D) := hq.symm
    cases hq'
    dsimp only
    rw [pre_no D h]
    exact core true
noncomputable def Nml (L : List Nat) (i : Int) : Prop := ∃ D, Dig D ∧ D ≠ [] ∧ D.length ≤ 600 ∧ ((L = D ∧ i = valD D) ∨ (L = 45 :: D ∧ i = -(valD D : Int)))
theorem Nml.low {L : List Nat} {i : Int} (h : Nml L i) : (∀ c ∈ L, 45 ≤ c ∧ c ≤ 57) ∧ L.length ≤ 640 := by
  obtain ⟨D, h1, h2, h3, h4⟩ := h
  rcases h4 with ⟨rfl, _⟩ | ⟨rfl, _⟩
  · exact ⟨fun c hc => by have := h1 c hc; omega, by omega⟩
  · refine ⟨fun c hc => ?_, by simp; omega⟩
    rcases List.mem_cons.mp hc with rfl | hc
    · omega
    · have := h1 c hc; omega
theorem take_all {p : Nat → Bool} : ∀ {L : List Nat}, (∀ c ∈ L, p c = true) → L.takeWhile p = L
  | [], _ => rfl
  | c :: r, h => by rw [List.takeWhile_cons, if_pos (h c (by simp)), take_all fun x hx => h x (List.mem_cons_of_mem _ hx)]
theorem new_str {x : Str} {t : Tok} {i : Int} (hx : Nml x.cps.toList i) : Meets (Builtin.«int.__new__» ⟨[.type "int", .str x t], []⟩) (Made.int i).spec :=
  Meets.of_wp fun prog w A R s hs => by
    obtain ⟨hp, g, d, tk, os⟩ := s
    have f1 := F.conv_sub_int
    have f2 := F.madeHere_int
    have h128 : x.cps.all (· < 128) = true := by
      rw [← Array.all_toList]
      exact List.all_eq_true.mpr fun c hc => decide_eq_true (by have := hx.low.1 c hc; omega)
    have hnz : x.cps.toList.takeWhile (· != 0) = x.cps.toList := take_all fun c hc => by
      have := hx.low.1 c hc
      simp
      omega
    have rd : (panic! "readNumeral") 0 10 x.cps.toList = (panic! "Numeral.value") i := by
      obtain ⟨D, h1, h2, h3, ⟨e, rfl⟩ | ⟨e, rfl⟩⟩ := hx
      · rw [e]; exact (read_dig h1 h2 (by omega)).1
      · rw [e]; exact (read_dig h1 h2 (by omega)).2
    iterate 16 (any_goals (first | assumption | wp_step))
    refine wpAny_pure ?_
    refine wpAny_bind ?_
    trivial
    refine wpAny_bind (wpAny_callSpecial?_none (T := "str") (typeIs_str _ _ _) st_int ?_)
    refine wpAny_bind (wpAny_specialOf (T := "str") (typeIs_str _ _ _) st_index ?_)
    refine wpAny_bind (wpAny_specialOf (T := "str") (typeIs_str _ _ _) st_trunc ?_)
    refine wpAny_bind ?_
    trivial
    refine wpAny_bind (wpAny_pure ?_)
    refine wpAny_pure ?_
    dsimp only
    rw [if_pos h128]
    trivial
    rw [hnz, if_pos hx.low.2]
    refine wpAny_bind (wpAny_pure ?_)
    dsimp only
    rw [rd]
    dsimp only
    rw [if_pos (beq_self_eq_true _)]
    refine wpAny_mkInt ?_
    iterate 4 (try any_goals (first | assumption | wp_step))
    exact ⟨_, rfl, hs⟩
end
theorem call_int_str {prog : Program} {w : World} {A : Around} {E : Value → Shared → Prop} {s : Shared} {x : Str} {t : Tok} {i : Int} {Q : Value → Shared → Prop} (hx : Nml x.cps.toList i) (h : Q (.int i s.toks) { s with toks := s.toks + 1 }) : wpAny (model prog w) A (call (.type "int") [.str x t]) Q E s :=
  call_int_1 (new_str hx) (show (Made.int i).post _ s from ⟨rfl, h⟩)
end LwI

namespace L2
open PySem PySem.Spec PyProof.Rows Lw
section
variable {X : Cx}
theorem call_intS : CallR X (.type "int") (fun xs H Q => ∃ (x : Str) (i : Int), xs = [.str x] ∧ LwI.Nml x.cps.toList i ∧ Q (.int i) H) := by
  intro pins s σ H xs us Q I r h
  obtain ⟨x, i, rfl, hx, q⟩ := h
  obtain ⟨u, rfl, t, rfl⟩ := vals1 r
  exact LwI.call_int_str hx ⟨.int i, H, I.tok _, ⟨_, rfl⟩, q⟩
theorem mt_starts : MtR X "str.startswith" (fun x xs H Q => ∃ z y : Str, x = .str z ∧ xs = [.str y] ∧ Q (.bl (Txt.startswith z y)) H) := by
  intro pins s σ H x xs v us Q I rx rs q
  obtain ⟨z, y, rfl, rfl, q⟩ := q
  obtain ⟨t, rfl⟩ := rx
  obtain ⟨u, rfl, t', rfl⟩ := vals1 rs
  exact PySem.SC.startswith ⟨.bl _, H, I, rfl, q⟩
theorem strs_vals : ∀ {ss : List Str} {us : List Value}, Vals (ss.map V.str) us → ∃ l : List (Str × Tok), us = strValues l ∧ l.map (·.1) = ss
  | [], _, h => by cases h; exact ⟨[], rfl, rfl⟩
  | x :: r, _, .cons (b := b) (l₂ := l₂) h1 h2 => by
    obtain ⟨l, e1, e2⟩ := strs_vals (ss := r) h2
    obtain ⟨t, rfl⟩ := h1
    exact ⟨(x, t) :: l, by rw [e1]; rfl, by rw [List.map_cons, e2]⟩
theorem vals_strs : ∀ (l : List (Str × Tok)), Vals ((l.map (·.1)).map V.str) (strValues l)
  | [] => .nil
  | (x, t) :: r => .cons ⟨t, rfl⟩ (vals_strs r)
noncomputable def rJoin (K : PySem.W.Frag) : V → List V → Hp → VK → Prop := fun x xs H Q => ∃ (z : Str) (p : Addr) (ss : List Str), x = .str z ∧ xs = [.ref p] ∧ SqL K H p (ss.map V.str) ∧ JoinOk z ss = true ∧ Q (.str (Str.join z ss)) H
theorem mt_join : MtR X "str.join" (rJoin X.K) := by
  intro pins s σ H x xs v us Q I rx rs q
  obtain ⟨z, p, ss, rfl, rfl, hp, hk, q⟩ := q
  obtain ⟨t, rfl⟩ := rx
  obtain ⟨u, rfl, ru⟩ := vals1 rs
  cases ru
  obtain ⟨its, rv, pl, _⟩ := I.list hp
  obtain ⟨l, rfl, e⟩ := strs_vals rv
  refine PySem.SC.join pl.isList e hk fun t' k => ?_
  rw [show Txt.join z ss = Str.join z ss from StrLaws.glued_eq_join z ss]
  exact ⟨.str _, H, I.tok _, ⟨_, rfl⟩, q⟩
theorem laid_list {pins : List (Addr × Obj)} {σ : St} {H : Hp} {s : Shared} {Q : VK} {l : List (Str × Tok)} {tk : Nat} (I : Inv X pins σ H s) (hz : l.length ≤ sizeLine) (q : New H (.lst ((l.map (·.1)).map V.str)) Q) :
    EP X pins σ Q (.ref s.heap.objs.size) { s with toks := tk, heap := s.heap.push { cls := .type "list", data := .seq (strValues l).toArray } } :=
  ⟨.ref s.heap.objs.size, _, I.laid (o := .lst ((l.map (·.1)).map V.str)) (t' := tk) (fun b o e => Heap.get?_push_of_some _ e) (Nat.le_refl _) ⟨by simpa using hz, strValues l, 0, vals_strs l, Heap.get?_push_size _ rfl⟩, rfl, q.at (I.hok.fresh (Nat.le_refl _))⟩
theorem mt_split : MtR X "str.split" (fun x xs H Q => ∃ z y : Str, x = .str z ∧ xs = [.str y] ∧ (y.length == 0) = false ∧ z.length + 2 ≤ sizeLine ∧ New H (.lst ((Txt.split z y).map V.str)) Q) := by
  intro pins s σ H x xs v us Q I rx rs q
  obtain ⟨z, y, rfl, rfl, hy, hz, q⟩ := q
  obtain ⟨t, rfl⟩ := rx
  obtain ⟨_, rfl, u, rfl⟩ := vals1 rs
  have hn : (Builtin.Str.partsBetween z (Builtin.Str.occurrences z y 0 z.length (z.length + 1)) y.length).length ≤ sizeLine := by
    have e1 := StrLaws.occ_length_le z y 0 z.length (z.length + 1)
    rw [length_partsBetween]; omega
  have one : Txt.split z y = [z] → EP X pins σ Q (.ref s.heap.objs.size) { s with heap := s.heap.push { cls := .type "list", data := .seq (strValues [(z, t)]).toArray } } := fun e => by
    rw [e] at q
    exact laid_list (tk := s.toks) (l := [(z, t)]) I (by show 1 ≤ sizeLine; decide) q
  cases h1 : (decide (z.length < y.length) || decide (Builtin.Str.strKind z < Builtin.Str.strKind y))
  · cases hf : (Builtin.Str.occurrences z y 0 z.length (z.length + 1)).isEmpty
    · refine call_meets F.slot_str_split (typeIs_str _ _ _) F.entry_str_split (F.args_str_split_2 _ _) (meets_str_split_sep z y t u h1 hy hf (by omega) hn) ?_
      show EP X pins σ Q _ { s with toks := _, heap := s.heap.push { cls := .type "list", data := .seq (strsFrom s.toks (Builtin.Str.partsBetween z (Builtin.Str.occurrences z y 0 z.length (z.length + 1)) y.length)).toArray } }
      rw [strsFrom_eq]
      have e : Txt.split z y = (numbered s.toks (Builtin.Str.partsBetween z (Builtin.Str.occurrences z y 0 z.length (z.length + 1)) y.length)).map (·.1) := ((numbered_texts _ _).trans ((if_neg (ne_true_of_eq_false h1)).trans (if_neg (ne_true_of_eq_false hf))).symm).symm
      rw [e] at q
      refine laid_list I ?_ q
      have := congrArg List.length (numbered_texts s.toks (Builtin.Str.partsBetween z (Builtin.Str.occurrences z y 0 z.length (z.length + 1)) y.length))
      rw [List.length_map] at this
      omega
    · exact call_meets F.slot_str_split (typeIs_str _ _ _) F.entry_str_split (F.args_str_split_2 _ _) (meets_str_split_not_found z y t u h1 hy hf) (one ((if_neg (ne_true_of_eq_false h1)).trans (if_pos hf)))
  · exact call_meets F.slot_str_split (typeIs_str _ _ _) F.entry_str_split (F.args_str_split_2 _ _) (meets_str_split_cannot_occur z y t u h1) (one (if_pos h1))
theorem mt_part : MtR X "str.partition" (fun x xs H Q => ∃ z y : Str, x = .str z ∧ xs = [.str y] ∧ (y.length == 0) = false ∧ z.length ≤ sizeLine ∧ New H (.tup [.str (Txt.partition z y).1, .str (Txt.partition z y).2.1, .str (Txt.partition z y).2.2]) Q) := by
  intro pins s σ H x xs v us Q I rx rs q
  obtain ⟨z, y, rfl, rfl, hy, hz, q⟩ := q
  obtain ⟨t, rfl⟩ := rx
  obtain ⟨_, rfl, u, rfl⟩ := vals1 rs
  have fin : ∀ (a b c : Str) (ta tb tc : Tok) (tk : Nat), New H (.tup [.str a, .str b, .str c]) Q → EP X pins σ Q (.ref s.heap.objs.size) { s with toks := tk, heap := s.heap.push { cls := .type "tuple", data := .seq [.str a ta, .str b tb, .str c tc].toArray } } := fun a b c ta tb tc tk q =>
    ⟨.ref s.heap.objs.size, _, I.laid (o := .tup [.str a, .str b, .str c]) (t' := tk) (fun b o e => Heap.get?_push_of_some _ e) (Nat.le_refl _) ⟨by show 3 ≤ sizeLine; decide, [.str a ta, .str b tb, .str c tc], .cons ⟨_, rfl⟩ (.cons ⟨_, rfl⟩ (.cons ⟨_, rfl⟩ .nil)), ⟨_, Heap.get?_push_size _ rfl, rfl, 0, rfl⟩⟩, rfl, q.at (I.hok.fresh (Nat.le_refl _))⟩
  refine call_meets F.slot_str_partition (typeIs_str _ _ _) F.entry_str_partition (F.args_str_partition_2 _ _) (meets_str_partition z y t u hy hz) ?_
  unfold Txt.partition at q
  revert q
  cases Builtin.Str.occurrences z y 0 z.length 1 with
  | nil => intro q; exact fin _ _ _ _ _ _ _ q
  | cons i r => intro q; exact fin _ _ _ _ _ _ _ q
noncomputable def rSlS : V → Option Int → Option Int → Hp → VK → Prop := fun x lo hi H Q => ∃ z : Str, x = .str z ∧ z.length ≤ sizeLine ∧ Q (.str (Txt.slice z lo hi)) H
theorem sl_str : SlR X rSlS := by
  intro pins s σ H x v vl vu lo hi sl Q I rx hs pl pu h
  obtain ⟨z, rfl, hz, q⟩ := h
  obtain ⟨t, rfl⟩ := rx
  refine ⟨"str", _, F.slot_str_getitem.lookup, typeIs_str _ _ _, ?_⟩
  cases pl <;> cases pu
  · exact wpAny_getItem_str_slice (l := none) (u := none) (st := none) hs rfl (post_val_or_str ⟨Nat.le_trans (Txt.slice_le z _ _) hz, fun t' k => ⟨.str _, H, I.tok _, ⟨_, rfl⟩, q⟩⟩)
  · rename_i j tj
    exact wpAny_getItem_str_slice (l := none) (u := some (j, tj)) (st := none) hs rfl (post_val_or_str ⟨Nat.le_trans (Txt.slice_le z _ _) hz, fun t' k => ⟨.str _, H, I.tok _, ⟨_, rfl⟩, q⟩⟩)
  · rename_i j tj
    exact wpAny_getItem_str_slice (l := some (j, tj)) (u := none) (st := none) hs rfl (post_val_or_str ⟨Nat.le_trans (Txt.slice_le z _ _) hz, fun t' k => ⟨.str _, H, I.tok _, ⟨_, rfl⟩, q⟩⟩)
  · rename_i i ti j tj
    exact wpAny_getItem_str_slice (l := some (i, ti)) (u := some (j, tj)) (st := none) hs rfl (post_val_or_str ⟨Nat.le_trans (Txt.slice_le z _ _) hz, fun t' k => ⟨.str _, H, I.tok _, ⟨_, rfl⟩, q⟩⟩)
noncomputable def FmtV : V → Str → Prop
  | .int i, y => i.natAbs.log2 < 1920 ∧ y = toString i
  | .str x, y => x.length ≤ sizeLine ∧ y = x
  | _, _ => False
theorem fmt_ok {pins : List (Addr × Obj)} {σ : St} {H : Hp} {s : Shared} {Q : Value → Shared → Prop} {E : Value → Shared → Prop} {x : V} {v : Value} {y : Str} (I : Inv X pins σ H s) (r : RelV x v) (f : FmtV x y) (q : ∀ t tk, Inv X pins σ H { s with toks := tk } → Q (.str y t) { s with toks := tk }) :
    wpAny (model X.prog X.w) X.A (formatField v Str.empty) Q E s := by
  cases x with
  | int i =>
    obtain ⟨t, rfl⟩ := r
    obtain ⟨f1, rfl⟩ := f
    exact formatField_int_small f1 (q _ _ (I.tok _))
  | str z =>
    obtain ⟨t, rfl⟩ := r
    obtain ⟨f1, rfl⟩ := f
    exact formatField_str (fun t' tk => q _ _ (I.tok _)) f1
  | _ => exact f.elim
theorem fmt_le {x : V} {y : Str} (f : FmtV x y) : y.length ≤ sizeLine := by
  cases x with
  | int i => rw [f.2]; exact int_text_fits f.1
  | str z => rw [f.2]; exact f.1
  | _ => exact f.elim
noncomputable def tF3 (ta : TE) (m : Str) (tb : TE) : TE := fun σ H Q => ta σ H fun x H1 => ∃ x', FmtV x x' ∧ x'.length + m.length ≤ sizeLine ∧ tb σ H1 fun y H2 => ∃ y', FmtV y y' ∧ x'.length + m.length + y'.length ≤ sizeLine ∧ Q (.str (x' ++ m ++ y')) H2
theorem pe_f3 {a b : Expr} {ta tb : TE} {m : Str} {k : Nat} {p1 p2 p3 pos : Pos} (ha : PE X a ta) (hb : PE X b tb) : PE X (.JoinedStr [.FormattedValue a (-1) none p1, .Constant (.str m) k p2, .FormattedValue b (-1) none p3] pos) (tF3 ta m tb) := by
  intro pins s σ H Q I h
  refine JoinedStr_many (joinParts_cons (FormattedValue_plain (thn (ha pins s σ H _ I h) fun v s1 ⟨x, H1, I1, r1, x', f1, hm, q1⟩ => ?_)))
  refine fmt_ok I1 r1 f1 fun t tk I2 => ?_
  have e1 : Str.empty ++ x' = x' := Str.empty_append x'
  refine ⟨by rw [e1]; exact fmt_le f1, ?_⟩
  rw [e1]
  refine joinParts_cons (Calls.Constant_str ?_)
  have I3 : Inv X pins σ H1 { s1 with toks := tk + 1 } := I2.tok _
  show (x' ++ m).length ≤ sizeLine ∧ wpAny _ _ (joinParts (x' ++ m) _) _ _ { s1 with toks := tk + 1 }
  refine ⟨?_, joinParts_consE (joinParts_cons (FormattedValue_plain (thn (hb pins _ σ H1 _ I3 q1) fun v s2 ⟨y, H2, I4, r2, y', f2, hl, q2⟩ => ?_)))⟩
  · rw [Str.length_append]; exact hm
  refine fmt_ok I4 r2 f2 fun t tk I5 => ⟨?_, joinParts_nilE (joinParts_nil ⟨.str _, H2, I5.tok _, ⟨_, rfl⟩, q2⟩ ?_)⟩
  · rw [Str.length_append, Str.length_append]; exact hl
  · rw [Str.length_append, Str.length_append]; exact hl
noncomputable def Its (z : Str) : It := ⟨fun i _ => i < z.length, fun i H x H' => H' = H ∧ ∃ c, z.cps.toList[i]? = some c ∧ x = .str ⟨#[c]⟩, fun i _ => z.length ≤ i⟩
theorem turn_str {P : Program} {w : World} {K : PySem.W.Frag} {tg : Expr} (z : Str) (t : Tok) (it : Addr) : Turn P w K tg (Its z) [it] it (fun i h => h.IsStrIter it "str_ascii_iterator" z t i) where
  mem := by simp
  obj := fun i h st b hb => by
    have e : b = it := by simpa using hb
    subst e
    obtain ⟨o, e, c, d⟩ := st
    exact ⟨o, e, fun v z => by rw [d] at z; cases z⟩
  keep := fun i h h' st k => by
    obtain ⟨o, e, r⟩ := st
    exact ⟨o, k it (by simp) o e, r⟩
  item := by
    intro X hP hw hK hc i pins s σ H E I hf st hg
    subst hP hw hK
    obtain ⟨f0, f1, f2, f3, f4, f5⟩ := hf it (by simp)
    have hg' : i < z.cps.size := hg
    refine wpAny_pyNext_ascii_item st (c := z.cps[i]) (by simp [hg']) fun h' st' sb => ?_
    have I1 : Inv X pins σ H { s with heap := h', toks := s.toks + 1 } := I.turned (fun b o hb e => (sb.2 b hb).trans e) f0 f1 f3 f4 f5
    obtain ⟨o, e, c, d⟩ := id st'
    exact ⟨_, rfl, go_of (s := { s with heap := h', toks := s.toks + 1 }) e c d (by decide) ⟨.str ⟨#[z.cps[i]]⟩, H, I1, ⟨_, rfl⟩, ⟨rfl, _, by simp [hg'], rfl⟩, st', fun b hb => (hf b hb).1⟩⟩
  done := by
    intro X hP hw hK hc i pins s σ H E I hf st hg
    subst hP hw hK
    obtain ⟨f0, f1, f2, f3, f4, f5⟩ := hf it (by simp)
    have hg' : z.cps.size ≤ i := hg
    exact wpAny_pyNext_ascii_end (I.ok.hd hc) st (by simp [hg']) fun h' eb => ⟨rfl, I.turned (t' := s.toks) (fun b o hb e => eb b o hb e) f0 f1 f3 f4 f5⟩
  self := fun _ _ _ _ _ st h => wpAny_pyIter_striter_ascii st h
noncomputable def iStr (tl : TE) : TI := fun σ H R => tl σ H fun x H1 => ∃ z : Str, x = .str z ∧ z.cps.all (· < 128) = true ∧ R (Its z) H1
theorem pi_str {tg l : Expr} {tl : TE} (hl : PE X l tl) : PI X tg l (iStr tl) := by
  intro pins s σ H R I h
  refine thn (hl pins s σ H _ I h) fun v s1 ⟨x, H1, I1, r1, q1⟩ => ?_
  obtain ⟨z, rfl, ha, q⟩ := q1
  obtain ⟨t, rfl⟩ := r1
  refine wpAny_pyIter_ascii ha ?_
  refine ⟨s1.heap.objs.size, [s1.heap.objs.size], _, _, H1, rfl, I1.kept (t' := s1.toks) fun b o e => Heap.get?_push_of_some _ e, turn_str z t _, ⟨_, Heap.get?_push_size _ rfl, rfl, rfl⟩, fun b hb => ?_, q⟩
  have e : b = s1.heap.objs.size := by simpa using hb
  subst e
  exact I1.fpOk (Nat.le_refl _) (I1.hok.fresh (Nat.le_refl _))
theorem find_loop {α : Type} {M : Model} {A : Around} {E : Value → Shared → Prop} {s : Shared} {F : Nat → Option α × Unit → Sem (ForInStep (Option α × Unit))} {R : Option α × Unit → Shared → Prop} {j : Nat}
    (h1 : ∀ i (Q : ForInStep (Option α × Unit) → Shared → Prop), i < j → Q (.yield (none, ())) s → wpAny M A (F i (none, ())) Q E s) (h2 : wpAny M A (F j (none, ())) (fun r s' => ∃ a, r = .done (some a, ()) ∧ R (some a, ()) s') E s) :
    ∀ m a : Nat, a ≤ j → j < a + m → wpAny M A (forIn (List.range' a m) (none, ()) F) R E s := by
  intro m
  induction m with
  | zero => intro a h3 h4; omega
  | succ m ih =>
    intro a h3 h4
    rw [List.range'_succ, List.forIn_cons]
    by_cases e : a = j
    · subst e
      refine wpAny_bind (wpAny_mono h2 (fun r s' h => ?_) fun _ _ e => e)
      obtain ⟨a, rfl, h⟩ := h
      exact wpAny_pure h
    · exact wpAny_bind (h1 a _ (by omega) (ih (a + 1) (by omega) (by omega)))
noncomputable def rIndex (K : PySem.W.Frag) : V → List V → Hp → VK → Prop := fun x xs H Q => ∃ (p : Addr) (ys : List V) (y : V) (j : Nat), x = .ref p ∧ xs = [y] ∧ SqT K H p ys ∧ flatV y = true ∧ ys.all flatV = true ∧ j < ys.length ∧ (∀ i z, i < j → ys[i]? = some z → eqV z y = false) ∧ (∀ z, ys[j]? = some z → eqV z y = true) ∧ Q (.int j) H
theorem mt_index : MtR X "tuple.index" (rIndex X.K) := by
  intro pins s σ H x xs v us Q I rx rs q
  obtain ⟨p, ys, y, j, rfl, rfl, hp, fy, fa, hj, hn, hy, q⟩ := q
  cases rx
  obtain ⟨u, rfl, ru⟩ := vals1 rs
  obtain ⟨its, rv, pl, hz⟩ := I.tuple hp
  have hT : s.TypeIs (.ref p) "tuple" := by
    obtain ⟨o, ho, hc, _⟩ := pl
    exact ⟨o, ho, hc⟩
  refine wpAny_call_entry F.slot_tuple_index hT F.entry_tuple_index ?_ (F.args_tuple_index_2 _ _)
  unfold Builtin.«tuple.index»
  refine wpAny_bind (m := selfAndSome "tuple.index" "index" 1 3 _) (wpAny_pure ?_)
  refine wpAny_bind (tupleItemsOf_ pl ?_)
  refine wpAny_bind (wpAny_pure ?_)
  refine wpAny_bind (wpAny_pure ?_)
  refine wpAny_bind ?_
  rw [Std.Legacy.Range.forIn_eq_forIn_range']
  have hl := rv.length
  have esz : ([0:min its.toArray.size its.toArray.size] : Std.Legacy.Range).size = its.length := by
    simp [Std.Legacy.Range.size]
  rw [esz]
  have e0 : List.range' ([0:min its.toArray.size its.toArray.size] : Std.Legacy.Range).start its.length ([0:min its.toArray.size its.toArray.size] : Std.Legacy.Range).step = List.range' 0 its.length := rfl
  rw [e0]
  have at' : ∀ a, a < ys.length → ∃ z v, ys[a]? = some z ∧ its.toArray[a]? = some v ∧ RelV z v ∧ flatV z = true := fun a ha => by
    obtain ⟨z, hzz⟩ : ∃ z, ys[a]? = some z := ⟨ys[a], by simp [ha]⟩
    obtain ⟨v, hv, rz⟩ := rv.get hzz
    exact ⟨z, v, hzz, by simpa using hv, rz, List.all_eq_true.mp fa z (List.mem_of_getElem? hzz)⟩
  refine find_loop (j := j) (fun i R hi hR => ?_) ?_ _ 0 (Nat.zero_le _) (by omega)
  · obtain ⟨z, v, h1, h2, h3, h4⟩ := at' i (by omega)
    rw [h2]
    refine wpAny_bind (eqAt_V h3 ru h4 fy _ _ _ _ ?_)
    rw [hn i z hi h1, if_neg Bool.false_ne_true]
    exact wpAny_pure hR
  · obtain ⟨z, v, h1, h2, h3, h4⟩ := at' j hj
    rw [h2]
    refine wpAny_bind (eqAt_V h3 ru h4 fy _ _ _ _ ?_)
    rw [hy z h1, if_pos rfl]
    refine wpAny_bind (m := retInt (j : Int)) ?_
    unfold retInt
    refine wpAny_bind (wpAny_mkInt ?_)
    exact wpAny_pure (wpAny_pure ⟨_, rfl, wpAny_pure ⟨_, rfl, .int j, H, I.tok _, ⟨_, rfl⟩, q⟩⟩)
end
end L2

namespace L2
open PySem PySem.Spec PyProof.Rows
section
variable {prog : Program} {w : World} {A : Around} {E : Value → Shared → Prop} {s : Shared}
structure ZS (z TI TO i1 i2 : Addr) (w0 : Str) (t0 : Tok) (l2 : Addr) (k : Nat) (h : Heap) : Prop where
  zz : IsZip h z TI TO .none
  ti : IsPair h TI (.ref i1) (.ref i2)
  to : ∃ a b, IsPair h TO a b
  one : h.IsStrIter i1 "str_ascii_iterator" w0 t0 k
  two : h.IsTupleIter i2 l2 k
theorem strAs {h h' : Heap} {a : Addr} {T : String} {x : Str} {t : Tok} {k : Nat} (y : h.IsStrIter a T x t k) (f : ∀ o, h.get? a = some o → h'.get? a = some o) : h'.IsStrIter a T x t k := let ⟨o, ho, r⟩ := y; ⟨o, f o ho, r⟩
variable {z TI TO i1 i2 l2 : Addr} {w0 : Str} {t0 : Tok} {k : Nat} {ys : Array Value}
theorem zipS_item {c0 : Nat} {y : Value} {Q : Option Value → Shared → Prop} (D : ZipApart z TI TO i1 i2 l2 l2) (Z : ZS z TI TO i1 i2 w0 t0 l2 k s.heap) (t2 : s.heap.IsTuple l2 ys) (hx : w0.cps[k]? = some c0) (hy : ys[k]? = some y)
    (q : ∀ g, IsZip g z TI TO (rawInt s.heap.objs.size) → IsPair g TO (.str ⟨#[c0]⟩ s.toks) y → g.IsStrIter i1 "str_ascii_iterator" w0 t0 (k + 1) → g.IsTupleIter i2 l2 (k + 1) → IsPair g s.heap.objs.size (.str ⟨#[c0]⟩ s.toks) y →
      (∀ c o, c ∉ [z, TO, i1, i2] → s.heap.get? c = some o → g.get? c = some o) → Q (some (.ref s.heap.objs.size)) { s with heap := g, toks := s.toks + 1 }) : wpAny (model prog w) A (pyNext (.ref z)) Q E s := by
  obtain ⟨hz, hti, ⟨a, b, hto⟩, s1, s2⟩ := Z
  have T : s.TypeIs (.ref z) "zip" := ⟨_, hz, rfl⟩
  unfold pyNext
  refine wpAny_bind (wpAny_attempt (wpAny_callSpecial?_slot (name := Str.ofString "__next__") T F.slot_zip_next (wpAny_call_entry F.slot_zip_next T F.entry_zip_next ?_ (F.args_zip_next_1 _))))
  show wpAny _ _ (field (.ref z) 2 >>= _) _ _ _
  refine wpAny_bind (wpAny_field hz rfl (x := .bool false) rfl ?_)
  show wpAny _ _ (field (.ref z) 3 >>= _) _ _ _
  refine wpAny_bind (wpAny_field hz rfl (x := .ref TI) rfl (wpAny_bind (wpAny_seqItems hti rfl ?_)))
  show wpAny _ _ (Builtin.SmallTypes.ownedTupleIsFree (.ref z) >>= _) _ _ _
  refine wpAny_bind ?_
  unfold Builtin.SmallTypes.ownedTupleIsFree
  refine wpAny_bind (wpAny_field hz rfl (x := .none) rfl (wpAny_pure ?_))
  simp only [if_true]
  refine wpAny_bind (wpAny_rule (wpAny_bind (wpAny_field hz rfl (x := .ref TO) rfl (wpAny_bind (wpAny_setField_rec hz (by simp) fun g1 z1 b1 => ?_)))))
  replace z1 : IsZip g1 z TI TO .ellipsis := z1
  refine wpAny_bind ?_
  simp only [List.zipIdx_cons, List.zipIdx_nil, List.forIn_cons, List.forIn_nil]
  refine wpAny_bind (wpAny_bind (wpAny_onRaise ?_))
  show wpAny _ _ (Builtin.SmallTypes.nextOf (.ref i1) >>= _) _ _ _
  refine wpAny_bind (wpAny_nextOf_ascii_item (s1.extBut b1.extBut D.i1z) hx fun g2 n2 b2 => wpAny_pure ?_)
  have o2 : IsPair g2 TO a b := b2.extBut _ _ D.TOi1 (b1.extBut _ _ D.TOz hto)
  refine wpAny_bind (wpAny_seqItems o2 rfl (wpAny_bind (wpAny_updateSeq_pair o2 fun g3 o3 b3 => ?_)))
  replace o3 : IsPair g3 TO (.str ⟨#[c0]⟩ s.toks) b := o3
  refine wpAny_bind (wpAny_letGo (wpAny_pure (wpAny_bind (wpAny_bind (wpAny_onRaise ?_)))))
  show wpAny _ _ (Builtin.SmallTypes.nextOf (.ref i2) >>= _) _ _ _
  refine wpAny_bind (nextT (((s2.extBut b1.extBut D.i2z).extBut b2.extBut D.i12.symm).extBut b3.extBut D.TOi2.symm) (((t2.extBut b1.extBut D.l2z).extBut b2.extBut D.l2i1).extBut b3.extBut D.l2TO) hy fun g4 n4 b4 => wpAny_pure ?_)
  have o4 : IsPair g4 TO (.str ⟨#[c0]⟩ s.toks) b := b4.extBut _ _ D.TOi2 o3
  refine wpAny_bind (wpAny_seqItems o4 rfl (wpAny_bind (wpAny_updateSeq_pair o4 fun g5 o5 b5 => ?_)))
  replace o5 : IsPair g5 TO (.str ⟨#[c0]⟩ s.toks) y := o5
  refine wpAny_bind (wpAny_letGo (wpAny_pure (wpAny_pure (wpAny_bind (wpAny_seqItems o5 rfl (wpAny_bind (wpAny_newTuple ?_)))))))
  have sz : g5.objs.size = s.heap.objs.size := by rw [b5.1, b4.1, b3.1, b2.1, b1.1]
  have z5 : IsZip g5 z TI TO .ellipsis := b5.extBut _ _ D.TOz.symm (b4.extBut _ _ D.i2z.symm (b3.extBut _ _ D.TOz.symm (b2.extBut _ _ D.i1z.symm z1)))
  have k5 : ∀ c o, c ∉ [z, TO, i1, i2] → s.heap.get? c = some o → g5.get? c = some o := fun c o hc e => by
    simp only [List.mem_cons, not_or] at hc
    exact b5.extBut _ _ hc.2.1 (b4.extBut _ _ hc.2.2.2.1 (b3.extBut _ _ hc.2.1 (b2.extBut _ _ hc.2.2.1 (b1.extBut _ _ hc.1 e))))
  have n5 : g5.IsStrIter i1 "str_ascii_iterator" w0 t0 (k + 1) := ((n2.extBut b3.extBut D.TOi1.symm).extBut b4.extBut D.i12).extBut b5.extBut D.TOi1.symm
  have m5 : g5.IsTupleIter i2 l2 (k + 1) := n4.extBut b5.extBut D.TOi2.symm
  have zl : z < g5.objs.size := Heap.lt_size z5
  show wpAny _ _ (Builtin.SmallTypes.ownedTupleHandOut (.ref z) (.ref g5.objs.size) >>= _) _ _ _
  refine wpAny_bind ?_
  unfold Builtin.SmallTypes.ownedTupleHandOut
  have z6 : IsZip (g5.push { cls := .type "tuple", data := .seq #[.str ⟨#[c0]⟩ s.toks, y] }) z TI TO .ellipsis := Heap.get?_push_of_some _ z5
  refine wpAny_bind (wpAny_setField_rec z6 (by simp) fun g7 z7 b7 => ?_)
  replace z7 : IsZip g7 z TI TO (rawInt g5.objs.size) := z7
  refine wpAny_setField_rec z7 (by simp) fun g8 z8 b8 => ?_
  replace z8 : IsZip g8 z TI TO (rawInt g5.objs.size) := z8
  have up : ∀ c o, c ≠ z → g5.get? c = some o → g8.get? c = some o := fun c o cz e => b8.extBut _ _ cz (b7.extBut _ _ cz (Heap.get?_push_of_some _ e))
  have nu : IsPair g8 g5.objs.size (.str ⟨#[c0]⟩ s.toks) y := b8.extBut _ _ (Nat.ne_of_gt zl) (b7.extBut _ _ (Nat.ne_of_gt zl) (Heap.get?_push_size _ rfl))
  rw [sz] at z8 nu
  refine wpAny_pure ⟨_, rfl, wpAny_pure ?_⟩
  show Q (some (.ref g5.objs.size)) _
  rw [sz]
  exact q g8 z8 (up _ _ D.TOz o5) (strAs n5 fun o e => up _ o D.i1z e) (IsTupleIter.as m5 fun o e => up _ o D.i2z e) nu fun c o hc e => up c o (fun h => hc (by simp [h])) (k5 c o hc e)
theorem zipS_end {Q : Option Value → Shared → Prop} (hh : A.handled = none) (D : ZipApart z TI TO i1 i2 l2 l2) (Z : ZS z TI TO i1 i2 w0 t0 l2 k s.heap) (t2 : s.heap.IsTuple l2 ys) (he : w0.cps[k]? = none ∨ ys[k]? = none)
    (q : ∀ g tk, (∀ c o, c ∉ [z, TO, i1, i2] → s.heap.get? c = some o → g.get? c = some o) → Q none { s with heap := g, toks := tk }) : wpAny (model prog w) A (pyNext (.ref z)) Q E s := by
  obtain ⟨hz, hti, ⟨a, b, hto⟩, s1, s2⟩ := Z
  have T : s.TypeIs (.ref z) "zip" := ⟨_, hz, rfl⟩
  unfold pyNext
  refine wpAny_bind (wpAny_attempt (wpAny_callSpecial?_slot (name := Str.ofString "__next__") T F.slot_zip_next (wpAny_call_entry F.slot_zip_next T F.entry_zip_next ?_ (F.args_zip_next_1 _))))
  have fin : ∀ g (tk : Nat) (e : Addr), (∀ c o, c ∉ [z, TO, i1, i2] → s.heap.get? c = some o → g.get? c = some o) → (∃ o, g.get? e = some o ∧ o.cls = .type "StopIteration") →
      wpAny (model prog w) A (do if (← isInstance (.ref e) (.type "StopIteration")) then pure none else throw (.ref e)) Q E { s with heap := g, toks := tk } := fun g tk e hk ⟨o, ho, hc⟩ =>
    wpAny_bind (wpAny_isInstance (T := "StopIteration") (b := true) ⟨o, ho, hc⟩ isSubtype_stop (wpAny_pure (q _ tk hk)))
  show wpAny _ _ (field (.ref z) 2 >>= _) _ _ _
  refine wpAny_bind (wpAny_field hz rfl (x := .bool false) rfl ?_)
  show wpAny _ _ (field (.ref z) 3 >>= _) _ _ _
  refine wpAny_bind (wpAny_field hz rfl (x := .ref TI) rfl (wpAny_bind (wpAny_seqItems hti rfl ?_)))
  show wpAny _ _ (Builtin.SmallTypes.ownedTupleIsFree (.ref z) >>= _) _ _ _
  refine wpAny_bind ?_
  unfold Builtin.SmallTypes.ownedTupleIsFree
  refine wpAny_bind (wpAny_field hz rfl (x := .none) rfl (wpAny_pure ?_))
  simp only [if_true]
  refine wpAny_bind (wpAny_rule (wpAny_bind (wpAny_field hz rfl (x := .ref TO) rfl (wpAny_bind (wpAny_setField_rec hz (by simp) fun g1 z1 b1 => ?_)))))
  replace z1 : IsZip g1 z TI TO .ellipsis := z1
  refine wpAny_bind ?_
  simp only [List.zipIdx_cons, List.zipIdx_nil, List.forIn_cons, List.forIn_nil]
  refine wpAny_bind (wpAny_bind (wpAny_onRaise ?_))
  show wpAny _ _ (Builtin.SmallTypes.nextOf (.ref i1) >>= _) _ _ _
  cases hx : w0.cps[k]? with
  | none =>
    refine wpAny_bind (wpAny_nextOf_ascii_end hh (s1.extBut b1.extBut D.i1z) hx fun g2 e b2 ⟨oe, he, ce⟩ => ?_)
    have z2 : IsZip g2 z TI TO .ellipsis := b2 _ _ D.i1z.symm z1
    have ez : e ≠ z := fun h => by subst h; rw [z2] at he; cases he; simp at ce
    refine wpAny_setField_rec z2 (by simp) fun g3 _ b3 => fin g3 _ e (fun c o hc h => ?_) ⟨oe, b3.extBut _ _ ez he, ce⟩
    simp only [List.mem_cons, not_or] at hc
    exact b3.extBut _ _ hc.1 (b2 _ _ hc.2.2.1 (b1.extBut _ _ hc.1 h))
  | some x =>
    have hy : ys[k]? = none := he.resolve_left (by rw [hx]; simp)
    refine wpAny_bind (wpAny_nextOf_ascii_item (s1.extBut b1.extBut D.i1z) hx fun g2 n2 b2 => wpAny_pure ?_)
    have o2 : IsPair g2 TO a b := b2.extBut _ _ D.TOi1 (b1.extBut _ _ D.TOz hto)
    refine wpAny_bind (wpAny_seqItems o2 rfl (wpAny_bind (wpAny_updateSeq_pair o2 fun g3 o3 b3 => ?_)))
    refine wpAny_bind (wpAny_letGo (wpAny_pure (wpAny_bind (wpAny_bind (wpAny_onRaise ?_)))))
    show wpAny _ _ (Builtin.SmallTypes.nextOf (.ref i2) >>= _) _ _ _
    refine wpAny_bind (nextT_end hh (((s2.extBut b1.extBut D.i2z).extBut b2.extBut D.i12.symm).extBut b3.extBut D.TOi2.symm) (((t2.extBut b1.extBut D.l2z).extBut b2.extBut D.l2i1).extBut b3.extBut D.l2TO) hy fun g4 e b4 ⟨oe, he, ce⟩ => ?_)
    have z4 : IsZip g4 z TI TO .ellipsis := b4 _ _ D.i2z.symm (b3.extBut _ _ D.TOz.symm (b2.extBut _ _ D.i1z.symm z1))
    have ez : e ≠ z := fun h => by subst h; rw [z4] at he; cases he; simp at ce
    refine wpAny_setField_rec z4 (by simp) fun g5 _ b5 => fin g5 _ e (fun c o hc h => ?_) ⟨oe, b5.extBut _ _ ez he, ce⟩
    simp only [List.mem_cons, not_or] at hc
    exact b5.extBut _ _ hc.1 (b4 _ _ hc.2.2.2.1 (b3.extBut _ _ hc.2.1 (b2.extBut _ _ hc.2.2.1 (b1.extBut _ _ hc.1 h))))
theorem meets_zipS (x : Str) (t : Tok) (b : Addr) (ys : Array Value) (ha : x.cps.all (· < 128) = true) :
    Meets (Builtin.«zip.__new__» ⟨[.type "zip", .str x t, .ref b], []⟩) (fun _ R s => s.heap.IsTuple b ys ∧
      ∀ g, (∀ c o, s.heap.get? c = some o → g.get? c = some o) → ZS (s.heap.objs.size + 4) (s.heap.objs.size + 2) (s.heap.objs.size + 3) s.heap.objs.size (s.heap.objs.size + 1) x t b 0 g → R (.ok (.ret (.ref (s.heap.objs.size + 4)))) { s with heap := g }) :=
  .of_wp fun prog w A R s h => by
    obtain ⟨hp, gs, d, tk, os⟩ := s; obtain ⟨t2, h⟩ := h
    have hsub := sub_zip
    have T2 : Heap.IsTuple (Shared.heap ⟨hp.push { cls := .type "str_ascii_iterator", data := .fields #[.str x t, .int 0 0] }, gs, d, tk, os⟩) b ys := Heap.IsTuple.push t2 _
    wp_walk using wpAny_pyIter_ascii (x := x) (t := t) ha, wpAny_pyIter_tuple T2
    have e1 := fun o => Heap.size_push hp (o := o)
    refine ⟨_, rfl, ?_⟩
    simp only [Heap.size_push] at h ⊢
    refine h _ (fun c o e => Heap.get?_push_of_some _ (Heap.get?_push_of_some _ (Heap.get?_push_of_some _ (Heap.get?_push_of_some _ (Heap.get?_push_of_some _ e))))) ⟨?_, ?_, ?_, ?_, ?_⟩
    · have e := Heap.get?_push_size (((((hp.push { cls := .type "str_ascii_iterator", data := .fields #[.str x t, .int 0 0] }).push { cls := .type "tuple_iterator", data := .fields #[.ref b, .int 0 0] }).push { cls := .type "tuple", data := .seq #[.ref hp.objs.size, .ref (hp.objs.size + 1)] })).push { cls := .type "tuple", data := .seq #[.none, .none] }) (o := { cls := .type "zip", data := .fields #[.none, .bool false, .bool false, .ref (hp.objs.size + 2), .ref (hp.objs.size + 3)] }) rfl
      simp only [Heap.size_push] at e
      exact e
    · have e := Heap.get?_push_size ((hp.push { cls := .type "str_ascii_iterator", data := .fields #[.str x t, .int 0 0] }).push { cls := .type "tuple_iterator", data := .fields #[.ref b, .int 0 0] }) (o := { cls := .type "tuple", data := .seq #[.ref hp.objs.size, .ref (hp.objs.size + 1)] }) rfl
      simp only [Heap.size_push] at e
      exact Heap.get?_push_of_some _ (Heap.get?_push_of_some _ e)
    · have e := Heap.get?_push_size ((((hp.push { cls := .type "str_ascii_iterator", data := .fields #[.str x t, .int 0 0] }).push { cls := .type "tuple_iterator", data := .fields #[.ref b, .int 0 0] }).push { cls := .type "tuple", data := .seq #[.ref hp.objs.size, .ref (hp.objs.size + 1)] })) (o := { cls := .type "tuple", data := .seq #[.none, .none] }) rfl
      simp only [Heap.size_push] at e
      exact ⟨_, _, Heap.get?_push_of_some _ e⟩
    · have e := Heap.get?_push_size hp (o := { cls := .type "str_ascii_iterator", data := .fields #[.str x t, .int 0 0] }) rfl
      exact ⟨_, Heap.get?_push_of_some _ (Heap.get?_push_of_some _ (Heap.get?_push_of_some _ (Heap.get?_push_of_some _ e))), rfl, rfl⟩
    · have e := Heap.get?_push_size (hp.push { cls := .type "str_ascii_iterator", data := .fields #[.str x t, .int 0 0] }) (o := { cls := .type "tuple_iterator", data := .fields #[.ref b, .int 0 0] }) rfl
      simp only [Heap.size_push] at e
      exact ⟨_, Heap.get?_push_of_some _ (Heap.get?_push_of_some _ (Heap.get?_push_of_some _ e)), rfl, rfl⟩
theorem call_zipS {x : Str} {t : Tok} {b : Addr} {ys : Array Value} {Q : Value → Shared → Prop} (ha : x.cps.all (· < 128) = true) (t2 : s.heap.IsTuple b ys)
    (q : ∀ g, (∀ c o, s.heap.get? c = some o → g.get? c = some o) → ZS (s.heap.objs.size + 4) (s.heap.objs.size + 2) (s.heap.objs.size + 3) s.heap.objs.size (s.heap.objs.size + 1) x t b 0 g → Q (.ref (s.heap.objs.size + 4)) { s with heap := g }) :
    wpAny (model prog w) A (call (.type "zip") [.str x t, .ref b]) Q E s :=
  callType_new F.called_zip (by decide) (F.typeCall_zip_2 _ _) (F.newCall_zip_2 _ _) (fun obj => F.args_object_init_3 obj _ _) F.entry_zip_new (meets_zipS x t b ys ha) ⟨t2, fun g k Z => ⟨⟨_, Z.zz, rfl⟩, q g k Z⟩⟩
end
noncomputable def Itzs (K : PySem.W.Frag) (w0 : Str) (b : Addr) : It :=
  ⟨fun i H => ∃ ys c y, SqT K H b ys ∧ w0.cps[i]? = some c ∧ ys[i]? = some y,
   fun i H v H' => ∃ p c y, H p = none ∧ v = .ref p ∧ H' = upd H p (.tup [.str ⟨#[c]⟩, y]) ∧ w0.cps[i]? = some c ∧ (∀ ys, SqT K H b ys → ys[i]? = some y),
   fun i H => ∃ ys, SqT K H b ys ∧ (w0.length ≤ i ∨ ys.length ≤ i)⟩
theorem turn_zipS {P : Program} {w : World} {K : PySem.W.Frag} {es : List Expr} {x1} {pos : Pos} (w0 : Str) (t0 : Tok) (l2 : Addr) {z TI TO i1 i2 : Addr} (F : Five z TI TO i1 i2) : Turn P w K (.Tuple es x1 pos) (Itzs K w0 l2) [z, TI, TO, i1, i2] z (fun i h => ZS z TI TO i1 i2 w0 t0 l2 i h) where
  mem := by simp
  obj := fun i h Z b hb => by
    simp only [List.mem_cons, List.not_mem_nil, or_false] at hb
    obtain ⟨hz, hti, ⟨a, c, hto⟩, ⟨o1, g1, c1, d1⟩, ⟨o2, g2, c2, d2⟩⟩ := Z
    rcases hb with rfl | rfl | rfl | rfl | rfl
    · exact ⟨_, hz, fun v q => by cases (show Data.fields _ = Data.cell v from q)⟩
    · exact ⟨_, hti, fun v q => by cases (show Data.seq _ _ = Data.cell v from q)⟩
    · exact ⟨_, hto, fun v q => by cases (show Data.seq _ _ = Data.cell v from q)⟩
    · exact ⟨_, g1, fun v q => by rw [d1] at q; cases q⟩
    · exact ⟨_, g2, fun v q => by rw [d2] at q; cases q⟩
  keep := fun i h h' Z k => by
    obtain ⟨hz, hti, ⟨a, c, hto⟩, s1, s2⟩ := Z
    exact ⟨k z (by simp) _ hz, k TI (by simp) _ hti, ⟨a, c, k TO (by simp) _ hto⟩, strAs s1 fun o e => k i1 (by simp) o e, IsTupleIter.as s2 fun o e => k i2 (by simp) o e⟩
  item := by
    intro X hP hw hK hc i pins s σ H E I hf Z hg
    subst hP hw hK
    obtain ⟨ys, c0, y, q2, hx, hy⟩ := hg
    obtain ⟨its2, r2, p2, _⟩ := I.tuple q2
    obtain ⟨u2, hu2, ru2⟩ := r2.get hy
    have D := F.of (fun b hb => FpOk.apart I (hf b hb) q2) (fun b hb => FpOk.apart I (hf b hb) q2)
    refine zipS_item D Z (show s.heap.IsTuple l2 its2.toArray from p2) (y := u2) hx (by simpa using hu2) fun g z1 to1 n1 n2 nu kk => ⟨_, rfl, ?_⟩
    refine wpAny_letOwnedTupleGo_zip z1 fun g2 z2 sb => ?_
    have fr : H s.heap.objs.size = none := I.hok.fresh (Nat.le_refl _)
    have fp : ∀ b ∈ [z, TI, TO, i1, i2], FpOk X pins (upd H s.heap.objs.size (.tup [.str ⟨#[c0]⟩, y])) b := fun b hb => by
      have lt : b ≠ s.heap.objs.size := by
        simp only [List.mem_cons, List.not_mem_nil, or_false] at hb
        obtain ⟨hz, hti, ⟨a, c, hto⟩, ⟨o1, g1, _⟩, ⟨o2, g2, _⟩⟩ := Z
        rcases hb with rfl | rfl | rfl | rfl | rfl
        · exact Nat.ne_of_lt (Heap.lt_size hz)
        · exact Nat.ne_of_lt (Heap.lt_size hti)
        · exact Nat.ne_of_lt (Heap.lt_size hto)
        · exact Nat.ne_of_lt (Heap.lt_size g1)
        · exact Nat.ne_of_lt (Heap.lt_size g2)
      exact ⟨by rw [upd_ne lt]; exact (hf b hb).1, (hf b hb).2⟩
    have I1 : Inv X pins σ (upd H s.heap.objs.size (.tup [.str ⟨#[c0]⟩, y])) { s with heap := s.heap.push { cls := .type "tuple", data := .seq #[.str ⟨#[c0]⟩ s.toks, u2] }, toks := s.toks + 1 } := I.laid (t' := s.toks + 1) (fun b u e => Heap.get?_push_of_some _ e) (Nat.le_refl _) ⟨by simp [sizeLine], [.str ⟨#[c0]⟩ s.toks, u2], .cons ⟨_, rfl⟩ (.cons ru2 .nil), ⟨_, Heap.get?_push_size _ rfl, rfl, _, rfl⟩⟩
    have up : ∀ c o, c ≠ z → g.get? c = some o → g2.get? c = some o := fun c o cz e => sb.extBut _ _ cz e
    have zs : z ≠ s.heap.objs.size := Nat.ne_of_lt (Heap.lt_size Z.zz)
    have I2 : Inv X pins σ (upd H s.heap.objs.size (.tup [.str ⟨#[c0]⟩, y])) { s with heap := g2, toks := s.toks + 1 } := by
      refine Inv.turnedL (s := { s with heap := s.heap.push { cls := .type "tuple", data := .seq #[.str ⟨#[c0]⟩ s.toks, u2] }, toks := s.toks + 1 }) (h' := g2) (t' := s.toks + 1) I1 fp fun b o hb e => ?_
      have bz : b ≠ z := fun h => hb (by simp [h])
      rcases Heap.get?_push_cases e with ⟨e1, e2⟩ | e1
      · rw [e1, e2]
        exact up _ _ (Ne.symm zs) nu
      · exact up _ _ bz (kk b o (fun h => hb (by simp only [List.mem_cons, List.not_mem_nil, or_false] at h ⊢; rcases h with h | h | h | h <;> simp [h])) e1)
    exact ⟨.ref s.heap.objs.size, _, I2, rfl, ⟨_, c0, y, fr, rfl, rfl, hx, fun ys' h => by rw [I.tuple_inj h q2]; exact hy⟩, ⟨z2, up _ _ D.TIz (kk _ _ (by simp [D.TIz, D.TITO, D.TIi1, D.TIi2]) Z.ti), ⟨_, _, up _ _ D.TOz to1⟩, strAs n1 fun o e => up _ o D.i1z e, IsTupleIter.as n2 fun o e => up _ o D.i2z e⟩, fun b hb => (fp b hb).1⟩
  done := by
    intro X hP hw hK hc i pins s σ H E I hf Z hg
    subst hP hw hK
    obtain ⟨ys, q2, he⟩ := hg
    obtain ⟨its2, r2, p2, _⟩ := I.tuple q2
    have D := F.of (fun b hb => FpOk.apart I (hf b hb) q2) (fun b hb => FpOk.apart I (hf b hb) q2)
    have e2 := r2.length
    refine zipS_end (I.ok.hd hc) D Z (show s.heap.IsTuple l2 its2.toArray from p2) ?_ fun g tk kk => ⟨rfl, Inv.turnedL (t' := tk) I hf fun b o hb e => kk b o (fun h => hb (by simp only [List.mem_cons, List.not_mem_nil, or_false] at h ⊢; rcases h with h | h | h | h <;> simp [h])) e⟩
    rcases he with h | h
    · exact .inl (by have h : w0.cps.size ≤ i := h; simp [h])
    · exact .inr (by simp; omega)
  self := fun _ _ _ _ _ Z h => wpAny_pyIter_zip Z.zz h
section
variable {X : Cx}
noncomputable def iZipS (K : PySem.W.Frag) (ta : TA) : TI := fun σ H R => ta σ H fun vs H1 => ∃ x b, vs = [.str x, .ref b] ∧ x.cps.all (· < 128) = true ∧ (∃ ys, SqT K H1 b ys) ∧ R (Itzs K x b) H1
theorem pi_zipS {es : List Expr} {x1} {tp : Pos} {a b : Expr} {ta : TA} {p pos : Pos} (hg : Gl X "zip") (hm : X.mg "zip" = none) (ha : PA X [a, b] ta) (hs : starEach [a, b] X.env = [(false, eval a X.env), (false, eval b X.env)] := by rfl) (hs2 : starEach [b] X.env = [(false, eval b X.env)] := by rfl) :
    PI X (.Tuple es x1 tp) (.Call (.Name "zip" p) [a, b] [] pos) (iZipS X.K ta) := by
  intro pins s σ H R I h
  refine Call_ (ld_blt I hg hm boot_zip (PyProof.Rows.callWith_type1 (thn (ha pos pins s σ H _ I h) fun us s1 ⟨vs, H1, I1, r1, q1⟩ => ?_) (by rw [hs, hs2]) (by rw [hs2]; rfl)))
  obtain ⟨x0, l2, e, ha0, ⟨ys, q2⟩, q⟩ := q1
  subst e
  cases r1 with
  | cons r rr =>
    cases rr with
    | cons r' rr =>
      cases rr
      obtain ⟨t0, rfl⟩ := r
      cases r'
      obtain ⟨its2, _, p2, _⟩ := I1.tuple q2
      refine call_zipS ha0 (show s1.heap.IsTuple l2 its2.toArray from p2) fun g k Z => wpAny_pyIter_zip Z.zz ?_
      refine ⟨_, _, _, _, H1, rfl, I1.kept (t' := s1.toks) k, turn_zipS x0 t0 l2 ⟨by simp⟩, Z, fun b hb => ?_, q⟩
      have hb' : s1.heap.objs.size ≤ b := by
        simp only [List.mem_cons, List.not_mem_nil, or_false] at hb
        rcases hb with rfl | rfl | rfl | rfl | rfl <;> first | exact Nat.le_add_right _ _ | exact Nat.le_refl _
      exact I1.fpOk hb' (I1.hok.fresh hb')
end
theorem for_zipS {K : PySem.W.Frag} {w0 : Str} {b : Addr} {ys : List V} {g : TG} {tb : TS} {D : Ends} {σ : St} {H : Hp} (Pv : Nat → St → Hp → Prop) (le : ys.length ≤ w0.length) (h0 : Pv 0 σ H) (hl : ∀ i σ H, i ≤ ys.length → Pv i σ H → SqT K H b ys)
    (hs : ∀ i c y p σ H, w0.cps[i]? = some c → ys[i]? = some y → H p = none → Pv i σ H → g (.ref p) σ (upd H p (.tup [.str ⟨#[c]⟩, y])) fun σ2 H2 => tb { D with nx := Pv (i + 1), ct := Pv (i + 1), bk := D.nx } σ2 H2) (hd : ∀ σ H, Pv ys.length σ H → D.nx σ H) :
    ∃ W : Nat → Nat → St → Hp → Prop, (∃ m, W 0 m σ H) ∧ ∀ i m σ H, W i m σ H →
      ((Itzs K w0 b).stop i H ∧ D.nx σ H) ∨ ((Itzs K w0 b).go i H ∧ ∃ N : St → Hp → Prop, (∀ σ' H', N σ' H' → ∃ m', m' < m ∧ W (i + 1) m' σ' H') ∧ ∀ x H', (Itzs K w0 b).yld i H x H' → g x σ H' fun σ2 H2 => tb { D with nx := N, ct := N, bk := D.nx } σ2 H2) := by
  refine ⟨fun i m σ H => m = ys.length - i ∧ i ≤ ys.length ∧ Pv i σ H, ⟨ys.length, by simp, Nat.zero_le _, h0⟩, ?_⟩
  rintro i m σ H ⟨rfl, hi, p⟩
  have q2 := hl i σ H hi p
  by_cases hlt : i < ys.length
  · have hw : i < w0.cps.size := Nat.lt_of_lt_of_le hlt le
    refine .inr ⟨⟨ys, w0.cps[i], ys[i], q2, by simp [hw], by simp [hlt]⟩, Pv (i + 1), fun σ' H' p' => ⟨ys.length - (i + 1), by omega, rfl, hlt, p'⟩, fun v H' y => ?_⟩
    obtain ⟨r, x, y, hr, rfl, rfl, hx, hy⟩ := y
    exact hs i x y r σ H hx (hy ys q2) hr p
  · have ei : i = ys.length := by omega
    subst ei
    exact .inl ⟨⟨ys, q2, .inr (Nat.le_refl _)⟩, hd σ H p⟩
theorem for_zipL {K : PySem.W.Frag} {a b : Addr} {xs ys : List V} {g : TG} {tb : TS} {D : Ends} {σ : St} {H : Hp} (Pv : Nat → St → Hp → Prop) (le : ys.length ≤ xs.length) (h0 : Pv 0 σ H) (hl : ∀ i σ H, i ≤ ys.length → Pv i σ H → SqT K H a xs ∧ SqT K H b ys)
    (hs : ∀ i x y p σ H, xs[i]? = some x → ys[i]? = some y → H p = none → Pv i σ H → g (.ref p) σ (upd H p (.tup [x, y])) fun σ2 H2 => tb { D with nx := Pv (i + 1), ct := Pv (i + 1), bk := D.nx } σ2 H2) (hd : ∀ σ H, Pv ys.length σ H → D.nx σ H) :
    ∃ W : Nat → Nat → St → Hp → Prop, (∃ m, W 0 m σ H) ∧ ∀ i m σ H, W i m σ H →
      ((Itz K a b).stop i H ∧ D.nx σ H) ∨ ((Itz K a b).go i H ∧ ∃ N : St → Hp → Prop, (∀ σ' H', N σ' H' → ∃ m', m' < m ∧ W (i + 1) m' σ' H') ∧ ∀ x H', (Itz K a b).yld i H x H' → g x σ H' fun σ2 H2 => tb { D with nx := N, ct := N, bk := D.nx } σ2 H2) := by
  refine ⟨fun i m σ H => m = ys.length - i ∧ i ≤ ys.length ∧ Pv i σ H, ⟨ys.length, by simp, Nat.zero_le _, h0⟩, ?_⟩
  rintro i m σ H ⟨rfl, hi, p⟩
  obtain ⟨q1, q2⟩ := hl i σ H hi p
  by_cases hlt : i < ys.length
  · have hw : i < xs.length := Nat.lt_of_lt_of_le hlt le
    refine .inr ⟨⟨xs, ys, xs[i], ys[i], q1, q2, by simp [hw], by simp [hlt]⟩, Pv (i + 1), fun σ' H' p' => ⟨ys.length - (i + 1), by omega, rfl, hlt, p'⟩, fun v H' y => ?_⟩
    obtain ⟨r, x, y, hr, rfl, rfl, hx, hy⟩ := y
    exact hs i x y r σ H (hx xs q1) (hy ys q2) hr p
  · have ei : i = ys.length := by omega
    subst ei
    exact .inl ⟨⟨xs, ys, q1, q2, .inr (Nat.le_refl _)⟩, hd σ H p⟩
end L2

namespace LwD
open PySem PySem.Spec PyProof.Rows L2 Lw PySem.W
section
variable {prog : Program} {w : World} {A : Around} {E : Value → Shared → Prop} {s : Shared} {h₀ : Heap} {L : Addr} {m : Str → Option Value} {news : List (Addr × Obj)}
theorem sortedR_of {T : String} {r d : Addr} {n : Nat} {P : Nat → Value → Prop} {OK : Heap → Prop} {Q : Value → Shared → Prop} (K : KdlSrc prog w T r d n P OK) (hh : A.handled = none) (F : Fr h₀ L s.heap m) (N : News h₀ L s.heap news) (hok : OK s.heap) (hn : n ≤ sizeLine)
    (h : ∀ (D : Addr) (h' : Heap) (tk : Nat) (vs : List Value), Fr h₀ L h' m → News h₀ L h' ((D, listOf vs.toArray 0) :: news) → (∀ q ∈ news, q.1 < D) → vs.length = n → (∀ (j : Nat) (v : Value), vs[j]? = some v → P j v) →
      wpAny (model prog w) A.in1 (call (.builtin "list.sort") [.ref D] [(Str.ofString "reverse", .bool true)]) (fun _ s' => Q (.ref D) s') E { s with heap := h', toks := tk }) :
    wpAny (model prog w) A (call (.builtin "sorted") [.ref r] [(Str.ofString "reverse", .bool true)]) Q E s := by
  refine call_function_entry_kw kind_sorted plain_sorted entry_sorted (args_sorted_rev _ _) ?_
  unfold Builtin.«sorted»
  refine wpAny_bind (m := checkCount "sorted" 1 1 _) (wpAny_pure ?_)
  refine wpAny_bind (kdu_collect (A := A.in1) K hh hok hn fun h' tk acc hk hacc => ?_)
  have hl : acc.toList.length = n := by rw [Array.length_toList]; exact hacc.1
  refine wpAny_bind (wpAny_newList ?_ (by rw [hl]; exact hn))
  have hg := h h'.objs.size (h'.push { cls := .type "list", data := .seq acc.toList.toArray }) tk acc.toList ((F.keeps hk).push _) (News.push (F.keeps hk) (fun p hp => ⟨hk _ _ (N p hp).1, (N p hp).2⟩) _ rfl)
    (fun q hq => Heap.lt_size (hk _ _ (N q hq).1)) hl (fun j v e => hacc.2 j v (by rw [← Array.getElem?_toList]; exact e))
  refine wpAny_bind (wpAny_holding (wpAny_mono hg (fun _ s' x => ?_) fun _ _ e => e))
  exact wpAny_pure ⟨_, rfl, x⟩
theorem sortR_small {a : Addr} {vs : List Value} {n : Nat} {Q : Value → Shared → Prop} (ho : s.heap.get? a = some (seqObj "list" vs.toArray n)) (h2 : vs.length < 2) (q : Q .none { s with heap := sortedHeap s.heap a vs vs.toArray }) : wpAny (model prog w) A (call (.builtin "list.sort") [.ref a] [(Str.ofString "reverse", .bool true)]) Q E s := by
  refine wpAny_call_entry_kw slot_list_sort ⟨_, ho, rfl⟩ entry_list_sort ?_ (args_list_sort_rev _ _)
  rw [list_sort_rev]
  have ha : a < s.heap.objs.size := Heap.lt_size ho
  obtain ⟨e1, ho1⟩ : ∃ e1, (s.heap.update a (Obj.mapSeq fun _ => #[])).get? a = some (seqObj "list" #[] e1) := ⟨_, get?_update_seq ho (fun _ => #[])⟩
  have ho6 : (((s.heap.update a (Obj.mapSeq fun _ => #[])).push (seqObj "tuple" vs.toArray 0)).push (seqObj "list" #[] 0)).get? a = some (seqObj "list" #[] e1) := Heap.get?_push_of_some _ (Heap.get?_push_of_some _ ho1)
  have hz : vs.toArray.size < 2 := by simpa using h2
  refine wpAny_bind (listItems_at ho rfl (wpAny_bind (listUpdate_at ho rfl (wpAny_bind (seqEpoch_at ho1 rfl (wpAny_bind (wpAny_newTuple (wpAny_bind (wpAny_newList (wpAny_holding ?_))))))))))
  show wpAny (model prog w) _ _ _ E { s with heap := ((s.heap.update a (Obj.mapSeq fun _ => #[])).push (seqObj "tuple" vs.toArray 0)).push (seqObj "list" #[] 0) }
  dsimp only
  rw [if_pos rfl]
  refine wpAny_bind (wpAny_rule ?_)
  rw [if_pos hz, if_pos hz]
  refine wpAny_bind (wpAny_pure ?_)
  rw [StateT.run_pure]
  refine wpAny_bind (wpAny_pure ?_)
  dsimp only
  have hm : ((arrOf (SortSt.mk' general' (if true = true then (vs.toArray.zip vs.toArray).reverse else vs.toArray.zip vs.toArray) #[] 7 none)).map (·.2)).reverse = vs.toArray := by
    show (((vs.toArray.zip vs.toArray).reverse).map (·.2)).reverse = vs.toArray
    apply Array.ext'
    simp [List.map_snd_zip]
  refine wpAny_bind (seqEpoch_at ho6 rfl (wpAny_bind (listUpdate_at ho6 rfl ?_ (hsz2 := by rw [if_pos rfl, hm, sizeLine_eq]; omega))))
  rw [if_pos rfl, hm]
  simp only [bne_self_eq_false, Bool.false_eq_true, if_false]
  exact wpAny_pure ⟨_, rfl, q⟩
theorem sortR_big {D : Addr} {vs : List Value} {n : Nat} {g : Obj → List (Addr × Obj)} {Q : Value → Shared → Prop} (F : Fr h₀ L s.heap m) (N : News h₀ L s.heap news) (U : UpdF D (listOf vs.toArray n) news g) (h2 : 2 ≤ vs.length) (h64 : vs.length < 64)
    (h : ∀ e1 h', Fr h₀ L h' m → News h₀ L h' (g (seqObj "list" #[] e1)) →
      wpAny (model prog w) A.in1 (keyKind' vs.toArray) (fun κ s' => (kas_sort vs.length).kasWp (kas_ask prog w A.in1 κ vs.reverse) (fun p s'' => KasFin h₀ L m D e1 (p.toList.map fun i => vs.reverse.getD i Value.none).reverse (fun s3 => Q .none s3) s'') s') (fun _ _ => False) { s with heap := h' }) :
    wpAny (model prog w) A (call (.builtin "list.sort") [.ref D] [(Str.ofString "reverse", .bool true)]) Q E s := by
  obtain ⟨pre, post, e0, hg, x1, x2⟩ := U.split
  rw [e0] at N
  have nz := N (D, listOf vs.toArray n) (List.mem_append_right _ (.head _))
  have ho : s.heap.get? D = some (seqObj "list" vs.toArray n) := nz.1
  have N₀ : News h₀ L s.heap (pre ++ post) := fun p hp => N p ((List.mem_append.mp hp).elim (fun q => List.mem_append_left _ q) fun q => List.mem_append_right _ (.tail _ q))
  have back : ∀ {h' : Heap} {o : Obj}, News h₀ L h' ((D, o) :: (pre ++ post)) → News h₀ L h' (g o) := fun {h' o} N' => by
    rw [hg]
    intro p hp
    rcases List.mem_append.mp hp with hp | hp
    · exact N' p (.tail _ (List.mem_append_left _ hp))
    · rcases List.mem_cons.mp hp with rfl | hp
      · exact N' _ (.head _)
      · exact N' p (.tail _ (List.mem_append_right _ hp))
  refine wpAny_call_entry_kw slot_list_sort ⟨_, nz.1, rfl⟩ entry_list_sort ?_ (args_list_sort_rev _ _)
  have ha : D < s.heap.objs.size := Heap.lt_size ho
  have haL := nz.2.1
  have ha0 := nz.2.2
  have hna : ∀ p ∈ pre ++ post, p.1 ≠ D := fun p hp => (List.mem_append.mp hp).elim (x1 p) (x2 p)
  have s1 := Heap.SameBut.update s.heap D (Obj.mapSeq fun _ => (#[] : Array Value))
  obtain ⟨e1, ho1⟩ : ∃ e1, (s.heap.update D (Obj.mapSeq fun _ => (#[] : Array Value))).get? D = some (seqObj "list" #[] e1) := ⟨_, get?_update_seq ho fun _ => #[]⟩
  have F3 : Fr h₀ L (((s.heap.update D (Obj.mapSeq fun _ => (#[] : Array Value))).push (seqObj "tuple" vs.toArray 0)).push (seqObj "list" #[] 0)) m := ((kas_fr F s1 haL ha0).push _).push _
  have N2 : News h₀ L (((s.heap.update D (Obj.mapSeq fun _ => (#[] : Array Value))).push (seqObj "tuple" vs.toArray 0)).push (seqObj "list" #[] 0)) (pre ++ post) :=
    (kas_news N₀ s1 hna).grown fun b x e => Heap.get?_push_of_some _ (Heap.get?_push_of_some _ e)
  have N3 : News h₀ L (((s.heap.update D (Obj.mapSeq fun _ => (#[] : Array Value))).push (seqObj "tuple" vs.toArray 0)).push (seqObj "list" #[] 0)) ((D, seqObj "list" #[] e1) :: (pre ++ post)) := fun p hp => by
    rcases List.mem_cons.mp hp with rfl | hp
    · exact ⟨Heap.get?_push_of_some _ (Heap.get?_push_of_some _ ho1), haL, ha0⟩
    · exact N2 p hp
  have ask := h e1 _ F3 (back N3)
  rw [list_sort_rev]
  refine wpAny_bind (listItems_at ho rfl ?_)
  refine wpAny_bind (listUpdate_at ho rfl ?_ (by rw [List.size_toArray, sizeLine_eq]; omega) (Nat.zero_le _))
  refine wpAny_bind (seqEpoch_at ho1 rfl ?_)
  refine wpAny_bind (wpAny_newTuple ?_ (by show vs.length ≤ _; rw [sizeLine_eq]; omega))
  refine wpAny_bind (wpAny_newList ?_ (Nat.zero_le _))
  refine wpAny_holding ?_
  show wpAny (model prog w) _ _ _ E { s with heap := ((s.heap.update D (Obj.mapSeq fun _ => (#[] : Array Value))).push (seqObj "tuple" vs.toArray 0)).push (seqObj "list" #[] 0) }
  dsimp only
  rw [if_pos rfl]
  refine wpAny_bind (wpAny_rule ?_)
  have hn2 : ¬ vs.toArray.size < 2 := by rw [List.size_toArray]; omega
  rw [if_neg hn2, if_neg hn2]
  refine wpAny_bind (wpAny_mono ask (fun κ s0 hk => ?_) fun _ _ x => x.elim)
  have ep : (if true = true then (vs.toArray.zip vs.toArray).reverse else vs.toArray.zip vs.toArray) = vs.reverse.toArray.zip vs.reverse.toArray := kat_pairs true rfl
  rw [ep]
  have rl : vs.reverse.length = vs.length := List.length_reverse
  refine wpAny_bind (wpAny_mono (kat_run (ks := vs.reverse) (vs := vs.reverse) (Q := fun st' s' => ∃ p : Array Nat, p.size = vs.reverse.length ∧ arrOf st' = p.map (kas_item (vs.reverse.toArray.zip vs.reverse.toArray)) ∧ failedOf st' = none ∧ KasFin h₀ L m D e1 (p.toList.map fun i => vs.reverse.getD i Value.none).reverse (fun s'' => Q .none s'') s')
    rfl (by omega) (by omega) (fun p' st' s' a1 a2 a3 a4 => ⟨p', a1, a2, a3, a4⟩) (by rw [rl]; exact hk)) ?_ fun _ _ e => e)
  rintro ⟨⟨⟩, st'⟩ s' ⟨p, hp, har, hf, news', g', F', N', U', k⟩
  dsimp only
  obtain ⟨pre', post', e0', hg', y1, y2⟩ := U'.split
  rw [e0'] at N'
  have na := N' (D, seqObj "list" #[] e1) (List.mem_append_right _ (.head _))
  have hout := kat_snds rfl har
  have ho2 : (if true = true then ((arrOf st').map (·.2)).reverse else (arrOf st').map (·.2)) = List.toArray (p.toList.map fun i => vs.reverse.getD i Value.none).reverse := by
    rw [hout]
    exact kat_outs true _
  have hsz : (List.toArray (p.toList.map fun i => vs.reverse.getD i Value.none).reverse).size = vs.length := by rw [List.size_toArray, List.length_reverse, List.length_map, Array.length_toList, hp, rl]
  rw [ho2]
  have s2 := Heap.SameBut.update s'.heap D (Obj.mapSeq fun _ => List.toArray (p.toList.map fun i => vs.reverse.getD i Value.none).reverse)
  obtain ⟨c2, hc2⟩ : ∃ c2, (s'.heap.update D (Obj.mapSeq fun _ => List.toArray (p.toList.map fun i => vs.reverse.getD i Value.none).reverse)).get? D = some (seqObj "list" (List.toArray (p.toList.map fun i => vs.reverse.getD i Value.none).reverse) c2) := ⟨_, get?_update_seq na.1 fun _ => List.toArray (p.toList.map fun i => vs.reverse.getD i Value.none).reverse⟩
  refine wpAny_bind (seqEpoch_at na.1 rfl ?_)
  refine wpAny_bind (listUpdate_at na.1 rfl ?_ (Nat.zero_le _) (Nat.le_trans (Nat.le_of_eq hsz) (by rw [sizeLine_eq]; omega)))
  rw [hf]
  simp only [bne_self_eq_false, Bool.false_eq_true, if_false]
  refine wpAny_pure ⟨_, rfl, k _ c2 (kas_fr F' s2 na.2.1 na.2.2) ?_⟩
  rw [hg']
  exact news_set N' y1 y2 s2 hc2
end
section
variable {X : Cx}
noncomputable def rSortF : V → Hp → VK → Prop := fun x H Q => ∃ (a : Addr) (kvs : List (List Key × V)), x = .ref a ∧ Rd H a (.dT kvs) ∧ kvs.length < 64 ∧ (∀ p ∈ kvs, ∃ ns : List Int, p.1 = ik ns ∧ ns ≠ []) ∧
  ∀ (ys : List V) (zs : List (List Key × V)), zs.Perm kvs → Keyed H ys zs → zs.Pairwise (fun p q => lexI (kInts q.1) (kInts p.1) = true) → New H (.lst ys) Q
theorem call_sortF {pins : List (Addr × Obj)} {s : Shared} {σ : L2.St} {H : Hp} {x : V} {u : Value} {Q : VK} (hc : X.calm = true) (I : Inv X pins σ H s) (ru : RelV x u) (h : rSortF x H Q) : wpAny (model X.prog X.w) X.A (call (.builtin "sorted") [u] [(Str.ofString "reverse", .bool true)]) (EP X pins σ Q) X.xe s := by
  obtain ⟨a, kvs, rfl, ha, h64, hk, q⟩ := h
  cases ru
  obtain ⟨z, lo, ks, rel, dd⟩ := dt_rd I.hok ha
  obtain ⟨o, es, ep, hd1, hd2, hd3, he, his, hn⟩ := id dd
  have raw : Raw s.heap a es ep := ⟨o, hd1, hd2, hd3⟩
  have esz : es.size = kvs.length := by rw [size_of_entries he, ← Paired.length rel]
  obtain ⟨m, F⟩ := I.fr
  have kn : (kvs.map (·.1)).Nodup := by rw [KTkeys rel]; exact hn
  have itup : ∀ (j : Nat) (h : j < es.size), ∃ (b : Addr) (ns : List Int) (v : V), es[j].key = .ref b ∧ H b = some (.tup (ns.map V.int)) ∧ kvs[j]? = some (ik ns, v) ∧ ns ≠ [] := fun j hj => by
    have e1 := entry_at he j
    rw [Array.getElem?_eq_getElem hj] at e1
    cases e2 : ks[j]? with
    | none => rw [e2] at e1; cases e1
    | some x =>
      rw [e2] at e1
      have e3 : es[j] = entryOfKey _ x := Option.some.inj e1
      obtain ⟨v, m1, m2⟩ := KTgetI rel e2
      obtain ⟨ns, n1, n2⟩ := hk _ (List.mem_of_getElem? m1)
      dsimp only at n1
      rw [n1] at m1 m2
      rw [ik_map] at m2
      exact ⟨x.2.1, ns, v, by rw [e3]; rfl, m2, m1, n2⟩
  refine sortedR_of (raw_src lo) (I.ok.hd hc) F news_all raw (by rw [esz]; exact z) fun D h' tk v0 F' N' lt hlen hP => ?_
  obtain ⟨vs, hvs⟩ : ∃ vs, vs = v0.reverse := ⟨_, rfl⟩
  obtain ⟨kr, hkr⟩ : ∃ kr, kr = kvs.reverse := ⟨_, rfl⟩
  have krl : kr.length = kvs.length := by rw [hkr, List.length_reverse]
  have v0l : v0.length = kvs.length := by rw [hlen, esz]
  have vtup : ∀ (j : Nat) (hj : j < vs.length), ∃ (b : Addr) (ns : List Int) (v : V), vs[j] = .ref b ∧ H b = some (.tup (ns.map V.int)) ∧ kr[j]? = some (ik ns, v) ∧ ns ≠ [] := fun j hj => by
    subst hvs hkr
    rw [List.length_reverse] at hj
    have hj2 : v0.length - 1 - j < v0.length := by omega
    obtain ⟨h1, h2⟩ := hP (v0.length - 1 - j) v0[v0.length - 1 - j] (by simp [hj2])
    obtain ⟨b, ns, v, g1, g2, g3, g4⟩ := itup _ h1
    refine ⟨b, ns, v, ?_, g2, ?_, g4⟩
    · rw [List.getElem_reverse, h2]; exact g1
    · rw [List.getElem?_reverse (by omega), ← v0l]; exact g3
  have krn : (kr.map (·.1)).Nodup := by rw [hkr, List.map_reverse]; exact List.pairwise_reverse.mpr (kn.imp fun h => h.symm)
  have vl : vs.length = kr.length := by rw [hvs, List.length_reverse, v0l, krl]
  have kvI : ∀ (j : Nat) (ns : List Int) (v : V), kr[j]? = some (ik ns, v) → kInts (kr.getD j ([], .non)).1 = ns := fun j ns v e => by rw [List.getD_eq_getElem?_getD, e]; exact kInts_ik ns
  have O : Strict (fun i j => lexI (kInts (kr.getD i ([], .non)).1) (kInts (kr.getD j ([], .non)).1)) vs.length := by
    refine ⟨fun a b c => lexI_tr _ _ _, fun a b => lexI_as _ _, fun a b ha hb hab hf => ?_⟩
    obtain ⟨_, ns, v, _, _, e3, _⟩ := vtup a ha
    obtain ⟨_, ms, v', _, _, e3', _⟩ := vtup b hb
    rw [kvI _ _ _ e3, kvI _ _ _ e3'] at hf
    show lexI (kInts (kr.getD b ([], .non)).1) (kInts (kr.getD a ([], .non)).1) = true
    rw [kvI _ _ _ e3, kvI _ _ _ e3']
    refine lexI_tot _ _ (fun z => hab ?_) hf
    have i1 : (kr.map (·.1))[a]? = some (ik ns) := by rw [List.getElem?_map, e3]; rfl
    have i2 : (kr.map (·.1))[b]? = some (ik ns) := by rw [List.getElem?_map, e3', z]; rfl
    exact (List.getElem?_inj (by rw [List.length_map]; omega) krn).mp (i1.trans i2.symm)
  -- the values in another order
  have fin : ∀ (idx : List Nat) (h3 : Heap) (c tk3 : Nat), idx.Perm (List.range kr.length) → idx.Pairwise (fun i j => lexI (kInts (kr.getD j ([], .non)).1) (kInts (kr.getD i ([], .non)).1) = true) → Fr X.base X.env.locals h3 m → News X.base X.env.locals h3 ((D, PySem.W.listOf (idx.map fun i => vs.getD i Value.none).toArray c) :: allNews X.base s.heap X.env.locals) →
      EP X pins σ Q (.ref D) { s with heap := h3, toks := tk3 } := fun idx h3 c tk3 pm pw F3 N3 => by
    have il : idx.length = kr.length := by rw [pm.length_eq, List.length_range]
    have im : ∀ i ∈ idx, i < kr.length := fun i hi => List.mem_range.mp (pm.mem_iff.mp hi)
    have tr : ∀ js : List Nat, (∀ i ∈ js, i < kr.length) → ∃ ys : List V, Vals ys (js.map fun i => vs.getD i Value.none) ∧ Keyed H ys (js.map fun i => kr.getD i ([], .non)) := by
      intro js
      induction js with
      | nil => exact fun _ => ⟨[], .nil, rfl, fun i y p e => by simp at e⟩
      | cons j js ih =>
        intro hj
        obtain ⟨ys, r1, r2, r3⟩ := ih fun i hi => hj i (List.mem_cons_of_mem _ hi)
        have hj1 := hj j (List.mem_cons_self ..)
        obtain ⟨b, ns, x, e1, e2, e3, _⟩ := vtup j (by rw [vl]; exact hj1)
        refine ⟨.ref b :: ys, ?_, by simp [r2], fun i y p ey ep => ?_⟩
        · rw [List.map_cons]
          refine .cons ?_ r1
          rw [List.getD_eq_getElem?_getD, List.getElem?_eq_getElem (by rw [vl]; exact hj1), e1]
          rfl
        · cases i with
          | zero =>
            simp only [List.map_cons, List.getElem?_cons_zero, Option.some.injEq] at ey ep
            rw [List.getD_eq_getElem?_getD, e3] at ep
            subst ey
            subst ep
            exact ⟨b, ns, rfl, e2, rfl⟩
          | succ i =>
            simp only [List.map_cons, List.getElem?_cons_succ] at ey ep
            exact r3 i y p ey ep
    obtain ⟨ys, rv, hy⟩ := tr idx im
    have yl : ys.length = kr.length := by rw [hy.1, List.length_map]; exact il
    have nb := new_by_news (ho := .lst ys) (tk := tk3) I F F3 N3 lt fun e => ⟨by rw [yl, krl]; exact z, _, c, rv, e⟩
    have pz : (idx.map fun i => kr.getD i ([], .non)).Perm kvs := by
      have := pm.map fun i => kr.getD i ([], V.non)
      rw [getD_range] at this
      exact this.trans (by rw [hkr]; exact List.reverse_perm _)
    exact ⟨.ref D, _, nb.2, rfl, (q ys _ pz hy (List.pairwise_map.mpr pw)).at nb.1⟩
  have nD := N' (D, PySem.W.listOf v0.toArray 0) (List.mem_cons_self ..)
  have v0s : vs.length = v0.length := by rw [hvs, List.length_reverse]
  by_cases h2 : vs.length < 2
  · have e0 : vs = v0 := by
      rw [hvs]
      match v0, v0s ▸ h2 with
      | [], _ => rfl
      | [_], _ => rfl
    refine sortR_small (n := 0) nD.1 (by omega) ?_
    obtain ⟨c, hat⟩ := sortedHeap_at (vs := v0) (n := 0) (out := v0.toArray) nD.1
    have old : ∀ b u, b ≠ D → h'.get? b = some u → (sortedHeap h' D v0 v0.toArray).get? b = some u := fun b u hb e => by
      rw [sortedHeap_old hb (Heap.lt_size e)]
      exact e
    have er : (List.range kr.length).map (fun i => vs.getD i Value.none) = v0 := by rw [← vl, ← e0]; exact getD_range vs _
    refine fin (List.range kr.length) _ c tk (List.Perm.refl _) (by
      rw [← vl]
      have : vs.length = 0 ∨ vs.length = 1 := by omega
      rcases this with z | z <;> rw [z] <;> simp) ⟨?_, fun b u e => old b u (fun y => by rw [y, nD.2.2] at e; cases e) (F'.keep b u e), F'.above⟩ (fun p hp => ?_)
    · obtain ⟨ob, es', ep', e1, e2⟩ := F'.ns
      exact ⟨ob, es', ep', old _ _ (Ne.symm nD.2.1) e1, e2⟩
    · rw [er] at hp
      rcases List.mem_cons.mp hp with rfl | hp
      · exact ⟨hat, nD.2⟩
      · have y := N' p (List.mem_cons_of_mem _ hp)
        exact ⟨old _ _ (Nat.ne_of_lt (lt p hp)) y.1, y.2⟩
  · have hd : ∀ q ∈ allNews X.base s.heap X.env.locals, q.1 ≠ D := fun q hq => Nat.ne_of_lt (lt q hq)
    refine sortR_big (vs := v0) F' N' (.head hd) (by omega) (by omega) fun e1 h4 F4 N4 => ?_
    rw [← hvs, ← v0s]
    have in4 : ∀ b xs, H b = some (.tup xs) → ∃ its : List Value, Vals xs its ∧ IsTup h4 b its.toArray := fun b xs e => by
      obtain ⟨_, its, rv, ob, ho, hc2⟩ := (show ObjOk X.prog X.w H s.heap b (.tup xs) from I.hok b _ e)
      refine ⟨its, rv, ob, ?_, hc2⟩
      cases y : X.base.get? b with
      | some u =>
        have y2 := I.bk b u y
        rw [ho] at y2
        cases y2
        exact F4.keep b _ y
      | none => exact (N4 (b, ob) (List.mem_cons_of_mem _ (mem_allNews (fun y2 => by rw [y2, I.free] at e; cases e) y ho))).1
    have tups : ∀ l : List Value, (∀ v ∈ l, v ∈ vs) → ∃ fs : List Value, PySem.W.KatTups h4 l fs ∧ fs.length = l.length ∧ ∀ f ∈ fs, ∃ n t, f = Value.int n t := by
      intro l
      induction l with
      | nil => exact fun _ => ⟨[], .nil, rfl, fun _ y => nomatch y⟩
      | cons v r ih =>
        intro hm
        obtain ⟨fs, t1, t2, t3⟩ := ih fun v' hv' => hm v' (List.mem_cons_of_mem _ hv')
        obtain ⟨j, hj, ev⟩ := List.getElem_of_mem (hm v (List.mem_cons_self ..))
        obtain ⟨b, ns, x, g1, g2, g3, g4⟩ := vtup j hj
        obtain ⟨its, rv, ob, ho, hc2, nn, hdt⟩ := in4 b _ g2
        match ns, g4, rv with
        | n :: nr, _, .cons (b := iv) (l₂ := ir) rr rt =>
          obtain ⟨tt, rfl⟩ := rr
          rw [← ev, g1]
          exact ⟨.int n tt :: fs, .cons ho hc2 hdt (by simp) t1, by simp [t2], fun f hf => (List.mem_cons.mp hf).elim (fun y => ⟨n, tt, y⟩) (t3 f)⟩
    obtain ⟨fs, t1, t2, t3⟩ := tups v0 fun v y => by rw [hvs]; exact List.mem_reverse.mpr y
    refine PySem.W.kat_kind (T := .type "int") t1 (by omega) (fun f hf => ?_) (by decide) ?_
    · obtain ⟨n, t, rfl⟩ := t3 f hf
      exact PySem.W.Looks.of_pure rfl
    · refine wp_tru (n := vs.length) (P := fun q => Pm vs.length q ∧ Up (fun i j => lexI (kInts (kr.getD i ([], .non)).1) (kInts (kr.getD j ([], .non)).1)) q vs.length) (fun i j C hi hj hC => ?_) (fun p hp => ?_) (tru_sort O (by omega))
      · obtain ⟨b, ns, x, g1, g2, g3, _⟩ := vtup i hi
        obtain ⟨b', ns', x', g1', g2', g3', _⟩ := vtup j hj
        obtain ⟨its, rv, ob, ho, hc2, nn, hdt⟩ := in4 b _ g2
        obtain ⟨its', rv', ob', ho', hc2', nn', hdt'⟩ := in4 b' _ g2'
        unfold PySem.W.kas_ask
        rw [show vs.getD i Value.none = .ref b by rw [List.getD_eq_getElem?_getD, List.getElem?_eq_getElem hi, g1]; rfl, show vs.getD j Value.none = .ref b' by rw [List.getD_eq_getElem?_getD, List.getElem?_eq_getElem hj, g1']; rfl]
        rw [kvI _ _ _ g3, kvI _ _ _ g3'] at hC
        have i1 := intsAre_of rv
        have i2 := intsAre_of rv'
        refine PySem.W.kat_lt ho hdt ho' hdt' (lex_true i1 i2 ?_ 0)
        rw [List.size_toArray, List.size_toArray, ints_len i1, ints_len i2, lexG_is]
        exact hC
      · refine PySem.W.KasFin.intro F4 N4 (.head hd) fun h5 c F5 N5 => fin p.toList.reverse h5 c tk ?_ ?_ F5 (by rw [List.map_reverse]; exact N5)
        · rw [← vl]
          exact (List.reverse_perm _).trans hp.1
        · have sz := hp.1.size
          refine List.pairwise_reverse.mpr (List.pairwise_iff_getElem.mpr fun a b ha hb hab => ?_)
          have ha' : a < p.size := by simpa using ha
          have hb' : b < p.size := by simpa using hb
          have := hp.2 a b hab (by omega)
          simpa [Array.getD, ha', hb'] using this
end
section
variable {X : Cx} {e e2 : Expr} {kpos p pos : Pos} {t : TA}
noncomputable def tSortF (t : TA) : TE := fun σ H Q => t σ H fun vs H1 => ∃ x, vs = [x] ∧ rSortF x H1 Q
theorem pe_sortF {k : Bool} {j kp} (hk1 : k = true) (hc : X.calm = true) (hg : Gl X "sorted") (hm : X.mg "sorted" = none) (ha : PA X [e] t) (hk : PK X [⟨some "reverse", .Constant (.bool k) j kp, kpos⟩] (tCons (tC (.bl k)) tNil))
    (hall : (backToKw pos (keywordEach [⟨some "reverse", .Constant (.bool k) j kp, kpos⟩] X.env)).all (·.1.isSome) = true := by rfl) (hks : (backToKw pos (keywordEach [⟨some "reverse", .Constant (.bool k) j kp, kpos⟩] X.env)).filterMap (·.1) = [Str.ofString "reverse"] := by rfl)
    (he : starEach [e] X.env = [(false, eval e X.env)] := by rfl)
    (hpl : ((backTo pos (starEach [e] X.env)).any (·.1) || (backToKw pos (keywordEach [⟨some "reverse", .Constant (.bool k) j kp, kpos⟩] X.env)).any (·.1.isNone)) = false := by rfl) :
    PE X (.Call (.Name "sorted" p) [e] [⟨some "reverse", .Constant (.bool k) j kp, kpos⟩] pos) (tSortF t) := by
  intro pins s σ H Q I h
  refine wpAny_Call_Name_kw (ld_blt I hg hm boot_sorted ?_ (by decide) (by decide))
  refine PySem.W.callWith_of (P := fun _ => True) hpl (fun _ _ => ⟨_, .inr (.inl rfl), PySem.W.Looks.of_pure rfl⟩) (evalArgs_kw2 hall (thn (ha pos pins s σ H _ I h) fun us s1 ⟨vs, H1, I1, r, q⟩ => ?_) he)
  obtain ⟨x, rfl, q⟩ := q
  refine thn (hk pos pins s1 σ H1 (fun vs H2 => vs = [.bl k] ∧ H2 = H1) I1 ⟨rfl, rfl⟩) fun ws s2 ⟨zs, H2, I2, rz, hzs, hH⟩ => ⟨True.intro, ?_⟩
  rw [hks]
  subst hzs hH hk1
  obtain ⟨u, rfl, ru⟩ := vals1 r
  obtain ⟨u', rfl, ru'⟩ := vals1 rz
  cases ru'
  exact call_sortF hc I2 ru q
end
end LwD

namespace LwS
open PySem PySem.Builtin.Str
structure Mark (sep : Str) (k c : Nat) : Prop where
  one : sep.cps.toList[k]? = some c
  only : ∀ j, j < k → sep.cps.toList[j]? ≠ some c
  kind : strKind sep = 1
theorem len_toList (x : Str) : x.cps.toList.length = x.length := by simp [Str.length]
theorem at_of {x y : Str} {i k c : Nat} (h : StrLaws.At x y x.length i) (hk : y.cps.toList[k]? = some c) : x.cps.toList[i + k]? = some c := by
  have h2 := h.2
  rw [StrLaws.subAt_eq] at h2
  have e : (x.cps.toList.drop i).take y.length = y.cps.toList := eq_of_beq h2
  rw [← e] at hk
  have hl : k < y.length := by
    have := (List.getElem?_eq_some_iff.mp hk).1
    rw [List.length_take] at this
    omega
  rw [List.getElem?_take_of_lt hl, List.getElem?_drop] at hk
  exact hk
theorem join_cons2 (y a b : Str) (r : List Str) : Str.join y (a :: b :: r) = a ++ y ++ Str.join y (b :: r) := rfl
theorem cps_app (a b : Str) : (a ++ b).cps.toList = a.cps.toList ++ b.cps.toList := by rw [Str.cps_append, Array.toList_append]
theorem parts_of {x y : Str} {k c : Nat} (M : Mark y k c) : ∀ (ps : List Str) (p : Str) (cuts : List Nat) (a f : Nat), (∀ q ∈ p :: ps, c ∉ q.cps.toList) → x.cps.toList.drop a = (Str.join y (p :: ps)).cps.toList → a ≤ x.length →
    StrLaws.ChainG x y x.length a cuts f → (∀ i, f ≤ i → ¬ StrLaws.At x y x.length i) → StrLaws.partsFrom x y.length a cuts = p :: ps
  | [], p, cuts, a, f, hf, hx, ha, hG, hn => by
    have no : ∀ i, a ≤ i → ¬ StrLaws.At x y x.length i := fun i hi hA => by
      have h1 := at_of hA M.one
      have h2 : (x.cps.toList.drop a)[i - a + k]? = some c := by rw [List.getElem?_drop, show a + (i - a + k) = i + k by omega]; exact h1
      rw [hx] at h2
      exact hf p (by simp) (List.mem_of_getElem? h2)
    cases cuts with
    | cons d r => exact absurd hG.2.1 (no d hG.1)
    | nil =>
      show [strSub x a x.length] = [p]
      congr 1
      apply Str.ext'
      apply Array.toList_inj.mp
      rw [StrLaws.strSub_toList, hx]
      exact List.take_of_length_le (by rw [← hx, List.length_drop, len_toList]; exact Nat.le_refl _)
  | q :: ps, p, cuts, a, f, hf, hx, ha, hG, hn => by
    rw [join_cons2, cps_app, cps_app, List.append_assoc] at hx
    have lx : x.length - a = p.length + (y.length + (Str.join y (q :: ps)).length) := by
      have := congrArg List.length hx
      simp only [List.length_drop, List.length_append, len_toList] at this
      exact this
    have ky : k < y.length := by
      have := (List.getElem?_eq_some_iff.mp M.one).1
      rwa [len_toList] at this
    have hA : StrLaws.At x y x.length (a + p.length) := by
      refine ⟨by omega, ?_⟩
      rw [StrLaws.subAt_eq, ← List.drop_drop, hx, ← len_toList p, List.drop_left, ← len_toList y, List.take_left]
      exact beq_self_eq_true _
    have no : ∀ i, a ≤ i → i < a + p.length → ¬ StrLaws.At x y x.length i := fun i h1 h2 hB => by
      have h3 := at_of hB M.one
      have h4 : (x.cps.toList.drop a)[i - a + k]? = some c := by rw [List.getElem?_drop, show a + (i - a + k) = i + k by omega]; exact h3
      rw [hx] at h4
      by_cases hk : i - a + k < p.length
      · rw [List.getElem?_append_left (by rw [len_toList]; exact hk)] at h4
        exact hf p (by simp) (List.mem_of_getElem? h4)
      · rw [List.getElem?_append_right (by rw [len_toList]; omega), len_toList, List.getElem?_append_left (by rw [len_toList]; omega)] at h4
        exact M.only _ (by omega) h4
    cases cuts with
    | nil =>
      have e : f = a := hG
      exact absurd hA (hn _ (by omega))
    | cons d r =>
      obtain ⟨g1, g2, g3, g4⟩ := hG
      have ed : d = a + p.length := by
        have h1 : ¬ d < a + p.length := fun h => no d g1 h g2
        have h2 : ¬ a + p.length < d := fun h => g3 _ (by omega) h hA
        omega
      subst ed
      show strSub x a (a + p.length) :: StrLaws.partsFrom x y.length (a + p.length + y.length) r = _
      congr 1
      · apply Str.ext'
        apply Array.toList_inj.mp
        rw [StrLaws.strSub_toList, hx, show a + p.length - a = p.cps.toList.length by rw [len_toList]; omega, List.take_left]
      · refine parts_of M ps q r _ f (fun z hz => hf z (List.mem_cons_of_mem _ hz)) ?_ (by omega) g4 hn
        rw [Nat.add_assoc, ← List.drop_drop, hx, ← List.drop_drop, ← len_toList p, List.drop_left, ← len_toList y, List.drop_left]
theorem kind_pos (x : Str) : 1 ≤ strKind x := by
  unfold Builtin.Str.strKind
  split
  · exact Nat.le_refl _
  · split <;> decide
theorem split_join {y : Str} {k c : Nat} (M : Mark y k c) {p : Str} {ps : List Str} (hf : ∀ q ∈ p :: ps, c ∉ q.cps.toList) : Txt.split (Str.join y (p :: ps)) y = p :: ps := by
  have ky : k < y.length := by
    have := (List.getElem?_eq_some_iff.mp M.one).1
    rwa [len_toList] at this
  obtain ⟨f, hG, hn⟩ := StrLaws.occ_tight (Str.join y (p :: ps)) y (by omega)
  have key := parts_of (x := Str.join y (p :: ps)) M ps p _ 0 f hf (by rw [List.drop_zero]) (Nat.zero_le _) hG hn
  unfold Txt.split
  split
  · rename_i h
    have hk : decide (strKind (Str.join y (p :: ps)) < strKind y) = false := by
      rw [M.kind]
      exact decide_eq_false (by have := kind_pos (Str.join y (p :: ps)); omega)
    rw [hk, Bool.or_false, decide_eq_true_eq] at h
    cases ps with
    | nil => rfl
    | cons q r =>
      rw [join_cons2, Str.length_append, Str.length_append] at h
      omega
  · split
    · rename_i h
      rw [List.isEmpty_iff.mp h] at key
      have k2 : [strSub (Str.join y (p :: ps)) 0 (Str.join y (p :: ps)).length] = p :: ps := key
      rw [StrLaws.sub_whole] at k2
      exact k2
    · rw [StrLaws.partsBetween_eq]
      exact key
theorem part_no {x : Str} {c : Nat} (h : c ∉ x.cps.toList) : Txt.partition x ⟨#[c]⟩ = (x, Str.empty, Str.empty) := by
  unfold Txt.partition
  rcases StrLaws.occ_head x ⟨#[c]⟩ 1 (Nat.le_refl _) with ⟨h0, _⟩ | ⟨i, r, _, hA, _⟩
  · rw [h0]
  · exact absurd (List.mem_of_getElem? (at_of (k := 0) (c := c) hA rfl)) h
theorem part_at {p q : Str} {c : Nat} (h : c ∉ p.cps.toList) : Txt.partition (p ++ ⟨#[c]⟩ ++ q) ⟨#[c]⟩ = (p, ⟨#[c]⟩, q) := by
  have hx : (p ++ (⟨#[c]⟩ : Str) ++ q).cps.toList = p.cps.toList ++ c :: q.cps.toList := by rw [cps_app, cps_app, List.append_assoc]; rfl
  have hl : (p ++ (⟨#[c]⟩ : Str) ++ q).length = p.length + 1 + q.length := by rw [Str.length_append, Str.length_append]; rfl
  have hA : StrLaws.At (p ++ (⟨#[c]⟩ : Str) ++ q) ⟨#[c]⟩ (p ++ (⟨#[c]⟩ : Str) ++ q).length p.length := by
    refine ⟨by rw [hl]; show p.length + 1 ≤ _; omega, ?_⟩
    rw [StrLaws.subAt_eq, hx, ← len_toList p, List.drop_left]
    show ([c] == [c]) = true
    exact beq_self_eq_true _
  have no : ∀ i, i < p.length → ¬ StrLaws.At (p ++ (⟨#[c]⟩ : Str) ++ q) ⟨#[c]⟩ (p ++ (⟨#[c]⟩ : Str) ++ q).length i := fun i hi hB => by
    have h1 := at_of (k := 0) (c := c) hB rfl
    rw [hx, Nat.add_zero, List.getElem?_append_left (by rw [len_toList]; exact hi)] at h1
    exact h (List.mem_of_getElem? h1)
  unfold Txt.partition
  rcases StrLaws.occ_head (p ++ (⟨#[c]⟩ : Str) ++ q) ⟨#[c]⟩ 1 (Nat.le_refl _) with ⟨_, h0⟩ | ⟨i, r, e, hB, hn⟩
  · exact absurd hA (h0 _)
  · have ei : i = p.length := by
      have h1 : ¬ i < p.length := fun z => no i z hB
      have h2 : ¬ p.length < i := fun z => hn _ z hA
      omega
    rw [e, ei]
    have e1 : strSub (p ++ (⟨#[c]⟩ : Str) ++ q) 0 p.length = p := by
      apply Str.ext'
      apply Array.toList_inj.mp
      rw [StrLaws.strSub_toList, hx, List.drop_zero, Nat.sub_zero, ← len_toList p, List.take_left]
    have e2 : strSub (p ++ (⟨#[c]⟩ : Str) ++ q) (p.length + (⟨#[c]⟩ : Str).length) (p ++ (⟨#[c]⟩ : Str) ++ q).length = q := by
      apply Str.ext'
      apply Array.toList_inj.mp
      rw [StrLaws.strSub_toList, hx, hl]
      show List.take (p.length + 1 + q.length - (p.length + 1)) (List.drop (p.length + 1) _) = _
      rw [← List.drop_drop, ← len_toList p, List.drop_left, List.drop_one, List.tail_cons]
      exact List.take_of_length_le (by rw [len_toList]; omega)
    show (strSub _ 0 p.length, (⟨#[c]⟩ : Str), strSub _ (p.length + _) _) = _
    rw [e1, e2]
end LwS

namespace LwS
open PySem PySem.Builtin.Str LwI
noncomputable def itx (i : Int) : Str := Str.ofString (toString i)
noncomputable def dg (n : Nat) : List Nat := (Nat.toDigits 10 n).map Char.toNat
theorem itx_nat (n : Nat) : (itx (n : Int)).cps.toList = dg n := by
  unfold itx
  rw [Str.ofString_eq_toList]
  show ((toString (n : Int)).toList.map Char.toNat) = _
  rw [show (toString (n : Int)) = String.ofList (Nat.toDigits 10 n) from rfl, String.toList_ofList]
  rfl
theorem itx_neg (n : Nat) (h : 0 < n) : (itx (-(n : Int))).cps.toList = 45 :: dg n := by
  obtain ⟨m, rfl⟩ : ∃ m, n = m + 1 := ⟨n - 1, by omega⟩
  unfold itx
  rw [Str.ofString_eq_toList]
  show ((toString (Int.negSucc m)).toList.map Char.toNat) = _
  rw [show (toString (Int.negSucc m)) = "-" ++ String.ofList (Nat.toDigits 10 (m + 1)) from rfl, String.toList_append, List.map_append]
  show [45] ++ _ = _
  rw [String.toList_ofList]
  rfl
theorem dg_dig (n : Nat) : Dig (dg n) := fun c hc => by
  obtain ⟨ch, h1, rfl⟩ := List.mem_map.mp hc
  have := Nat.isDigit_of_mem_toDigits (by decide) (by decide) h1
  simp only [Char.isDigit, Bool.and_eq_true, decide_eq_true_eq] at this
  exact ⟨UInt32.le_iff_toNat_le.mp this.1, UInt32.le_iff_toNat_le.mp this.2⟩
theorem dg_ne (n : Nat) : dg n ≠ [] := fun h => Nat.toDigits_ne_nil (List.map_eq_nil_iff.mp h)
theorem dg_val (n : Nat) : valD (dg n) = n := by
  have h := Nat.ofDigitChars_ten_toDigits (n := n)
  unfold Nat.ofDigitChars at h
  unfold valD dg
  rw [List.foldl_map]
  rw [← h]
  conv => lhs; rw [h]
  refine congrFun (congrFun (congrArg _ ?_) _) _
  funext a c
  rw [Nat.mul_comm]
  rfl
theorem dg_len {n k : Nat} (hk : 0 < k) (h : n < 10 ^ k) : (dg n).length ≤ k := by
  unfold dg
  rw [List.length_map]
  exact (Nat.length_toDigits_le_iff (by decide) hk).mpr h
theorem itx_cases (i : Int) : (0 ≤ i ∧ (itx i).cps.toList = dg i.natAbs) ∨ (i < 0 ∧ (itx i).cps.toList = 45 :: dg i.natAbs) := by
  by_cases h : 0 ≤ i
  · obtain ⟨n, rfl⟩ := Int.eq_ofNat_of_zero_le h
    exact .inl ⟨h, by rw [itx_nat]; rfl⟩
  · have e : i = -(i.natAbs : Int) := by omega
    refine .inr ⟨by omega, ?_⟩
    conv => lhs; rw [e]
    exact itx_neg _ (by omega)
theorem itx_nml {i : Int} (h : i.natAbs < 10 ^ 600) : Nml (itx i).cps.toList i := by
  refine ⟨dg i.natAbs, dg_dig _, dg_ne _, dg_len (by decide) h, ?_⟩
  rw [dg_val]
  rcases itx_cases i with ⟨h1, h2⟩ | ⟨h1, h2⟩
  · exact .inl ⟨h2, by omega⟩
  · exact .inr ⟨h2, by omega⟩
theorem itx_chars {i : Int} {c : Nat} (hc : c ∈ (itx i).cps.toList) : c = 45 ∨ (48 ≤ c ∧ c ≤ 57) := by
  rcases itx_cases i with ⟨_, h⟩ | ⟨_, h⟩
  · rw [h] at hc
    exact .inr (dg_dig _ c hc)
  · rw [h] at hc
    rcases List.mem_cons.mp hc with rfl | hc
    · exact .inl rfl
    · exact .inr (dg_dig _ c hc)
theorem itx_len {i : Int} {k : Nat} (hk : 0 < k) (h : i.natAbs < 10 ^ k) : (itx i).length ≤ k + 1 := by
  rw [← len_toList]
  have := dg_len hk h
  rcases itx_cases i with ⟨_, h⟩ | ⟨_, h⟩ <;> rw [h]
  · omega
  · rw [List.length_cons]; omega
noncomputable def ntx (t b : Int) : Str := if b = 1 then itx t else itx t ++ ⟨#[47]⟩ ++ itx b
noncomputable def wl : Nat → List Int → List (Nat × Int)
  | _, [] => []
  | j, p :: r => (if 1 ≤ p then [(j, p)] else []) ++ wl (j + 1) r
noncomputable def ltr (j : Nat) : Str := ⟨#[97 + j]⟩
noncomputable def wtx (q : Nat × Int) : Str := if q.2 = 1 then ltr q.1 else ltr q.1 ++ ⟨#[94]⟩ ++ itx q.2
structure Trm where
  ns : List Int
  t : Int
  b : Int
noncomputable def ttx (x : Trm) : Str := Str.join ⟨#[32]⟩ (ntx x.t x.b :: (wl 0 x.ns).map wtx)
noncomputable def stx (ts : List Trm) : Str := match ts with
  | [] => ⟨#[48]⟩
  | x :: r => Str.join ⟨#[32, 43, 32]⟩ ((x :: r).reverse.map ttx)
theorem wl_snoc (p : Int) : ∀ (a : List Int) (j : Nat), wl j (a ++ [p]) = wl j a ++ (if 1 ≤ p then [(j + a.length, p)] else [])
  | [], j => by simp [wl]
  | q :: r, j => by
    show _ ++ wl (j + 1) (r ++ [p]) = (_ ++ wl (j + 1) r) ++ _
    rw [wl_snoc p r (j + 1), List.append_assoc, List.length_cons, show j + 1 + r.length = j + (r.length + 1) by omega]
theorem wl_mem : ∀ {ns : List Int} {j : Nat} {q : Nat × Int}, q ∈ wl j ns → j ≤ q.1 ∧ q.1 < j + ns.length ∧ 1 ≤ q.2 ∧ q.2 ∈ ns
  | [], _, _, h => nomatch h
  | p :: r, j, q, h => by
    rcases List.mem_append.mp h with h | h
    · by_cases hp : 1 ≤ p
      · rw [if_pos hp, List.mem_singleton] at h
        subst h
        exact ⟨Nat.le_refl _, by simp, hp, List.mem_cons_self ..⟩
      · rw [if_neg hp] at h; cases h
    · obtain ⟨h1, h2, h3, h4⟩ := wl_mem h
      exact ⟨by omega, by rw [List.length_cons]; omega, h3, List.mem_cons_of_mem _ h4⟩
theorem wl_zeros (k : Nat) : ∀ (ns : List Int) (j : Nat), wl j (ns ++ List.replicate k 0) = wl j ns
  | [], j => by
    induction k generalizing j with
    | zero => rfl
    | succ k ih => exact ih (j + 1)
  | p :: r, j => by show _ ++ _ = _ ++ _; rw [← wl_zeros k r (j + 1)]; rfl
noncomputable def addw (l : List Int) (q : Nat × Int) : List Int := l.set q.1 (l.getD q.1 0 + q.2)
theorem fold_wl (many : Nat) : ∀ (n : Nat) (ns : List Int), ns.length = n → n ≤ many → (∀ p ∈ ns, 0 ≤ p) → (wl 0 ns).foldl addw (List.replicate many 0) = ns ++ List.replicate (many - n) 0
  | 0, ns, h, _, _ => by rw [List.length_eq_zero_iff.mp h]; rfl
  | n + 1, ns, h, hm, hp => by
    have hne : ns ≠ [] := fun z => by rw [z] at h; cases h
    obtain ⟨a, p, rfl⟩ : ∃ a p, ns = a ++ [p] := ⟨ns.dropLast, ns.getLast hne, (List.dropLast_concat_getLast hne).symm⟩
    have ha : a.length = n := by simpa using h
    rw [wl_snoc, List.foldl_append, fold_wl many n a ha (by omega) (fun x hx => hp x (List.mem_append_left _ hx)), Nat.zero_add, ha]
    have em : many - n = (many - (n + 1)) + 1 := by omega
    have e1 : List.replicate (many - n) (0 : Int) = 0 :: List.replicate (many - (n + 1)) 0 := by rw [em, List.replicate_succ]
    have p0 : 0 ≤ p := hp p (by simp)
    by_cases h1 : 1 ≤ p
    · rw [if_pos h1, e1]
      show addw _ _ = _
      unfold addw
      rw [← ha]
      simp [List.getD_eq_getElem?_getD]
    · rw [if_neg h1, e1, show p = 0 by omega]
      simp
theorem ttx_zeros (ns : List Int) (t b : Int) (k : Nat) : ttx ⟨ns ++ List.replicate k 0, t, b⟩ = ttx ⟨ns, t, b⟩ := by
  unfold ttx
  rw [wl_zeros]
theorem ntx_chars {t b : Int} {c : Nat} (hc : c ∈ (ntx t b).cps.toList) : 45 ≤ c ∧ c ≤ 57 := by
  unfold ntx at hc
  split at hc
  · have := itx_chars hc; omega
  · rw [cps_app, cps_app, List.append_assoc] at hc
    rcases List.mem_append.mp hc with h | h
    · have := itx_chars h; omega
    · rcases List.mem_append.mp h with h | h
      · have : c = 47 := by simpa using h
        omega
      · have := itx_chars h; omega
theorem wtx_chars {q : Nat × Int} {c : Nat} (hc : c ∈ (wtx q).cps.toList) : 45 ≤ c := by
  unfold wtx at hc
  split at hc
  · have : c = 97 + q.1 := by simpa [ltr] using hc
    omega
  · rw [cps_app, cps_app, List.append_assoc] at hc
    rcases List.mem_append.mp hc with h | h
    · have : c = 97 + q.1 := by simpa [ltr] using h
      omega
    · rcases List.mem_append.mp h with h | h
      · have : c = 94 := by simpa using h
        omega
      · have := itx_chars h; omega
theorem join_chars {sep : Str} {c : Nat} : ∀ {l : List Str}, c ∈ (Str.join sep l).cps.toList → c ∈ sep.cps.toList ∨ ∃ x ∈ l, c ∈ x.cps.toList
  | [], h => by cases h
  | [x], h => .inr ⟨x, by simp, h⟩
  | x :: y :: r, h => by
    rw [join_cons2, cps_app, cps_app, List.append_assoc] at h
    rcases List.mem_append.mp h with h | h
    · exact .inr ⟨x, by simp, h⟩
    · rcases List.mem_append.mp h with h | h
      · exact .inl h
      · rcases join_chars h with h | ⟨z, hz, h⟩
        · exact .inl h
        · exact .inr ⟨z, List.mem_cons_of_mem _ hz, h⟩
theorem ttx_chars {x : Trm} {c : Nat} (hc : c ∈ (ttx x).cps.toList) : c = 32 ∨ 45 ≤ c := by
  rcases join_chars hc with h | ⟨y, hy, h⟩
  · exact .inl (by simpa using h)
  · rcases List.mem_cons.mp hy with rfl | hy
    · have := ntx_chars h; omega
    · obtain ⟨q, _, rfl⟩ := List.mem_map.mp hy
      exact .inr (wtx_chars h)
theorem split_ttx (x : Trm) : Txt.split (ttx x) ⟨#[32]⟩ = ntx x.t x.b :: (wl 0 x.ns).map wtx := by
  refine split_join (k := 0) (c := 32) ⟨rfl, fun j hj => by omega, by decide +kernel⟩ fun q hq hm => ?_
  rcases List.mem_cons.mp hq with rfl | hq
  · have := ntx_chars hm; omega
  · obtain ⟨q, _, rfl⟩ := List.mem_map.mp hq
    have := wtx_chars hm; omega
theorem split_stx (x : Trm) (r : List Trm) : Txt.split (stx (x :: r)) ⟨#[32, 43, 32]⟩ = (x :: r).reverse.map ttx := by
  show Txt.split (Str.join ⟨#[32, 43, 32]⟩ ((x :: r).reverse.map ttx)) ⟨#[32, 43, 32]⟩ = _
  cases e : (x :: r).reverse with
  | nil => simp at e
  | cons y s =>
    rw [List.map_cons]
    refine split_join (k := 1) (c := 43) ⟨rfl, fun j hj => ?_, by decide +kernel⟩ fun q hq hm => ?_
    · have : j = 0 := by omega
      subst this
      decide
    · have : ∃ z, q = ttx z := by
        rcases List.mem_cons.mp hq with rfl | hq
        · exact ⟨y, rfl⟩
        · obtain ⟨z, _, rfl⟩ := List.mem_map.mp hq
          exact ⟨z, rfl⟩
      obtain ⟨z, rfl⟩ := this
      have := ttx_chars hm
      omega
end LwS

namespace LwS
open PySem PySem.Builtin.Str LwI
structure TmOk (many : Nat) (x : Trm) : Prop where
  len : x.ns.length = many
  nn : ∀ n ∈ x.ns, 0 ≤ n
  deg : x.ns.sum ≤ 16
  pos : 0 < x.b
  low : Int.gcd x.t x.b = 1
  nz : x.t ≠ 0
  st : x.t.natAbs < 2 ^ 782
  sb : x.b.natAbs < 2 ^ 680
theorem sum_ge : ∀ {ns : List Int}, (∀ n ∈ ns, 0 ≤ n) → 0 ≤ ns.sum
  | [], _ => Int.le_refl _
  | a :: r, h => by
    have h1 := h a (by simp)
    have h2 := sum_ge fun n hn => h n (List.mem_cons_of_mem _ hn)
    rw [List.sum_cons]; omega
theorem mem_sum : ∀ {ns : List Int} {n : Int}, (∀ n ∈ ns, 0 ≤ n) → n ∈ ns → n ≤ ns.sum
  | a :: r, n, h, hn => by
    have h1 := h a (by simp)
    have h2 := sum_ge fun n hn => h n (List.mem_cons_of_mem _ hn)
    rw [List.sum_cons]
    rcases List.mem_cons.mp hn with rfl | hn
    · omega
    · have := mem_sum (fun n hn => h n (List.mem_cons_of_mem _ hn)) hn
      omega
theorem TmOk.le {many : Nat} {x : Trm} (h : TmOk many x) {n : Int} (hn : n ∈ x.ns) : 0 ≤ n ∧ n ≤ 16 := ⟨h.nn n hn, Int.le_trans (mem_sum h.nn hn) h.deg⟩
theorem log_lt {i : Int} {k : Nat} (h : i.natAbs < 2 ^ k) (hk : k ≤ 1920) (hk0 : 0 < k) : i.natAbs.log2 < 1920 := by
  by_cases e : i.natAbs = 0
  · rw [e]; decide
  · exact Nat.lt_of_lt_of_le ((Nat.log2_lt e).mpr h) hk
theorem TmOk.t10 {many : Nat} {x : Trm} (h : TmOk many x) : x.t.natAbs < 10 ^ 236 := Nat.lt_of_lt_of_le h.st (by decide +kernel)
theorem TmOk.b10 {many : Nat} {x : Trm} (h : TmOk many x) : x.b.natAbs < 10 ^ 205 := Nat.lt_of_lt_of_le h.sb (by decide +kernel)
theorem ntx_len {many : Nat} {x : Trm} (h : TmOk many x) : (ntx x.t x.b).length ≤ 444 := by
  have h1 := itx_len (by decide) h.t10
  have h2 := itx_len (by decide) h.b10
  unfold ntx
  split
  · omega
  · rw [Str.length_append, Str.length_append]
    show (itx x.t).length + 1 + (itx x.b).length ≤ 444
    omega
theorem small10 {p : Int} (h0 : 0 ≤ p) (h : p ≤ 16) : p.natAbs < 10 ^ 2 := by omega
theorem wtx_len {q : Nat × Int} (h0 : 0 ≤ q.2) (h : q.2 ≤ 16) : (wtx q).length ≤ 5 := by
  have h2 := itx_len (by decide) (small10 h0 h)
  unfold wtx
  split
  · show 1 ≤ 5; decide
  · rw [Str.length_append, Str.length_append]
    show 1 + 1 + (itx q.2).length ≤ 5
    omega
theorem wl_len : ∀ (ns : List Int) (j : Nat), (wl j ns).length ≤ ns.length
  | [], _ => Nat.le_refl _
  | p :: r, j => by
    show ((if 1 ≤ p then [(j, p)] else []) ++ wl (j + 1) r).length ≤ _
    have := wl_len r (j + 1)
    rw [List.length_append, List.length_cons]
    split
    · rw [List.length_singleton]; omega
    · rw [List.length_nil]; omega
theorem sum_le {B : Nat} {l : List Str} (h : ∀ y ∈ l, y.length ≤ B) : (l.map (·.length)).sum ≤ l.length * B := StrLaws.sumLen_le l h
theorem words_len {many : Nat} {x : Trm} (h : TmOk many x) : ∀ y ∈ (wl 0 x.ns).map wtx, y.length ≤ 5 := fun y hy => by
  obtain ⟨q, hq, rfl⟩ := List.mem_map.mp hy
  have := h.le (wl_mem hq).2.2.2
  exact wtx_len this.1 this.2
theorem ttx_len {many : Nat} {x : Trm} (h : TmOk many x) (hm : many ≤ 4) : (ttx x).length ≤ 469 := by
  have h1 := StrLaws.join_length_le ⟨#[32]⟩ (ntx x.t x.b :: (wl 0 x.ns).map wtx)
  have h2 := sum_le (words_len h)
  have h3 := wl_len x.ns 0
  have h4 := ntx_len h
  have h5 := h.len
  simp only [List.map_cons, List.sum_cons, List.length_cons, List.length_map] at h1 h2
  have e : (⟨#[32]⟩ : Str).length = 1 := rfl
  rw [e] at h1
  exact Nat.le_trans h1 (by omega)
theorem join_ok {sep : Str} {l : List Str} {B : Nat} (hB : ∀ y ∈ l, y.length ≤ B) (h : l.length * B + l.length * sep.length ≤ 16777216) : JoinOk sep l = true := by
  unfold JoinOk
  rw [StrLaws.joinFits hB h]
  rfl
theorem stx_len {many : Nat} {ts : List Trm} (h : ∀ x ∈ ts, TmOk many x) (hm : many ≤ 4) (h7 : ts.length ≤ 7) : (stx ts).length ≤ 3304 := by
  unfold stx
  split
  · show 1 ≤ 3304; decide
  · rename_i x r
    have h1 := StrLaws.join_length_le ⟨#[32, 43, 32]⟩ ((x :: r).reverse.map ttx)
    have h2 := sum_le (l := (x :: r).reverse.map ttx) (B := 469) fun y hy => by
      obtain ⟨z, hz, rfl⟩ := List.mem_map.mp hy
      exact ttx_len (h z (List.mem_reverse.mp hz)) hm
    have e : (⟨#[32, 43, 32]⟩ : Str).length = 3 := rfl
    rw [e] at h1
    rw [List.length_map, List.length_reverse] at h1 h2
    exact Nat.le_trans h1 (by omega)
theorem starts_itx (i : Int) : Txt.startswith (itx i) ⟨#[45]⟩ = decide (i < 0) := by
  unfold Txt.startswith
  rw [StrLaws.subAt_eq, List.drop_zero, ← len_toList (itx i)]
  have e : (⟨#[45]⟩ : Str).length = 1 := rfl
  rw [e]
  rcases itx_cases i with ⟨h1, h2⟩ | ⟨h1, h2⟩
  · rw [h2, decide_eq_false (show ¬ i < 0 by omega)]
    have hd := dg_dig i.natAbs
    cases e2 : dg i.natAbs with
    | nil => exact absurd e2 (dg_ne _)
    | cons c r =>
      rw [e2] at hd
      have hc := hd c (by simp)
      have e3 : (List.take 1 (c :: r) == ((⟨#[45]⟩ : Str).cps.toList)) = false := by
        show ([c] == [45]) = false
        simp
        omega
      rw [e3, Bool.and_false]
  · rw [h2, decide_eq_true h1]
    show (decide (0 + 1 ≤ (45 :: dg i.natAbs).length) && ([45] == [45])) = true
    simp
theorem slice1 {x : Str} (h : 1 ≤ x.length) : (Txt.slice x (some 1) none).cps.toList = x.cps.toList.drop 1 := by
  have e : Txt.slice x (some 1) none = StrLaws.sliceText x (some ((1 : Nat) : Int)) (some (x.length : Int)) := by
    unfold Txt.slice StrLaws.sliceText
    rw [StrLaws.sliceIdx_none_hi]
    rfl
  rw [e, StrLaws.sliceText_nat x h (Nat.le_refl _)]
  exact List.take_of_length_le (by rw [List.length_drop, len_toList]; exact Nat.le_refl _)
end LwS

namespace Lw
open PySem PySem.Spec PyProof.Rows L2
noncomputable def top (i : Nat) : Stmt := PySem.Challenge.pw_lowwater_k07_sums_shown.main.body.getD i (.Pass ⟨0, 0, 0, 0⟩)
noncomputable abbrev sWhole : Stmt := top 6
noncomputable abbrev sGcd : Stmt := top 9
noncomputable abbrev sIsf : Stmt := top 10
noncomputable abbrev sWF : Stmt := top 16
noncomputable abbrev sPw : Stmt := top 17
noncomputable abbrev sTerm : Stmt := top 18
noncomputable abbrev sSum : Stmt := top 19
noncomputable abbrev sShNum : Stmt := top 24
noncomputable abbrev sShTerm : Stmt := top 25
noncomputable abbrev sShown : Stmt := top 26
noncomputable abbrev sRdWhole : Stmt := top 27
noncomputable abbrev sRdNum : Stmt := top 28
noncomputable abbrev sRdPw : Stmt := top 29
noncomputable abbrev sRdTerm : Stmt := top 30
noncomputable abbrev sRead : Stmt := top 31
noncomputable abbrev sDraw : Stmt := top 33
noncomputable abbrev sLow : Stmt := top 34
noncomputable abbrev sPlus : Stmt := top 35
noncomputable abbrev sPut : Stmt := top 36
noncomputable abbrev sNumber : Stmt := top 37
noncomputable abbrev sFraction : Stmt := top 38
noncomputable abbrev sLSum : Stmt := top 39
noncomputable abbrev sDrawn : Stmt := top 40
noncomputable abbrev sText : Stmt := top 41
noncomputable abbrev sParts : Stmt := top 42
noncomputable abbrev sLaw : Stmt := top 43
noncomputable def Sm : V → Prop
  | .int i => i.natAbs < 2 ^ 1000
  | _ => True
inductive Thing (H : Hp) : V → Prop where
  | sc {v : V} {k : Kd} (h : KdOf H v k) (n : k ≠ .tup) : Thing H v
  | tup {a : Addr} {xs : List V} (e : H a = some (.tup xs)) (h : ∀ x ∈ xs, Sm x ∧ ∃ k, KdOf H x k) : Thing H (.ref a)
noncomputable def pairB : List V → Bool
  | [.int t, .int b] => decide (1 ≤ b) && decide (Int.gcd t b = 1)
  | _ => false
noncomputable def fracB (H : Hp) : V → Bool
  | .ref a => match H a with
    | some (.tup xs) => pairB xs
    | _ => false
  | _ => false
theorem frac_sc {H : Hp} {v : V} {k : Kd} (h : KdOf H v k) (n : k ≠ .tup) : fracB H v = false := by
  cases h with
  | tup e => exact absurd rfl n
  | lst e => simp only [fracB, e]
  | _ => rfl
theorem frac_tup {H : Hp} {a : Addr} {xs : List V} (e : H a = some (.tup xs)) : fracB H (.ref a) = pairB xs := by simp only [fracB, e]
theorem pair_len {xs : List V} (h : xs.length ≠ 2) : pairB xs = false := by
  match xs, h with
  | [], _ => rfl
  | [_], _ => unfold pairB; split <;> simp_all
  | [_, _], h => exact absurd rfl h
  | _ :: _ :: _ :: _, _ => unfold pairB; split <;> simp_all
theorem pair_fst {x y : V} (h : ∀ n, x ≠ .int n) : pairB [x, y] = false := by
  unfold pairB
  split
  · rename_i t b e
    injection e with e1 _
    exact absurd e1 (h t)
  · rfl
theorem pair_snd {x y : V} (h : ∀ n, y ≠ .int n) : pairB [x, y] = false := by
  unfold pairB
  split
  · rename_i t b e
    injection e with _ e2
    injection e2 with e2 _
    exact absurd e2 (h b)
  · rfl
noncomputable def Tape (cl : Addr) (H : Hp) (tp : Addr) (B : Int) : Prop := ∃ (ns : List Int) (spot rest left : Int), H tp = some (.lst [.ref cl, .int spot, .int rest, .int left]) ∧ H cl = some (.lst (ns.map V.int)) ∧ ns.length ≤ 63 ∧ 0 ≤ spot ∧ spot ≤ B
theorem Tape.mono {cl : Addr} {H H' : Hp} {tp : Addr} {B B' : Int} (e : Same H H') (hB : B ≤ B') (h : Tape cl H tp B) : Tape cl H' tp B' := by
  obtain ⟨ns, spot, rest, left, h1, h2, h3, h4, h5⟩ := h
  exact ⟨ns, spot, rest, left, e _ _ h1, e _ _ h2, h3, h4, by omega⟩

noncomputable def spWhole : Sp := fun vs H Q _ => ∃ v k, vs = [v] ∧ KdOf H v k ∧ Q (.bl (decide (k = .int))) H
noncomputable def spIsf : Sp := fun vs H Q _ => ∃ v, vs = [v] ∧ Thing H v ∧ Q (.bl (fracB H v)) H
noncomputable def spGcd : Sp := fun vs H Q _ => ∃ a b : Int, vs = [.int a, .int b] ∧ 0 < b ∧ b.natAbs < 2 ^ 8000 ∧ Q (.int (Int.gcd a b)) H
noncomputable def spDraw : Sp := fun vs H Q _ => ∃ (tp : Addr) (many B : Int), vs = [.ref tp, .int many] ∧ ∃ cl, Tape cl H tp B ∧ B < 2 ^ 40 ∧ 0 < many ∧ many < 2 ^ 100 ∧
  ∀ (r : Int) (H' : Hp), 0 ≤ r → r < many → Tape cl H' tp (B + 1) → But tp H H' → Q (.int r) H'
noncomputable def lowT (t b : Int) : Int := (if b < 0 then 0 - t else t) / (Int.gcd t b : Int)
noncomputable def lowB (t b : Int) : Int := (if b < 0 then 0 - b else b) / (Int.gcd t b : Int)
noncomputable def LowFit (t b : Int) : Prop := b.natAbs < 2 ^ 8000 ∨ (t.natAbs < 2 ^ 13400 ∧ b.natAbs < 2 ^ 13400)
noncomputable def spLow : Sp := fun vs H Q _ => ∃ t b : Int, vs = [.int t, .int b] ∧ b ≠ 0 ∧ LowFit t b ∧
  ∀ (p : Addr) (H' : Hp), H p = none → Same H H' → H' p = some (.tup [.int (lowT t b), .int (lowB t b)]) → Q (.ref p) H'
noncomputable def spLaw (K : PySem.W.Frag) : Sp := fun vs H Q _ => ∃ (a : Addr) (ns : List Int), vs = [.ref a] ∧ SqL K H a (ns.map V.int) ∧ ns.length ≤ 63 ∧ ∀ H', Q (.bl true) H'
structure Txt (mg : Str → Option Value) : Prop where
  isi : mg "isinstance" = none
  len : mg "len" = none
  int : mg "int" = none
  bool : mg "bool" = none
  tup : mg "tuple" = none
  lst : mg "list" = none
  str : mg "str" = none
  abs : mg "abs" = none
  rng : mg "range" = none
  lbits : ∃ t, mg "LONG_BITS" = some (.int 8000 t)
  all : mg "all" = none
  sum : mg "sum" = none
  zip : mg "zip" = none
  sorted : mg "sorted" = none
  min : mg "min" = none
  letters : ∃ t, mg "MOST_LETTERS" = some (.int 4 t)
  degree : ∃ t, mg "MOST_DEGREE" = some (.int 16 t)
  terms : ∃ t, mg "MOST_TERMS" = some (.int 500 t)
  signs : ∃ t, mg "MOST_SIGNS" = some (.int 4000 t)
structure Df (K : PySem.W.Frag) (mg : Str → Option Value) (x : Str) (st : Stmt) (ps : List Str) (f : Addr) (fd : FuncData) : Prop where
  F : Fun K x x st f fd
  b : Binds K fd ps []
  m : mg x = some (.ref f)
section
variable {P : Program} {w : World} {K : PySem.W.Frag} {mg : Str → Option Value} {base : Heap} {f fd : _}
theorem scWhole : FnScope ["thing"] ["thing"] (defScope sWhole) := ⟨rfl, rfl, rfl, by decide +kernel, rfl, by decide +kernel, by decide +kernel⟩
theorem ok_whole (F : Fun K "is_whole" "is_whole" sWhole f fd) (T : Txt mg) : FnOk P w K mg base CX0 1 f fd ["thing"] spWhole := by
  refine F.ok scWhole (fun vs H Q E h => ?_) (fun cdv A outer s H vs Q E hr h => ?_)
  · obtain ⟨v, k, rfl, _⟩ := h
    rfl
  · obtain ⟨v, k, rfl, hk, q⟩ := h
    refine ⟨_, pss_one (ps_ret (pe_and (pe_isi isi_int T.isi T.int boot_int (pv 0)) (pe_one (pe_not (pe_isi isi_bool T.isi T.bool boot_bool (pv 0)))))), ?_⟩
    refine ⟨_, rfl, rfl, k, hk, _, rfl, ?_⟩
    refine ite2 (fun e => ?_) (fun e => ?_)
    · refine ⟨_, rfl, rfl, k, hk, _, rfl, ?_⟩
      cases k <;> first | exact q | exact absurd e (by decide)
    · cases k <;> first | exact q | exact absurd rfl e
theorem scGcd : FnScope ["one", "other"] ["one", "other"] (defScope sGcd) := ⟨rfl, rfl, rfl, by decide +kernel, rfl, by decide +kernel, by decide +kernel⟩
theorem mt_bits {X : Cx} : MtR X "int.bit_length" (fun x xs H Q => ∃ i : Int, x = .int i ∧ xs = [] ∧ Q (.int (Builtin.Int.intBits i : Nat)) H) := by
  intro pins s σ H x xs v us Q I rx rs q
  obtain ⟨i, rfl, rfl, q⟩ := q
  obtain ⟨t, rfl⟩ := rx
  cases rs
  exact call_int_bit_length ⟨.int (Builtin.Int.intBits i : Nat), H, I.tok _, ⟨_, rfl⟩, q⟩
theorem ok_gcd (F : Fun K "greatest_divisor" "greatest_divisor" sGcd f fd) (T : Txt mg) : FnOk P w K mg base CX0 1 f fd ["one", "other"] spGcd := by
  obtain ⟨tl, hl⟩ := T.lbits
  refine F.ok scGcd (fun vs H Q E h => ?_) (fun cdv A outer s H vs Q E hr h => ?_)
  · obtain ⟨a, b, rfl, _⟩ := h
    rfl
  · obtain ⟨a, b, rfl, hb, hs, k⟩ := h
    refine ⟨_, pss_cons (ps_while PassesOwn.never (pt_cmpR op_ne (pv 1) pe_int (nomark _))
        (pss_one (ps_if (pt_cmpR op_gt (pe_bm0 PySem.F.plainAttrs_int slot_int_bit_length type_int_bit_length mt_bits (pv 1)) (pe_glob (v := .int 8000) (by rfl) hl ⟨_, rfl⟩) (nomark _)) pss_never
          (pss_one (ps_par (i := 0) (j := 1) rfl scGcd.nd rfl rfl (by decide) rfl rfl (pa_cons (pv 1) (pa_cons (pe_op op_mod (pv 0) (pv 1)) pa_nil)) rfl)))))
      (pss_one (ps_ret (pv 0))), ?_⟩
    refine while_by (fun σ H1 => H1 = H ∧ ∃ p q : Int, σ = [some (.int p), some (.int q)] ∧ 0 ≤ q ∧ (0 < q ∨ 0 ≤ p) ∧ q.natAbs < 2 ^ 8000 ∧ Int.gcd p q = Int.gcd a b)
      (fun σ _ => match σ with | [_, some (.int q)] => q.toNat | _ => 0) ⟨rfl, a, b, rfl, by omega, .inl hb, hs, rfl⟩ ?_ ?_
    · rintro σ H1 ⟨rfl, p, q, rfl, h0, h1, hq8, h2⟩
      refine ⟨_, rfl, rfl, _, rfl, ?_⟩
      refine ite2 (fun e => ?_) (fun e => ?_)
      · have hq : 0 < q := by
          have : q ≠ 0 := fun z => by simp [z] at e
          omega
        have hbits : (Builtin.Int.intBits q) ≤ 8000 := PySem.intBits_le_iff.mpr hq8
        refine ⟨_, rfl, rfl, _, rfl, rfl, _, _, rfl, rfl, _, rfl, iteN (decide_eq_false (by omega)) ?_⟩
        refine ⟨_, rfl, _, rfl, _, rfl, _, _, rfl, rfl, hq, _, _, rfl, ?_⟩
        have m1 := Int.emod_nonneg p (b := q) (by omega)
        have m2 := Int.emod_lt_of_pos p hq
        have m3 : (p % q).natAbs ≤ q.natAbs := by omega
        refine ⟨⟨rfl, q, p % q, rfl, m1, .inr h0, Nat.lt_of_le_of_lt m3 hq8, (LwM.gcd_step p q).trans h2⟩, ?_⟩
        show (p % q).toNat < q.toNat
        omega
      · have hq : q = 0 := by
          by_cases z : q = 0
          · exact z
          · exact absurd (by simp [z]) e
        subst hq
        refine ⟨_, rfl, ?_⟩
        have : p = ((Int.gcd a b : Nat) : Int) := by
          rw [← h2, Int.gcd_zero_right]
          omega
        rw [this]
        exact k
    · rintro σ H1 Q1 Q2 hQ ⟨v, e, hs, k', ek, q⟩
      exact ⟨v, e, hs, k', ek, hQ _ _ q⟩
theorem scIsf : FnScope ["thing", "top", "bottom"] ["thing"] (defScope sIsf) := ⟨rfl, rfl, rfl, by decide +kernel, rfl, by decide +kernel, by decide +kernel⟩
theorem ok_isf {fW fG : Addr} {fdW fdG : FuncData} (F : Fun K "is_fraction" "is_fraction" sIsf f fd) (T : Txt mg) (DW : Df K mg "is_whole" sWhole ["thing"] fW fdW) (DG : Df K mg "greatest_divisor" sGcd ["one", "other"] fG fdG) :
    FnOk P w K mg base CX0 2 f fd ["thing"] spIsf := by
  have GW : FnOk P w K mg base CX0 1 fW fdW ["thing"] spWhole := ok_whole DW.F T
  have GG : FnOk P w K mg base CX0 1 fG fdG ["one", "other"] spGcd := ok_gcd DG.F T
  refine F.ok scIsf (fun vs H Q E h => ?_) (fun cdv A outer s H vs Q E hr h => ?_)
  · obtain ⟨v, rfl, _⟩ := h
    rfl
  · obtain ⟨v, rfl, hv, q⟩ := h
    refine ⟨_, pss_cons (ps_if (PW.pt (pw_or (pt_not (pt_val (pe_isi isi_tup T.isi T.tup boot_tuple (pv 0)))) (pw_or1 (pt_cmpR op_ne (pe_callB call_len_seq (by rfl) T.len PySem.boot_len (pa_cons (pv 0) pa_nil)) pe_int (nomark _))))) (pss_one (ps_ret pe_bl)) pss_nil)
      (pss_cons (ps_asg (pv 0) (pg_tup rfl (pgs_cons (pg_name (i := 1) scIsf.nd rfl (Or.inl rfl)) (pgs_cons (pg_name (i := 2) scIsf.nd rfl (Or.inl rfl)) pgs_nil))))
      (pss_cons (ps_if (PW.pt (pw_or (pt_not (pt_val (pe_call GW hr rfl DW.m DW.F.kp DW.b .nil pass0 (pa_cons (pv 1) pa_nil)))) (pw_or (pt_not (pt_val (pe_call GW hr rfl DW.m DW.F.kp DW.b .nil pass0 (pa_cons (pv 2) pa_nil)))) (pw_or1 (pt_cmpR op_lt (pv 2) pe_int (nomark _)))))) (pss_one (ps_ret pe_bl)) pss_nil)
      (pss_one (ps_ret (pe_cmpR op_eq (pe_call GG hr rfl DG.m DG.F.kp DG.b .nil pass0 (pa_cons (pv 1) (pa_cons (pv 2) pa_nil))) pe_int (nomark _)))))), ?_⟩
    cases hv with
    | @sc _ k hk n =>
      refine ⟨_, rfl, rfl, k, hk, _, rfl, ?_⟩
      refine iteP (by cases k <;> first | rfl | exact absurd rfl n) (iteT ?_)
      show Q (.bl false) H
      rw [frac_sc hk n] at q
      exact q
    | @tup a xs e hx =>
      rw [frac_tup e] at q
      refine ⟨_, rfl, rfl, .tup, .tup e, _, rfl, iteF ?_⟩
      refine ⟨_, rfl, a, xs, rfl, .inr (SqT.of e), rfl, _, rfl, ?_⟩
      by_cases hl : xs.length = 2
      · match xs, hl, hx, e, q with
        | [x, y], _, hx, e, q =>
          refine iteF ?_
          obtain ⟨_, k1, h1⟩ := hx x (by simp)
          obtain ⟨_, k2, h2⟩ := hx y (by simp)
          refine ⟨_, rfl, a, [x, y], rfl, SqT.of e, rfl, x, [y], rfl, y, [], rfl, rfl, ?_⟩
          refine ⟨_, rfl, x, k1, rfl, h1, _, rfl, ?_⟩
          by_cases e1 : k1 = .int
          · subst e1
            cases h1 with
            | int t =>
            refine iteF ?_
            refine ⟨_, rfl, y, k2, rfl, h2, _, rfl, ?_⟩
            by_cases e2 : k2 = .int
            · subst e2
              cases h2 with
              | int b =>
              refine iteF ?_
              refine ⟨_, rfl, _, _, rfl, rfl, _, rfl, ?_⟩
              by_cases hb : b < 1
              · refine iteP (decide_eq_true hb) ?_
                have z : pairB [.int t, .int b] = false := by
                  show (decide (1 ≤ b) && _) = false
                  rw [decide_eq_false (by omega)]
                  rfl
                rw [z] at q
                exact q
              · refine iteN (decide_eq_false hb) ?_
                refine ⟨_, rfl, _, rfl, t, b, rfl, by omega, Nat.lt_of_lt_of_le (hx (.int b) (by simp)).1 (Nat.pow_le_pow_right (by decide) (by decide)), rfl, ?_⟩
                have z : pairB [.int t, .int b] = decide (V.int (Int.gcd t b : Int) = V.int 1) := by
                  show (decide (1 ≤ b) && decide (Int.gcd t b = 1)) = _
                  rw [decide_eq_true (by omega : 1 ≤ b), dec_int]
                  by_cases g : Int.gcd t b = 1
                  · simp [g]
                  · have : ¬ ((Int.gcd t b : Int) = 1) := by omega
                    simp [g, this]
                rw [z] at q
                exact q
            · refine iteP (by simp [e2]) ?_
              refine iteT ?_
              rw [pair_snd (by cases h2 <;> first | exact absurd rfl e2 | (intro n z; cases z))] at q
              exact q
          · refine iteP (by simp [e1]) ?_
            refine iteT ?_
            rw [pair_fst (by cases h1 <;> first | exact absurd rfl e1 | (intro n z; cases z))] at q
            exact q
      · refine iteP ?_ ?_
        · rw [decide_eq_false]
          · rfl
          · intro z
            injection z with z
            omega
        · rw [pair_len hl] at q
          exact q
theorem scLow : FnScope ["top", "bottom", "one", "other"] ["top", "bottom"] (defScope sLow) := ⟨rfl, rfl, rfl, by decide +kernel, rfl, by decide +kernel, by decide +kernel⟩
theorem ok_low (F : Fun K "_law_low" "_law_low" sLow f fd) (T : Txt mg) : FnOk P w K mg base CX0 1 f fd ["top", "bottom"] spLow := by
  refine F.ok scLow (fun vs H Q E h => ?_) (fun cdv A outer s H vs Q E hr h => ?_)
  · obtain ⟨t, b, rfl, _⟩ := h
    rfl
  · obtain ⟨t, b, rfl, hb, hs, k⟩ := h
    refine ⟨_, pss_cons (ps_if (pt_cmpR op_lt (pv 1) pe_int (nomark _)) (pss_one (ps_par (i := 0) (j := 1) rfl scLow.nd rfl rfl (by decide) rfl rfl (pa_cons (pe_op op_sub pe_int (pv 0)) (pa_cons (pe_op op_sub pe_int (pv 1)) pa_nil)) rfl)) pss_nil)
      (pss_cons (ps_set (i := 2) scLow.nd rfl (Or.inl rfl) (pe_callB call_abs (by rfl) T.abs boot_abs (pa_cons (pv 0) pa_nil)))
      (pss_cons (ps_set (i := 3) scLow.nd rfl (Or.inl rfl) (pv 1))
      (pss_cons (ps_while PassesOwn.never (pt_cmpR op_gt (pv 2) pe_int (nomark _)) (pss_one (ps_par (i := 2) (j := 3) rfl scLow.nd rfl rfl (by decide) rfl rfl (pa_cons (pe_op op_mod (pv 3) (pv 2)) (pa_cons (pv 2) pa_nil)) rfl)))
      (pss_one (ps_ret (pe_tup (pa_cons (pe_op LwD.op_fdivP (pv 0) (pv 3)) (pa_cons (pe_op LwD.op_fdivP (pv 1) (pv 3)) pa_nil)))))))), ?_⟩
    refine ⟨_, rfl, _, _, rfl, rfl, _, rfl, ?_⟩
    -- behind the signs
    have fin : ∀ t' b' : Int, 0 < b' → (∀ q : Int, 0 < q → q ≤ b' → LwD.CDivP t' q ∧ LwD.CDivP b' q) → t' = (if b < 0 then 0 - t else t) → b' = (if b < 0 then 0 - b else b) → Int.gcd t' b' = Int.gcd t b →
        (tSeq (tAsg (tCB (fun xs H Q => ∃ i, xs = [V.int i] ∧ Q (.int (if i < 0 then -i else i)) H) (tCons (tVar 0) tNil)) (gName 2)) (tSeq (tAsg (tVar 1) (gName 3)) (tSeq (tWhile (tTest (tOp (rI0 fun i j => V.bl (decide (j < i))) (tVar 2) (tC (.int 0)))) (tPar 2 3 (tCons (tOp (rI (fun _ j => 0 < j) fun i j => .int (i % j)) (tVar 3) (tVar 2)) (tCons (tVar 2) tNil)))) (tRet (tTup (tCons (tOp (rI LwD.CDivP fun i j => .int (i / j)) (tVar 0) (tVar 3)) (tCons (tOp (rI LwD.CDivP fun i j => .int (i / j)) (tVar 1) (tVar 3)) tNil))))))) { nx := fun _ H' => Q .non H', rt := Q } [some (.int t'), some (.int b'), none, none] H := by
      intro t' b' hb' hs' et eb hg
      refine ⟨_, rfl, _, rfl, _, rfl, ?_⟩
      refine while_by (fun σ H1 => H1 = H ∧ ∃ p q : Int, σ = [some (.int t'), some (.int b'), some (.int p), some (.int q)] ∧ 0 ≤ p ∧ 0 < q ∧ Int.gcd q p = Int.gcd t b)
        (fun σ _ => match σ with | [_, _, some (.int p), _] => p.toNat | _ => 0) ⟨rfl, _, b', rfl, by split <;> omega, hb', ?_⟩ ?_ ?_
      · rw [← hg, Int.gcd_comm t']
        split
        · exact Int.gcd_neg
        · rfl
      · rintro σ H1 ⟨rfl, p, q, rfl, h0, h1, h2⟩
        refine ⟨_, rfl, _, _, rfl, rfl, _, rfl, ?_⟩
        refine ite2 (fun e => ?_) (fun e => ?_)
        · have hp : 0 < p := of_decide_eq_true e
          refine ⟨_, rfl, _, rfl, _, _, rfl, rfl, hp, _, rfl, _, _, rfl, ?_⟩
          have m1 := Int.emod_nonneg q (b := p) (by omega)
          have m2 := Int.emod_lt_of_pos q hp
          refine ⟨⟨rfl, q % p, p, rfl, m1, hp, (LwM.gcd_step q p).trans h2⟩, ?_⟩
          show (q % p).toNat < p.toNat
          omega
        · have hp : p = 0 := by
            have : ¬ 0 < p := fun z => e (decide_eq_true z)
            omega
          subst hp
          have hq : q = ((Int.gcd t b : Nat) : Int) := by
            rw [← h2, Int.gcd_zero_right]
            omega
          have gb : q ≤ b' := by
            rw [hq, ← hg]
            exact LwM.gcd_le t' b' hb'
          obtain ⟨c1, c2⟩ := hs' q h1 gb
          refine ⟨_, rfl, _, rfl, _, _, rfl, rfl, c1, _, rfl, _, rfl, _, _, rfl, rfl, c2, (by show 2 ≤ sizeLine; decide), ?_⟩
          refine fresh fun p H' n s1 e1 => k p H' n s1 ?_
          rw [e1, hq, et, eb]
          rfl
      · rintro σ H1 Q1 Q2 hQ ⟨v, e, i, j, e1, e2, k', ek, q⟩
        exact ⟨v, e, i, j, e1, e2, k', ek, hQ _ _ q⟩
    have hs2 : ∀ t' b' : Int, t'.natAbs = t.natAbs → b'.natAbs = b.natAbs → 0 < b' → ∀ q : Int, 0 < q → q ≤ b' → LwD.CDivP t' q ∧ LwD.CDivP b' q := fun t' b' e1 e2 h0 q h1 h2 => by
      rcases hs with hs | ⟨ha, hb2⟩
      · have hq : q.natAbs < 2 ^ 8000 := Nat.lt_of_le_of_lt (by omega) hs
        exact ⟨LwD.cdivp_of ⟨h1, hq⟩, LwD.cdivp_of ⟨h1, hq⟩⟩
      · exact ⟨LwD.cdivp_near h1 (Nat.le_refl _) (by rw [e1]; exact ha), LwD.cdivp_near h1 (Nat.le_refl _) (by rw [e2]; exact hb2)⟩
    by_cases n : b < 0
    · refine iteP (decide_eq_true n) ?_
      refine ⟨_, rfl, _, _, rfl, rfl, _, rfl, _, _, rfl, rfl, _, _, rfl, ?_⟩
      refine fin (0 - t) (0 - b) (by omega) (hs2 _ _ (by omega) (by omega) (by omega)) (by rw [if_pos n]) (by rw [if_pos n]) ?_
      rw [Int.zero_sub, Int.zero_sub, Int.neg_gcd, Int.gcd_neg]
    · refine iteN (decide_eq_false n) ?_
      exact fin t b (by omega) (hs2 _ _ rfl rfl (by omega)) (by rw [if_neg n]) (by rw [if_neg n]) rfl
theorem low_pos {t b : Int} (h : 0 < b) : lowT t b = t / (Int.gcd t b : Int) ∧ lowB t b = b / (Int.gcd t b : Int) := by
  unfold lowT lowB
  rw [if_neg (by omega), if_neg (by omega)]
  exact ⟨rfl, rfl⟩
theorem at_ints {ns : List Int} {i : Int} (h0 : 0 ≤ i) (h1 : i < ns.length) : ∃ c : Int, atI (ns.map V.int) i = some (.int c) := by
  obtain ⟨j, rfl⟩ := Int.eq_ofNat_of_zero_le h0
  have hj : j < ns.length := by omega
  exact ⟨ns[j], atI_nat (by simp [hj])⟩
theorem scDraw : FnScope ["tape", "many", "spot", "cell", "some", "rest"] ["tape", "many"] (defScope sDraw) := ⟨rfl, rfl, rfl, by decide +kernel, rfl, by decide +kernel, by decide +kernel⟩
theorem ok_draw (F : Fun K "_law_draw" "_law_draw" sDraw f fd) (T : Txt mg) : FnOk P w K mg base CX0 1 f fd ["tape", "many"] spDraw := by
  refine F.ok scDraw (fun vs H Q E h => ?_) (fun cdv A outer s H vs Q E hr h => ?_)
  · obtain ⟨tp, many, B, rfl, _⟩ := h
    rfl
  · obtain ⟨tp, many, B, rfl, cl, ⟨ns, spot, rest, left, h1, h2, h3, h4, h5⟩, hB, hm, hm2, k⟩ := h
    have hne : cl ≠ tp := by
      rintro rfl
      rw [h1] at h2
      injection h2 with h2
      injection h2 with h2
      cases ns with
      | nil => cases h2
      | cons n r => injection h2 with z; cases z
    -- tape[i]
    refine ⟨_, pss_cons (ps_if (pt_cmpR op_eq (pe_ix ix_list (pv 0) pe_int (fun _ _ => rfl)) pe_int (nomark _))
        (pss_cons (ps_set (i := 2) scDraw.nd rfl (Or.inl rfl) (pe_ix ix_list (pv 0) pe_int (fun _ _ => rfl)))
        (pss_cons (ps_asg (pe_op op_add (pv 2) pe_int) (pg_sub (pv 0) pe_int set_list))
        (pss_cons (ps_set (i := 3) scDraw.nd rfl (Or.inl rfl) pe_int)
        (pss_cons (ps_if (pt_cmpR op_gt (pe_callB call_len_seq (by rfl) T.len PySem.boot_len (pa_cons (pe_ix ix_list (pv 0) pe_int (fun _ _ => rfl)) pa_nil)) pe_int (nomark _))
          (pss_one (ps_set (i := 3) scDraw.nd rfl (Or.inl rfl) (pe_ix ix_list (pe_ix ix_list (pv 0) pe_int (fun _ _ => rfl)) (pe_op op_mod (pv 2) (pe_callB call_len_seq (by rfl) T.len PySem.boot_len (pa_cons (pe_ix ix_list (pv 0) pe_int (fun _ _ => rfl)) pa_nil))) (fun _ _ => rfl)))) pss_nil)
        (pss_cons (ps_if (PW.pt (pw_or (pt_cmpR op_ge (pv 2) (pe_callB call_len_seq (by rfl) T.len PySem.boot_len (pa_cons (pe_ix ix_list (pv 0) pe_int (fun _ _ => rfl)) pa_nil)) (nomark _)) (pw_or1 (pt_cmpR op_lt (pv 3) (pe_op op_pow pe_int pe_int) (nomark _)))))
          (pss_cons (ps_set (i := 4) scDraw.nd rfl (Or.inl rfl) (pe_op op_add (pe_op op_add (pe_op op_mod (pe_op op_mul (pv 2) (pv 2)) pe_int) (pe_op op_mul pe_int (pv 2))) pe_int))
          (pss_cons (ps_set (i := 4) scDraw.nd rfl (Or.inl rfl) (pe_op op_mod (pe_op op_mul (pe_op op_add (pe_op op_mod (pv 3) pe_int) pe_int) (pv 4)) pe_int))
          (pss_one (ps_ret (pe_op op_mod (pe_op op_mod (pe_op op_add (pe_op op_fdiv (pe_op op_mod (pe_op op_mul (pv 4) (pv 4)) pe_int) pe_int) (pe_op op_mul pe_int (pv 2))) pe_int) (pv 1)))))) pss_nil)
        (pss_cons (ps_asg (pe_op op_sub (pv 3) (pe_op op_pow pe_int pe_int)) (pg_sub (pv 0) pe_int set_list))
        (pss_one (ps_asg pe_int (pg_sub (pv 0) pe_int set_list))))))))) pss_nil)
      (pss_cons (ps_asg (pe_op op_sub (pe_ix ix_list (pv 0) pe_int (fun _ _ => rfl)) pe_int) (pg_sub (pv 0) pe_int set_list))
      (pss_cons (ps_set (i := 5) scDraw.nd rfl (Or.inl rfl) (pe_ix ix_list (pv 0) pe_int (fun _ _ => rfl)))
      (pss_cons (ps_asg (pe_op op_fdivL (pv 5) (pv 1)) (pg_sub (pv 0) pe_int set_list))
      (pss_one (ps_ret (pe_op op_mod (pv 5) (pv 1))))))), ?_⟩
    have hmd : many.natAbs < 2 ^ 8000 := by
      have : many.natAbs < 2 ^ 100 := by
        have h : ((2 ^ 100 : Nat) : Int) = 2 ^ 100 := by decide
        omega
      exact Nat.lt_of_lt_of_le this (Nat.pow_le_pow_right (by decide) (by decide))
    -- what is done behind the first test: one digit of rest is taken
    have tail : ∀ (spot' rest' left' : Int) (a b c d : Option V) (H1 : Hp), H1 tp = some (.lst [.ref cl, .int spot', .int rest', .int left']) → But tp H H1 → 0 ≤ spot' → spot' ≤ B + 1 →
        (tSeq (tAsg (tOp (rI0 fun i j => V.int (i - j)) (tOp (rIxL K) (tVar 0) (tC (.int 3))) (tC (.int 1))) (gSub (tVar 0) (tC (.int 3)) rSetL))
          (tSeq (tAsg (tOp (rIxL K) (tVar 0) (tC (.int 2))) (gName 5))
          (tSeq (tAsg (tOp (rI CDivL fun i j => .int (i / j)) (tVar 5) (tVar 1)) (gSub (tVar 0) (tC (.int 2)) rSetL))
          (tRet (tOp (rI (fun _ j => 0 < j) fun i j => .int (i % j)) (tVar 5) (tVar 1)))))) { nx := fun _ H' => Q .non H', rt := Q } [some (.ref tp), some (.int many), a, b, c, d] H1 := by
      intro spot' rest' left' a b c d H1 g1 g2 g3 g4
      refine ⟨_, rfl, tp, _, _, _, rfl, rfl, SqL.of g1, rfl, _, _, rfl, rfl, ?_⟩
      refine ⟨_, rfl, tp, _, _, _, rfl, rfl, g1, rfl, ?_⟩
      refine ⟨_, rfl, tp, _, _, _, rfl, rfl, SqL.of upd_same, rfl, ?_⟩
      refine ⟨_, rfl, _, rfl, _, _, rfl, rfl, ⟨hm, hmd⟩, _, rfl, tp, _, _, _, rfl, rfl, upd_same, rfl, ?_⟩
      refine ⟨_, rfl, _, rfl, _, _, rfl, rfl, hm, ?_⟩
      refine k _ _ (Int.emod_nonneg _ (by omega)) (Int.emod_lt_of_pos _ hm) ⟨ns, spot', _, _, upd_same, ?_, h3, g3, g4⟩ ?_
      · rw [upd_ne hne, upd_ne hne]
        exact g2 _ _ h2 hne
      · exact (g2.trans (But.upd _ _ _)).trans (But.upd _ _ _)
    refine ⟨_, rfl, tp, _, _, _, rfl, rfl, SqL.of h1, rfl, rfl, _, rfl, ?_⟩
    by_cases hl : left = 0
    · subst hl
      refine iteP (by decide) ?_
      -- spot = tape[1]; tape[1] = spot + 1; cell = 0
      refine ⟨_, rfl, tp, _, _, _, rfl, rfl, SqL.of h1, rfl, ?_⟩
      refine ⟨_, rfl, _, _, rfl, rfl, _, rfl, tp, _, _, _, rfl, rfl, h1, rfl, ?_⟩
      -- the tape, one spot on
      have T1 : ∀ o, (upd H tp o) cl = some (.lst (ns.map V.int)) := fun o => by
        rw [upd_ne hne]
        exact h2
      -- behind the second test, the cell known
      have mid : ∀ (cell : Int) (b c : Option V), (tSeq (tIfS (tOr (tTest (tOp (rI0 fun i j => V.bl (decide (j ≤ i))) (tVar 2) (tCB (fun xs H Q => ∃ p ys, xs = [V.ref p] ∧ (SqL K H p ys ∨ SqT K H p ys) ∧ Q (.int ys.length) H) (tCons (tOp (rIxL K) (tVar 0) (tC (.int 0))) tNil))))
            (tTest (tOp (rI0 fun i j => V.bl (decide (i < j))) (tVar 3) (tOp (rI CPow fun i j => .int (i ^ j.toNat)) (tC (.int 10)) (tC (.int 18))))))
          (tSeq (tAsg (tOp (rI0 fun i j => V.int (i + j)) (tOp (rI0 fun i j => V.int (i + j)) (tOp (rI (fun _ j => 0 < j) fun i j => .int (i % j)) (tOp (rI CMul fun i j => .int (i * j)) (tVar 2) (tVar 2)) (tC (.int 10007))) (tOp (rI CMul fun i j => .int (i * j)) (tC (.int 61)) (tVar 2))) (tC (.int 7))) (gName 4))
          (tSeq (tAsg (tOp (rI (fun _ j => 0 < j) fun i j => .int (i % j)) (tOp (rI CMul fun i j => .int (i * j)) (tOp (rI0 fun i j => V.int (i + j)) (tOp (rI (fun _ j => 0 < j) fun i j => .int (i % j)) (tVar 3) (tC (.int 999983))) (tC (.int 3))) (tVar 4)) (tC (.int 1000003))) (gName 4))
          (tRet (tOp (rI (fun _ j => 0 < j) fun i j => .int (i % j)) (tOp (rI (fun _ j => 0 < j) fun i j => .int (i % j)) (tOp (rI0 fun i j => V.int (i + j)) (tOp (rI CDiv fun i j => .int (i / j)) (tOp (rI (fun _ j => 0 < j) fun i j => .int (i % j)) (tOp (rI CMul fun i j => .int (i * j)) (tVar 4) (tVar 4)) (tC (.int 999979))) (tC (.int 3))) (tOp (rI CMul fun i j => .int (i * j)) (tC (.int 131)) (tVar 2))) (tC (.int 99991))) (tVar 1)))))
          tNext)
          (tSeq (tAsg (tOp (rI0 fun i j => V.int (i - j)) (tVar 3) (tOp (rI CPow fun i j => .int (i ^ j.toNat)) (tC (.int 10)) (tC (.int 18)))) (gSub (tVar 0) (tC (.int 2)) rSetL))
          (tAsg (tC (.int 40)) (gSub (tVar 0) (tC (.int 3)) rSetL))))
          { nx := (tSeq (tAsg (tOp (rI0 fun i j => V.int (i - j)) (tOp (rIxL K) (tVar 0) (tC (.int 3))) (tC (.int 1))) (gSub (tVar 0) (tC (.int 3)) rSetL))
          (tSeq (tAsg (tOp (rIxL K) (tVar 0) (tC (.int 2))) (gName 5))
          (tSeq (tAsg (tOp (rI CDivL fun i j => .int (i / j)) (tVar 5) (tVar 1)) (gSub (tVar 0) (tC (.int 2)) rSetL))
          (tRet (tOp (rI (fun _ j => 0 < j) fun i j => .int (i % j)) (tVar 5) (tVar 1)))))) { nx := fun _ H' => Q .non H', rt := Q }, rt := Q } [some (.ref tp), some (.int many), some (.int spot), some (.int cell), b, c] (upd H tp (.lst [.ref cl, .int (spot + 1), .int rest, .int 0])) := by
        intro cell b c
        have pw : CPow 10 18 := ⟨by decide, by decide, by decide⟩
        have drawn : (tSeq (tAsg (tOp (rI0 fun i j => V.int (i + j)) (tOp (rI0 fun i j => V.int (i + j)) (tOp (rI (fun _ j => 0 < j) fun i j => .int (i % j)) (tOp (rI CMul fun i j => .int (i * j)) (tVar 2) (tVar 2)) (tC (.int 10007))) (tOp (rI CMul fun i j => .int (i * j)) (tC (.int 61)) (tVar 2))) (tC (.int 7))) (gName 4))
          (tSeq (tAsg (tOp (rI (fun _ j => 0 < j) fun i j => .int (i % j)) (tOp (rI CMul fun i j => .int (i * j)) (tOp (rI0 fun i j => V.int (i + j)) (tOp (rI (fun _ j => 0 < j) fun i j => .int (i % j)) (tVar 3) (tC (.int 999983))) (tC (.int 3))) (tVar 4)) (tC (.int 1000003))) (gName 4))
          (tRet (tOp (rI (fun _ j => 0 < j) fun i j => .int (i % j)) (tOp (rI (fun _ j => 0 < j) fun i j => .int (i % j)) (tOp (rI0 fun i j => V.int (i + j)) (tOp (rI CDiv fun i j => .int (i / j)) (tOp (rI (fun _ j => 0 < j) fun i j => .int (i % j)) (tOp (rI CMul fun i j => .int (i * j)) (tVar 4) (tVar 4)) (tC (.int 999979))) (tC (.int 3))) (tOp (rI CMul fun i j => .int (i * j)) (tC (.int 131)) (tVar 2))) (tC (.int 99991))) (tVar 1))))) { nx := fun _ _ => False, rt := Q } [some (.ref tp), some (.int many), some (.int spot), some (.int cell), b, c] (upd H tp (.lst [.ref cl, .int (spot + 1), .int rest, .int 0])) := by
          refine ⟨_, rfl, _, rfl, _, _, rfl, rfl, .inl ⟨by omega, by omega⟩, _, _, rfl, rfl, (by show (0 : Int) < _; decide), ?_⟩
          refine ⟨_, rfl, _, _, rfl, rfl, .inl ⟨by omega, by omega⟩, _, _, rfl, rfl, _, _, rfl, rfl, ?_⟩
          have c1 := Int.emod_nonneg cell (b := 999983) (by decide)
          have c2 := Int.emod_lt_of_pos cell (b := 999983) (by decide)
          refine ⟨_, rfl, _, _, rfl, rfl, (by show (0 : Int) < _; decide), _, _, rfl, rfl, _, rfl, _, _, rfl, rfl, .inl ⟨by omega, by omega⟩, _, _, rfl, rfl, (by show (0 : Int) < _; decide), ?_⟩
          generalize hx : ((cell % 999983 + 3) * (spot * spot % 10007 + 61 * spot + 7)) = x
          have d1 := Int.emod_nonneg x (b := 1000003) (by decide)
          have d2 := Int.emod_lt_of_pos x (b := 1000003) (by decide)
          refine ⟨_, rfl, _, rfl, _, _, rfl, rfl, .inl ⟨by omega, by omega⟩, _, _, rfl, rfl, (by show (0 : Int) < _; decide), _, _, rfl, rfl, ⟨by decide, by decide⟩, ?_⟩
          refine ⟨_, rfl, _, _, rfl, rfl, .inl ⟨by decide, by decide⟩, _, _, rfl, rfl, _, _, rfl, rfl, (by show (0 : Int) < _; decide), _, rfl, _, _, rfl, rfl, hm, ?_⟩
          exact k _ _ (Int.emod_nonneg _ (by omega)) (Int.emod_lt_of_pos _ hm) ⟨ns, spot + 1, _, _, upd_same, T1 _, h3, by omega, by omega⟩ (But.upd _ _ _)
        refine ⟨_, rfl, _, rfl, tp, _, _, _, rfl, rfl, SqL.of upd_same, rfl, cl, _, rfl, .inl (SqL.of (T1 _)), _, _, rfl, rfl, _, rfl, ?_⟩
        by_cases z1 : ((ns.map V.int).length : Int) ≤ spot
        · refine iteP (decide_eq_true z1) (iteT ?_)
          exact drawn
        · refine iteN (decide_eq_false z1) ?_
          refine ⟨_, rfl, _, _, rfl, rfl, pw, _, _, rfl, rfl, _, rfl, ?_⟩
          by_cases z2 : cell < (10 : Int) ^ (18 : Int).toNat
          · refine iteP (decide_eq_true z2) ?_
            exact drawn
          · refine iteN (decide_eq_false z2) ?_
            refine ⟨_, rfl, _, _, rfl, rfl, pw, _, _, rfl, rfl, _, rfl, tp, _, _, _, rfl, rfl, upd_same, rfl, ?_⟩
            refine ⟨_, rfl, tp, _, _, _, rfl, rfl, upd_same, rfl, ?_⟩
            exact tail (spot + 1) _ 40 _ _ _ _ _ upd_same (((But.upd _ _ _).trans (But.upd _ _ _)).trans (But.upd _ _ _)) (by omega) (by omega)
      refine ⟨_, rfl, tp, _, _, _, rfl, rfl, SqL.of upd_same, rfl, cl, _, rfl, .inl (SqL.of (T1 _)), _, _, rfl, rfl, _, rfl, ?_⟩
      by_cases hn : (0 : Int) < ((ns.map V.int).length : Int)
      · refine iteP (decide_eq_true hn) ?_
        obtain ⟨c, hc⟩ := at_ints (ns := ns) (i := spot % ((ns.map V.int).length : Int)) (Int.emod_nonneg _ (by omega)) (by have := Int.emod_lt_of_pos spot hn; rw [List.length_map] at this ⊢; exact this)
        refine ⟨_, rfl, tp, _, _, _, rfl, rfl, SqL.of upd_same, rfl, _, rfl, _, rfl, tp, _, _, _, rfl, rfl, SqL.of upd_same, rfl, cl, _, rfl, .inl (SqL.of (T1 _)), _, _, rfl, rfl, hn, cl, _, _, _, rfl, rfl, SqL.of (T1 _), hc, ?_⟩
        exact mid c _ _
      · refine iteN (decide_eq_false hn) ?_
        exact mid 0 _ _
    · refine iteN (decide_eq_false (by intro z; injection z with z; exact hl z)) ?_
      exact tail spot rest left _ _ _ _ H h1 (But.refl _ _) h4 (by omega)
end
end Lw

namespace Lw
open PySem PySem.Spec PyProof.Rows L2
structure FrOk (n : Nat) (t b : Int) : Prop where
  pos : 0 < b
  low : Int.gcd t b = 1
  st : t.natAbs < 2 ^ n
  sb : b.natAbs < 2 ^ n
noncomputable def At2 (H : Hp) (p : Addr) (t b : Int) : Prop := H p = some (.tup [.int t, .int b])
theorem abs_up {a : Int} {m n : Nat} (ha : a.natAbs < 2 ^ m) (h : m ≤ n) : a.natAbs < 2 ^ n := Nat.lt_of_lt_of_le ha (Nat.pow_le_pow_right (by decide) h)
theorem abs_div {a g : Int} {n : Nat} (ha : a.natAbs < 2 ^ n) (hg : 1 ≤ g) : (a / g).natAbs < 2 ^ n := Nat.lt_of_le_of_lt (LwM.ediv_abs a g hg) ha
theorem low_posT {t b : Int} (h : 0 < b) : lowT t b = t / (Int.gcd t b : Int) := (low_pos h).1
theorem low_posB {t b : Int} (h : 0 < b) : lowB t b = b / (Int.gcd t b : Int) := (low_pos h).2
end Lw

namespace Lw
open PySem PySem.Spec PyProof.Rows L2
structure FrS (t b : Int) : Prop where
  pos : 0 < b
  low : Int.gcd t b = 1
  st : t.natAbs < 2 ^ 100
  sb : b.natAbs < 2 ^ 97
section
variable {P : Program} {w : World} {K : PySem.W.Frag} {mg : Str → Option Value} {base : Heap} {f fd : _}
noncomputable def spDrawn (c M : Int) : Sp := fun vs H Q _ => ∃ (tp : Addr) (B : Int), vs = [.ref tp] ∧ ∃ cl, Tape cl H tp B ∧ B < M ∧
  ∀ (r : Addr) (t b : Int) (H' : Hp), FrS t b → At2 H' r t b → r ≠ tp → Tape cl H' tp (B + c) → But tp H H' → (∀ c o, H c = some o → c ≠ r) → Q (.ref r) H'
theorem low_fr {t b : Int} (hb : 0 < b) (ht : t.natAbs < 2 ^ 100) (hs : b.natAbs < 2 ^ 97) : FrS (lowT t b) (lowB t b) := by
  have g1 := LwM.gcd_pos t b hb
  have gp : 0 < Int.gcd t b := by omega
  rw [low_posT hb, low_posB hb]
  refine ⟨?_, Int.gcd_ediv_gcd_ediv_gcd gp, abs_div ht g1, abs_div hs g1⟩
  exact Int.ediv_pos_of_pos_of_dvd hb (by omega) (Int.gcd_dvd_right ..)
theorem tape_ne {cl : Addr} {H : Hp} {tp r : Addr} {B : Int} (T : Tape cl H tp B) (n : H r = none) : r ≠ tp := by
  obtain ⟨ns, spot, rest, left, z, _⟩ := T
  rintro rfl
  rw [n] at z
  cases z
theorem none_of_but {p : Addr} {H H' : Hp} {r : Addr} (b : But p H H') (n : H' r = none) (hr : r ≠ p) : H r = none := by
  cases q : H r with
  | none => rfl
  | some o => rw [b r o q hr] at n; cases n
theorem scNumber : FnScope ["tape", "way", "top", "great"] ["tape"] (defScope sNumber) := ⟨rfl, rfl, rfl, by decide +kernel, rfl, by decide +kernel, by decide +kernel⟩
theorem ok_number {fD fL : Addr} {fdD fdL : FuncData} (F : Fun K "_law_number" "_law_number" sNumber f fd) (T : Txt mg) (DD : Df K mg "_law_draw" sDraw ["tape", "many"] fD fdD) (DL : Df K mg "_law_low" sLow ["top", "bottom"] fL fdL) : FnOk P w K mg base CX0 2 f fd ["tape"] (spDrawn 6 (2 ^ 38)) := by
  have GD : FnOk P w K mg base CX0 1 fD fdD ["tape", "many"] spDraw := ok_draw DD.F T
  have GL : FnOk P w K mg base CX0 1 fL fdL ["top", "bottom"] spLow := ok_low DL.F T
  refine F.ok scNumber (fun vs H Q E h => ?_) (fun cdv A outer s H vs Q E hr h => ?_)
  · obtain ⟨tp, B, rfl, _⟩ := h
    rfl
  · obtain ⟨tp, B, rfl, cl, hT, hB, k⟩ := h
    refine ⟨_, pss_cons (ps_set (i := 1) scNumber.nd rfl (Or.inl rfl) (pe_call GD hr rfl DD.m DD.F.kp DD.b .nil pass0 (pa_cons (pv 0) (pa_cons pe_int pa_nil))))
      (pss_cons (ps_set (i := 2) scNumber.nd rfl (Or.inl rfl) (pe_op op_sub (pe_call GD hr rfl DD.m DD.F.kp DD.b .nil pass0 (pa_cons (pv 0) (pa_cons pe_int pa_nil))) pe_int))
      (pss_cons (ps_if (pt_cmpR op_lt (pv 1) pe_int (nomark _)) (pss_one (ps_ret (pe_tupF (pa_cons (pv 2) (pa_cons pe_int pa_nil))))) pss_nil)
      (pss_cons (ps_if (pt_cmpR op_lt (pv 1) pe_int (nomark _)) (pss_one (ps_ret (pe_call GL hr rfl DL.m DL.F.kp DL.b .nil pass0 (pa_cons (pv 2) (pa_cons (pe_op op_add pe_int (pe_call GD hr rfl DD.m DD.F.kp DD.b .nil pass0 (pa_cons (pv 0) (pa_cons pe_int pa_nil)))) pa_nil))))) pss_nil)
      (pss_cons (ps_set (i := 3) scNumber.nd rfl (Or.inl rfl) (pe_op op_mul (pe_call GD hr rfl DD.m DD.F.kp DD.b .nil pass0 (pa_cons (pv 0) (pa_cons (pe_op op_pow pe_int pe_int) pa_nil))) (pe_op op_sub pe_int (pe_op op_mul pe_int (pe_call GD hr rfl DD.m DD.F.kp DD.b .nil pass0 (pa_cons (pv 0) (pa_cons pe_int pa_nil)))))))
      (pss_one (ps_ret (pe_call GL hr rfl DL.m DL.F.kp DL.b .nil pass0 (pa_cons (pv 3) (pa_cons (pe_op op_add pe_int (pe_call GD hr rfl DD.m DD.F.kp DD.b .nil pass0 (pa_cons (pv 0) (pa_cons (pe_op op_pow pe_int pe_int) pa_nil)))) pa_nil)))))))))
      , ?_⟩
    refine ⟨_, rfl, tp, 24, B, rfl, _, hT, by omega, by decide, by decide, fun way H1 w0 w1 T1 b1 => ?_⟩
    refine ⟨_, rfl, tp, 13, _, rfl, _, T1, by omega, by decide, by decide, fun top H2 t0 t1 T2 b2 => ⟨_, _, rfl, rfl, ?_⟩⟩
    have p10 : ∀ n : Int, 0 ≤ n → n ≤ 1000000 → CPow 10 n := fun n h0 h1 => ⟨h0, h1, by decide⟩
    -- a lowest pair, told
    have tell : ∀ (t b B' : Int) (H3 : Hp), 0 < b → t.natAbs < 2 ^ 100 → b.natAbs < 2 ^ 97 → Tape cl H3 tp B' → B' ≤ B + 6 → But tp H H3 → spLow [.int t, .int b] H3 Q E0 := by
      intro t b B' H3 hb ht hs T3 hB' b3
      refine ⟨t, b, rfl, by omega, .inl (abs_up hs (by decide)), fun p H4 n4 s4 e4 => ?_⟩
      refine k p _ _ H4 (low_fr hb ht hs) e4 (tape_ne T3 n4) (T3.mono s4 (by omega)) (b3.trans (But.of s4)) (fun c o hc hp => ?_)
      subst hp
      have := none_of_but b3 n4 (tape_ne T3 n4)
      rw [hc] at this
      cases this
    refine ⟨_, rfl, _, _, rfl, rfl, _, rfl, ?_⟩
    refine ite2 (fun _ => ?_) (fun _ => ?_)
    · refine ⟨_, rfl, (by show 2 ≤ sizeLine; decide), fun p H3 n3 s3 e3 => ?_⟩
      refine k p (top - 6) 1 H3 ⟨by decide, by simp, by omega, by decide⟩ e3 (tape_ne T2 n3) (T2.mono s3 (by omega)) ((b1.trans b2).trans (But.of s3)) (fun c o hc hp => ?_)
      subst hp
      have := none_of_but (b1.trans b2) n3 (tape_ne T2 n3)
      rw [hc] at this
      cases this
    · refine ⟨_, rfl, _, _, rfl, rfl, _, rfl, ?_⟩
      refine ite2 (fun _ => ?_) (fun _ => ?_)
      · refine ⟨_, rfl, _, rfl, tp, 7, _, rfl, _, T2, by omega, by decide, by decide, fun c H3 c0 c1 T3 b3 => ⟨_, _, rfl, rfl, ?_⟩⟩
        exact tell _ _ _ H3 (by omega) (by omega) (by omega) T3 (by omega) ((b1.trans b2).trans b3)
      · refine ⟨_, rfl, _, _, rfl, rfl, p10 12 (by decide) (by decide), tp, _, _, rfl, _, T2, by omega, by decide, by decide, fun g H3 g0 g1 T3 b3 => ?_⟩
        refine ⟨_, rfl, tp, 2, _, rfl, _, T3, by omega, by decide, by decide, fun r H4 r0 r1 T4 b4 => ?_⟩
        refine ⟨_, _, rfl, rfl, .inl ⟨by decide, by decide⟩, _, _, rfl, rfl, _, _, rfl, rfl, .inr ⟨by omega, by omega⟩, ?_⟩
        refine ⟨_, rfl, _, rfl, _, _, rfl, rfl, p10 4 (by decide) (by decide), tp, _, _, rfl, _, T4, by omega, by decide, by decide, fun c H5 c0 c1 T5 b5 => ⟨_, _, rfl, rfl, ?_⟩⟩
        have e12 : (10 : Int) ^ (12 : Int).toNat = 1000000000000 := by decide +kernel
        have e4 : (10 : Int) ^ (4 : Int).toNat = 10000 := by decide +kernel
        rw [e12] at g1
        rw [e4] at c1
        have hr2 : r = 0 ∨ r = 1 := by omega
        refine tell _ _ _ H5 (by omega) ?_ (by omega) T5 (by omega) ((((b1.trans b2).trans b3).trans b4).trans b5)
        rcases hr2 with rfl | rfl
        · simp only [Int.mul_zero, Int.sub_zero, Int.mul_one]
          omega
        · rw [show (1 : Int) - 2 * 1 = -1 by decide, Int.mul_neg, Int.mul_one, Int.natAbs_neg]
          omega
theorem scFraction : FnScope ["tape", "top", "bottom"] ["tape"] (defScope sFraction) := ⟨rfl, rfl, rfl, by decide +kernel, rfl, by decide +kernel, by decide +kernel⟩
theorem ok_fraction {fD fL fN : Addr} {fdD fdL fdN : FuncData} (F : Fun K "_law_fraction" "_law_fraction" sFraction f fd) (T : Txt mg) (DD : Df K mg "_law_draw" sDraw ["tape", "many"] fD fdD) (DL : Df K mg "_law_low" sLow ["top", "bottom"] fL fdL)
    (DN : Df K mg "_law_number" sNumber ["tape"] fN fdN) : FnOk P w K mg base CX0 3 f fd ["tape"] (spDrawn 7 (2 ^ 37)) := by
  have GD : FnOk P w K mg base CX0 1 fD fdD ["tape", "many"] spDraw := ok_draw DD.F T
  have GL : FnOk P w K mg base CX0 1 fL fdL ["top", "bottom"] spLow := ok_low DL.F T
  have GN : FnOk P w K mg base CX0 2 fN fdN ["tape"] (spDrawn 6 (2 ^ 38)) := ok_number DN.F T DD DL
  refine F.ok scFraction (fun vs H Q E h => ?_) (fun cdv A outer s H vs Q E hr h => ?_)
  · obtain ⟨tp, B, rfl, _⟩ := h
    rfl
  · obtain ⟨tp, B, rfl, cl, hT, hB, k⟩ := h
    have hr1 : Room 1 _ := hr.mono (by decide)
    refine ⟨_, pss_cons (ps_if (pt_cmpR op_gt (pe_call GD hr1 rfl DD.m DD.F.kp DD.b .nil pass0 (pa_cons (pv 0) (pa_cons pe_int pa_nil))) pe_int (nomark _)) (pss_one (ps_ret (pe_call GN hr rfl DN.m DN.F.kp DN.b .nil pass0 (pa_cons (pv 0) pa_nil)))) pss_nil)
      (pss_cons (ps_set (i := 1) scFraction.nd rfl (Or.inl rfl) (pe_op op_add (pe_op op_mul (pe_call GD hr1 rfl DD.m DD.F.kp DD.b .nil pass0 (pa_cons (pv 0) (pa_cons (pe_op op_pow pe_int pe_int) pa_nil))) (pe_op op_pow pe_int pe_int)) (pe_call GD hr1 rfl DD.m DD.F.kp DD.b .nil pass0 (pa_cons (pv 0) (pa_cons (pe_op op_pow pe_int pe_int) pa_nil)))))
      (pss_cons (ps_set (i := 2) scFraction.nd rfl (Or.inl rfl) (pe_op op_add (pe_op op_add pe_int (pe_op op_mul (pe_call GD hr1 rfl DD.m DD.F.kp DD.b .nil pass0 (pa_cons (pv 0) (pa_cons (pe_op op_pow pe_int pe_int) pa_nil))) (pe_op op_pow pe_int pe_int))) (pe_call GD hr1 rfl DD.m DD.F.kp DD.b .nil pass0 (pa_cons (pv 0) (pa_cons (pe_op op_pow pe_int pe_int) pa_nil)))))
      (pss_one (ps_ret (pe_call GL hr1 rfl DL.m DL.F.kp DL.b .nil pass0 (pa_cons (pe_op op_mul (pv 1) (pe_op op_sub pe_int (pe_op op_mul pe_int (pe_call GD hr1 rfl DD.m DD.F.kp DD.b .nil pass0 (pa_cons (pv 0) (pa_cons pe_int pa_nil)))))) (pa_cons (pv 2) pa_nil))))))), ?_⟩
    have p10 : ∀ n : Int, 0 ≤ n → n ≤ 1000000 → CPow 10 n := fun n h0 h1 => ⟨h0, h1, by decide⟩
    have e15 : (10 : Int) ^ (15 : Int).toNat = 1000000000000000 := by decide +kernel
    have e14 : (10 : Int) ^ (14 : Int).toNat = 100000000000000 := by decide +kernel
    refine ⟨_, rfl, tp, 4, B, rfl, _, hT, by omega, by decide, by decide, fun c H1 c0 c1 T1 b1 => ⟨_, _, rfl, rfl, _, rfl, ?_⟩⟩
    refine ite2 (fun _ => ?_) (fun _ => ?_)
    · refine ⟨_, rfl, tp, _, rfl, _, T1, by omega, fun r t b H2 fr e2 hn T2 b2 nw => ?_⟩
      refine k r t b H2 fr e2 hn (T2.mono (Same.refl _) (by omega)) (b1.trans b2) (fun c o hc hp => ?_)
      by_cases hcp : c = tp
      · exact hn (hp ▸ hcp)
      · exact nw c o (b1 _ _ hc hcp) hp
    · refine ⟨_, rfl, _, _, rfl, rfl, p10 15 (by decide) (by decide), tp, _, _, rfl, _, T1, by omega, by decide, by decide, fun x1 H2 x10 x11 T2 b2 => ?_⟩
      rw [e15] at x11
      refine ⟨_, _, rfl, rfl, p10 15 (by decide) (by decide), _, _, rfl, rfl, .inl ⟨by omega, by omega⟩, ?_⟩
      refine ⟨_, rfl, _, _, rfl, rfl, p10 15 (by decide) (by decide), tp, _, _, rfl, _, T2, by omega, by decide, by decide, fun x2 H3 x20 x21 T3 b3 => ⟨_, _, rfl, rfl, ?_⟩⟩
      rw [e15] at x21
      refine ⟨_, rfl, _, _, rfl, rfl, p10 15 (by decide) (by decide), tp, _, _, rfl, _, T3, by omega, by decide, by decide, fun y1 H4 y10 y11 T4 b4 => ?_⟩
      rw [e15] at y11
      refine ⟨_, _, rfl, rfl, p10 14 (by decide) (by decide), _, _, rfl, rfl, .inl ⟨by omega, by omega⟩, _, _, rfl, rfl, ?_⟩
      refine ⟨_, rfl, _, _, rfl, rfl, p10 14 (by decide) (by decide), tp, _, _, rfl, _, T4, by omega, by decide, by decide, fun y2 H5 y20 y21 T5 b5 => ⟨_, _, rfl, rfl, ?_⟩⟩
      rw [e14] at y21
      rw [e15, e14]
      refine ⟨_, rfl, _, rfl, tp, 2, _, rfl, _, T5, by omega, by decide, by decide, fun r H6 r0 r1 T6 b6 => ?_⟩
      refine ⟨_, _, rfl, rfl, .inl ⟨by decide, by decide⟩, _, _, rfl, rfl, _, _, rfl, rfl, .inr ⟨by omega, by omega⟩, ?_⟩
      have hr2 : r = 0 ∨ r = 1 := by omega
      have bb := ((((b1.trans b2).trans b3).trans b4).trans b5).trans b6
      have ht : ((x1 * 1000000000000000 + x2) * (1 - 2 * r)).natAbs < 2 ^ 100 := by
        rcases hr2 with rfl | rfl
        · simp only [Int.mul_zero, Int.sub_zero, Int.mul_one]
          omega
        · rw [show (1 : Int) - 2 * 1 = -1 by decide, Int.mul_neg, Int.mul_one, Int.natAbs_neg]
          omega
      refine ⟨_, rfl, _, _, rfl, by omega, ?_, fun p H7 n7 s7 e7 => ?_⟩
      · exact .inl (abs_up (m := 97) (by omega) (by decide))
      · refine k p _ _ H7 (low_fr (by omega) ht (by omega)) e7 (tape_ne T6 n7) (T6.mono s7 (by omega)) (bb.trans (But.of s7)) (fun c o hc hp => ?_)
        subst hp
        have := none_of_but bb n7 (tape_ne T6 n7)
        rw [hc] at this
        cases this
end
end Lw

namespace LwQ
theorem ratio_plus {t b o u t' b' : Int} {R1 R2 : Nat} (hb : 0 < b) (hu : 0 < u) (h : t' * (b * u) = (t * u + o * b) * b') (h1 : t.natAbs ≤ R1 * b.natAbs) (h2 : o.natAbs ≤ R2 * u.natAbs) : t'.natAbs ≤ (R1 + R2) * b'.natAbs := by
  have e := congrArg Int.natAbs h
  rw [Int.natAbs_mul, Int.natAbs_mul, Int.natAbs_mul] at e
  have k : (t * u + o * b).natAbs ≤ (R1 + R2) * (b.natAbs * u.natAbs) := by
    refine Nat.le_trans (Int.natAbs_add_le _ _) ?_
    rw [Int.natAbs_mul, Int.natAbs_mul, Nat.add_mul]
    refine Nat.add_le_add ?_ ?_
    · calc t.natAbs * u.natAbs ≤ R1 * b.natAbs * u.natAbs := Nat.mul_le_mul_right _ h1
        _ = R1 * (b.natAbs * u.natAbs) := Nat.mul_assoc ..
    · calc o.natAbs * b.natAbs ≤ R2 * u.natAbs * b.natAbs := Nat.mul_le_mul_right _ h2
        _ = R2 * (b.natAbs * u.natAbs) := by rw [Nat.mul_assoc, Nat.mul_comm u.natAbs]
  have p : 0 < b.natAbs * u.natAbs := Nat.mul_pos (by omega) (by omega)
  refine Nat.le_of_mul_le_mul_right ?_ p
  rw [e]
  calc (t * u + o * b).natAbs * b'.natAbs ≤ (R1 + R2) * (b.natAbs * u.natAbs) * b'.natAbs := Nat.mul_le_mul_right _ k
    _ = (R1 + R2) * b'.natAbs * (b.natAbs * u.natAbs) := by grind
theorem up_bits {a : Int} {m n : Nat} (ha : a.natAbs ≤ 2 ^ m) (h : m ≤ n) : a.natAbs ≤ 2 ^ n := Nat.le_trans ha (Nat.pow_le_pow_right (by decide) h)
end LwQ

namespace Lw
open PySem PySem.Spec PyProof.Rows L2 LwQ
noncomputable def spPlus : Sp := fun vs H Q _ => ∃ (p q : Addr) (t b o u : Int), vs = [.ref p, .ref q] ∧ At2 H p t b ∧ At2 H q o u ∧ 0 < b ∧ 0 < u ∧ t.natAbs < 2 ^ 50000 ∧ b.natAbs < 2 ^ 50000 ∧ o.natAbs < 2 ^ 50000 ∧ u.natAbs < 2 ^ 8000 ∧
  ∀ (r : Addr) (t' b' : Int) (H' : Hp), H r = none → Same H H' → At2 H' r t' b' → 0 < b' → b'.natAbs ≤ b.natAbs * u.natAbs → t' * (b * u) = (t * u + o * b) * b' → Q (.ref r) H'
theorem mod_div {b u : Int} (h : decide (V.int (b % u) = V.int 0) = true) : b = u * (b / u) := by
  have e : b % u = 0 := by
    have := of_decide_eq_true h
    injection this
  have := Int.mul_ediv_add_emod b u
  omega
section
variable {P : Program} {w : World} {K : PySem.W.Frag} {mg : Str → Option Value} {base : Heap} {f fd : _}
theorem scPlus : FnScope ["one", "other", "top"] ["one", "other"] (defScope sPlus) := ⟨rfl, rfl, rfl, by decide +kernel, rfl, by decide +kernel, by decide +kernel⟩
theorem ok_plus (F : Fun K "_law_plus" "_law_plus" sPlus f fd) : FnOk P w K mg base CX0 1 f fd ["one", "other"] spPlus := by
  refine F.ok scPlus (fun vs H Q E h => ?_) (fun cdv A outer s H vs Q E hr h => ?_)
  · obtain ⟨p, q, t, b, o, u, rfl, _⟩ := h
    rfl
  · obtain ⟨p, q, t, b, o, u, rfl, hp, hq, hb, hu, st, sb, so, su, k⟩ := h
    refine ⟨_, pss_cons (ps_if (pt_cmpR op_eq (pe_op op_mod (pe_ix ix_tup (pv 0) pe_int (fun _ _ => rfl)) (pe_ix ix_tup (pv 1) pe_int (fun _ _ => rfl))) pe_int (nomark _))
        (pss_one (ps_ret (pe_tupF (pa_cons (pe_op op_add (pe_ix ix_tup (pv 0) pe_int (fun _ _ => rfl)) (pe_op op_mulL (pe_ix ix_tup (pv 1) pe_int (fun _ _ => rfl)) (pe_op op_fdivL (pe_ix ix_tup (pv 0) pe_int (fun _ _ => rfl)) (pe_ix ix_tup (pv 1) pe_int (fun _ _ => rfl))))) (pa_cons (pe_ix ix_tup (pv 0) pe_int (fun _ _ => rfl)) pa_nil))))) pss_nil)
      (pss_cons (ps_if (pt_cmpR op_eq (pe_op op_mod (pe_ix ix_tup (pv 1) pe_int (fun _ _ => rfl)) (pe_ix ix_tup (pv 0) pe_int (fun _ _ => rfl))) pe_int (nomark _))
        (pss_one (ps_ret (pe_tupF (pa_cons (pe_op op_add (pe_ix ix_tup (pv 1) pe_int (fun _ _ => rfl)) (pe_op op_mulL (pe_ix ix_tup (pv 0) pe_int (fun _ _ => rfl)) (pe_op op_fdivL (pe_ix ix_tup (pv 1) pe_int (fun _ _ => rfl)) (pe_ix ix_tup (pv 0) pe_int (fun _ _ => rfl))))) (pa_cons (pe_ix ix_tup (pv 1) pe_int (fun _ _ => rfl)) pa_nil))))) pss_nil)
      (pss_cons (ps_set (i := 2) scPlus.nd rfl (Or.inl rfl) (pe_op op_add (pe_op op_mulL (pe_ix ix_tup (pv 0) pe_int (fun _ _ => rfl)) (pe_ix ix_tup (pv 1) pe_int (fun _ _ => rfl))) (pe_op op_mulL (pe_ix ix_tup (pv 1) pe_int (fun _ _ => rfl)) (pe_ix ix_tup (pv 0) pe_int (fun _ _ => rfl)))))
      (pss_one (ps_ret (pe_tupF (pa_cons (pv 2) (pa_cons (pe_op op_mulL (pe_ix ix_tup (pv 0) pe_int (fun _ _ => rfl)) (pe_ix ix_tup (pv 1) pe_int (fun _ _ => rfl))) pa_nil))))))), ?_⟩
    have P := SqT.of (K := K) hp
    have R := SqT.of (K := K) hq
    have d1 : (b / u).natAbs < 2 ^ 100000 := abs_up (abs_div sb hu) (by decide)
    have d2 : (u / b).natAbs < 2 ^ 100000 := abs_up (abs_div su hb) (by decide)
    have st' : t.natAbs < 2 ^ 100000 := abs_up st (by decide)
    have sb' : b.natAbs < 2 ^ 100000 := abs_up sb (by decide)
    have so' : o.natAbs < 2 ^ 100000 := abs_up so (by decide)
    have su' : u.natAbs < 2 ^ 100000 := abs_up su (by decide)
    have lb : b.natAbs ≤ b.natAbs * u.natAbs := Nat.le_mul_of_pos_right _ (by omega)
    have lu : u.natAbs ≤ b.natAbs * u.natAbs := Nat.le_mul_of_pos_left _ (by omega)
    refine ⟨_, rfl, p, _, _, _, rfl, rfl, P, rfl, _, rfl, q, _, _, _, rfl, rfl, R, rfl, _, _, rfl, rfl, hu, rfl, _, rfl, ?_⟩
    refine ite2 (fun e => ?_) (fun _ => ?_)
    · refine ⟨_, rfl, p, _, _, _, rfl, rfl, P, rfl, _, rfl, q, _, _, _, rfl, rfl, R, rfl, _, rfl, p, _, _, _, rfl, rfl, P, rfl, _, rfl, q, _, _, _, rfl, rfl, R, rfl, _, _, rfl, rfl, ⟨hu, su⟩, _, _, rfl, rfl, ⟨so', d1⟩, _, _, rfl, rfl, _, rfl, p, _, _, _, rfl, rfl, P, rfl, (by show 2 ≤ sizeLine; decide), fun r H1 n1 s1 e1 => ?_⟩
      refine k r _ _ H1 n1 s1 e1 hb lb ?_
      have m := mod_div e
      generalize b / u = x at m
      subst m
      grind
    refine ⟨_, rfl, q, _, _, _, rfl, rfl, R, rfl, _, rfl, p, _, _, _, rfl, rfl, P, rfl, _, _, rfl, rfl, hb, rfl, _, rfl, ?_⟩
    refine ite2 (fun e => ?_) (fun _ => ?_)
    · have m := mod_div e
      have bu : b.natAbs < 2 ^ 8000 := by
        have : b ∣ u := ⟨_, m⟩
        have := Int.le_of_dvd hu this
        exact Nat.lt_of_le_of_lt (by omega) su
      refine ⟨_, rfl, q, _, _, _, rfl, rfl, R, rfl, _, rfl, p, _, _, _, rfl, rfl, P, rfl, _, rfl, q, _, _, _, rfl, rfl, R, rfl, _, rfl, p, _, _, _, rfl, rfl, P, rfl, _, _, rfl, rfl, ⟨hb, bu⟩, _, _, rfl, rfl, ⟨st', d2⟩, _, _, rfl, rfl, _, rfl, q, _, _, _, rfl, rfl, R, rfl, (by show 2 ≤ sizeLine; decide), fun r H1 n1 s1 e1 => ?_⟩
      refine k r _ _ H1 n1 s1 e1 hu lu ?_
      generalize u / b = x at m
      subst m
      grind
    · refine ⟨_, rfl, p, _, _, _, rfl, rfl, P, rfl, _, rfl, q, _, _, _, rfl, rfl, R, rfl, _, _, rfl, rfl, ⟨st', su'⟩, _, rfl, q, _, _, _, rfl, rfl, R, rfl, _, rfl, p, _, _, _, rfl, rfl, P, rfl, _, _, rfl, rfl, ⟨so', sb'⟩, _, _, rfl, rfl, ?_⟩
      refine ⟨_, rfl, _, rfl, p, _, _, _, rfl, rfl, P, rfl, _, rfl, q, _, _, _, rfl, rfl, R, rfl, _, _, rfl, rfl, ⟨sb', su'⟩, (by show 2 ≤ sizeLine; decide), fun r H1 n1 s1 e1 => ?_⟩
      exact k r _ _ H1 n1 s1 e1 (Int.mul_pos hb hu) (Nat.le_of_eq (Int.natAbs_mul _ _)) rfl
end
end Lw

namespace Lw
open PySem PySem.Spec PyProof.Rows L2 LwQ
structure Ent where
  ns : List Int
  c : Addr
  t : Int
  b : Int
  k : Nat
noncomputable def Ent.kv (e : Ent) : List Key × V := (LwD.ik e.ns, .ref e.c)
structure EntOk (H : Hp) (many : Nat) (e : Ent) : Prop where
  len : e.ns.length = many
  nn : ∀ n ∈ e.ns, 0 ≤ n
  deg : e.ns.sum ≤ 16
  at' : At2 H e.c e.t e.b
  pos : 0 < e.b
  nz : e.t ≠ 0
  k1 : 1 ≤ e.k
  sb : e.b.natAbs ≤ 2 ^ (97 * e.k)
  st : e.t.natAbs ≤ e.k * 2 ^ 100 * e.b.natAbs
theorem EntOk.map {H H' : Hp} {many : Nat} {e : Ent} (h : EntOk H many e) (k : ∀ a xs, H a = some (.tup xs) → H' a = some (.tup xs)) : EntOk H' many e := ⟨h.len, h.nn, h.deg, k _ _ h.at', h.pos, h.nz, h.k1, h.sb, h.st⟩
structure DictE (H : Hp) (d : Addr) (many i : Nat) (E : List Ent) : Prop where
  at' : H d = some (.dT (E.map Ent.kv))
  nd : (E.map Ent.ns).Nodup
  each : ∀ e ∈ E, EntOk H many e
  sum : (E.map Ent.k).sum ≤ i
theorem ent_len : ∀ {E : List Ent}, (∀ e ∈ E, 1 ≤ e.k) → E.length ≤ (E.map Ent.k).sum
  | [], _ => Nat.le_refl _
  | e :: r, h => by
    have ih := ent_len fun x hx => h x (List.mem_cons_of_mem _ hx)
    have := h e (List.mem_cons_self ..)
    simp only [List.map_cons, List.sum_cons, List.length_cons]
    omega
theorem DictE.few {H : Hp} {d : Addr} {many i : Nat} {E : List Ent} (h : DictE H d many i E) : E.length ≤ i := Nat.le_trans (ent_len fun e he => (h.each e he).k1) h.sum
theorem ik_inj {ns ms : List Int} (h : LwD.ik ns = LwD.ik ms) : ns = ms := by
  have := congrArg (List.map kV) h
  rw [LwD.ik_map, LwD.ik_map] at this
  exact (List.map_inj_right (f := V.int) (fun a b e => by injection e)).mp this
section
variable {k : List Key} {v v0 : V} {L R l : List (List Key × V)}
theorem val_out (h : ∀ p ∈ l, p.1 ≠ k) : valV l k = none := by
  unfold valV
  rw [List.find?_eq_none.mpr fun p hp => by simp [h p hp]]
  rfl
theorem val_mid (h : ∀ p ∈ L, p.1 ≠ k) : valV (L ++ (k, v) :: R) k = some v := by
  unfold valV
  rw [List.find?_append, List.find?_eq_none.mpr fun p hp => by simp [h p hp]]
  simp
theorem put_out (h : ∀ p ∈ l, p.1 ≠ k) : putK l k v = l ++ [(k, v)] := by
  unfold putK
  rw [if_neg]
  intro z
  obtain ⟨p, hp, e⟩ := List.any_eq_true.mp z
  exact h p hp (of_decide_eq_true e)
theorem map_out (h : ∀ p ∈ l, p.1 ≠ k) : l.map (fun kv => if kv.1 = k then (kv.1, v) else kv) = l := by
  conv => rhs; rw [← List.map_id l]
  exact List.map_congr_left fun p hp => by rw [if_neg (h p hp)]; rfl
theorem put_mid (h1 : ∀ p ∈ L, p.1 ≠ k) (h2 : ∀ p ∈ R, p.1 ≠ k) : putK (L ++ (k, v0) :: R) k v = L ++ (k, v) :: R := by
  unfold putK
  rw [if_pos (by simp), List.map_append, List.map_cons, map_out h1, map_out h2]
  simp
theorem drop_mid (h1 : ∀ p ∈ L, p.1 ≠ k) (h2 : ∀ p ∈ R, p.1 ≠ k) : dropK (L ++ (k, v0) :: R) k = L ++ R := by
  unfold dropK
  rw [List.filter_append, List.filter_cons, List.filter_eq_self.mpr (fun p hp => decide_eq_true (h1 p hp)), List.filter_eq_self.mpr (fun p hp => decide_eq_true (h2 p hp))]
  simp
end
theorem key_ne {E : List Ent} {ns : List Int} (h : ns ∉ E.map Ent.ns) : ∀ p ∈ E.map Ent.kv, p.1 ≠ LwD.ik ns := by
  intro p hp z
  obtain ⟨e, he, rfl⟩ := List.mem_map.mp hp
  exact h (List.mem_map.mpr ⟨e, he, ik_inj z⟩)
noncomputable def spPut : Sp := fun vs H Q _ => ∃ (d b q : Addr) (ns : List Int) (o u : Int) (many i : Nat) (E : List Ent), vs = [.ref d, .ref b, .ref q] ∧ DictE H d many i E ∧ i ≤ 20 ∧ H b = some (.tup (ns.map V.int)) ∧ ns.length = many ∧ (∀ n ∈ ns, 0 ≤ n) ∧ ns.sum ≤ 16 ∧
  At2 H q o u ∧ FrS o u ∧ ∀ (E' : List Ent) (H' : Hp), But d H H' → DictE H' d many (i + 1) E' → Q .non H'
section
variable {P : Program} {w : World} {K : PySem.W.Frag} {mg : Str → Option Value} {base : Heap} {f fd : _}
theorem scPut : FnScope ["found", "powers", "number", "some"] ["found", "powers", "number"] (defScope sPut) := ⟨rfl, rfl, rfl, by decide +kernel, rfl, by decide +kernel, by decide +kernel⟩
theorem ok_put {fP : Addr} {fdP : FuncData} (F : Fun K "_law_put" "_law_put" sPut f fd) (DP : Df K mg "_law_plus" sPlus ["one", "other"] fP fdP) : FnOk P w K mg base CX0 2 f fd ["found", "powers", "number"] spPut := by
  have GP : FnOk P w K mg base CX0 1 fP fdP ["one", "other"] spPlus := ok_plus DP.F
  refine F.ok scPut (fun vs H Q E h => ?_) (fun cdv A outer s H vs Q E hr h => ?_)
  · obtain ⟨d, b, q, ns, o, u, many, i, E', rfl, _⟩ := h
    rfl
  · obtain ⟨d, b, q, ns, o, u, many, i, EE, rfl, hD, hi, hb, hn, hns, hsum, hq, fq, go⟩ := h
    have hu : _ + 1 < cLine := Nat.lt_of_le_of_lt (Nat.add_le_add_left (by decide : 1 ≤ 64) _) hr.units
    refine ⟨_, pss_cons (ps_set (i := 3) scPut.nd rfl (Or.inl rfl) (pe_call GP hr rfl DP.m DP.F.kp DP.b .nil pass0 (pa_cons (pe_dget2 hu (pv 0) (pv 1) (pe_tupF (pa_cons pe_int (pa_cons pe_int pa_nil))) ⟨rfl, rfl, rfl, rfl⟩) (pa_cons (pv 2) pa_nil))))
      (pss_one (ps_if (pt_cmpR op_ne (pe_ix ix_tup (pv 3) pe_int (fun _ _ => rfl)) pe_int (nomark _)) (pss_one (ps_dput hu (pv 0) (pv 1) (pv 3) rfl))
        (pss_one (ps_if (pt_cmp (pc_din hu (pv 1) (pv 0))) (pss_one (ps_expr (LwD.pe_dpopT hu (pv 0) (pv 1) ⟨rfl, rfl, rfl, rfl⟩))) pss_nil)))), ?_⟩
    have hb' : H b = some (.tup ((LwD.ik ns).map kV)) := by rw [LwD.ik_map]; exact hb
    have few := hD.few
    have kz : (EE.map Ent.kv).length < sizeLine := by rw [List.length_map]; exact Nat.lt_of_le_of_lt (Nat.le_trans few hi) (by decide)
    refine ⟨_, rfl, d, rfl, .inr ⟨_, .inl hD.at'⟩, _, rfl, (by show 2 ≤ sizeLine; decide), fun z H1 n1 s1 e1 => ⟨valV (EE.map Ent.kv) (LwD.ik ns), DGet.t (s1 _ _ hD.at') (s1 _ _ hb'), _, rfl, ?_⟩⟩
    have sq : u.natAbs ≤ 2 ^ 97 := Nat.le_of_lt fq.sb
    have oq : o.natAbs ≤ 2 ^ 100 * u.natAbs := by
      have h1 := fq.st
      have h2 := fq.pos
      exact Nat.le_trans (Nat.le_of_lt h1) (Nat.le_mul_of_pos_right _ (by omega))
    -- the rest, once it is known what stands there
    by_cases hin : ns ∈ EE.map Ent.ns
    · obtain ⟨e, he, en⟩ := List.mem_map.mp hin
      obtain ⟨L, R, eE⟩ := List.append_of_mem he
      have hE := hD.each e he
      have nd := hD.nd
      rw [eE, List.map_append, List.map_cons] at nd
      have nL : ns ∉ L.map Ent.ns := fun y => by
        rw [← en] at y
        exact (List.nodup_append.mp nd).2.2 _ y _ (List.mem_cons_self ..) rfl
      have nR : ns ∉ R.map Ent.ns := fun y => by
        rw [← en] at y
        exact (List.nodup_cons.mp (List.nodup_append.mp nd).2.1).1 y
      have km : EE.map Ent.kv = L.map Ent.kv ++ (LwD.ik ns, V.ref e.c) :: R.map Ent.kv := by
        rw [eE, List.map_append, List.map_cons, ← en]
        rfl
      have ev : valV (EE.map Ent.kv) (LwD.ik ns) = some (.ref e.c) := by rw [km]; exact val_mid (key_ne nL)
      rw [ev]
      have kb : e.k ≤ 20 := by
        have := hD.sum
        rw [eE, List.map_append, List.map_cons, List.sum_append, List.sum_cons] at this
        omega
      have ks : (L.map Ent.k).sum + (e.k + (R.map Ent.k).sum) ≤ i := by
        have := hD.sum
        rwa [eE, List.map_append, List.map_cons, List.sum_append, List.sum_cons] at this
      have eb : e.b.natAbs ≤ 2 ^ 1940 := up_bits hE.sb (by omega)
      have et : e.t.natAbs < 2 ^ 50000 := by
        have h1 : e.k * 2 ^ 100 * e.b.natAbs ≤ 2 ^ 5 * 2 ^ 100 * 2 ^ 1940 := Nat.mul_le_mul (Nat.mul_le_mul_right _ (by omega)) eb
        rw [← Nat.pow_add, ← Nat.pow_add] at h1
        exact Nat.lt_of_le_of_lt (Nat.le_trans hE.st h1) (Nat.pow_lt_pow_right (by decide) (by decide))
      refine ⟨e.c, q, e.t, e.b, o, u, rfl, s1 _ _ hE.at', s1 _ _ hq, hE.pos, fq.pos, et, Nat.lt_of_le_of_lt eb (Nat.pow_lt_pow_right (by decide) (by decide)), abs_up fq.st (by decide), abs_up fq.sb (by decide), fun r t' b' H2 n2 s2 e2 pb lb eq => ?_⟩
      have s12 : Same H H2 := s1.trans s2
      have hd2 : H2 d = some (.dT (EE.map Ent.kv)) := s12 _ _ hD.at'
      have hb2 : H2 b = some (.tup ((LwD.ik ns).map kV)) := s12 _ _ hb'
      have rd : r ≠ d := fun zz => by rw [zz, s1 _ _ hD.at'] at n2; cases n2
      have bd : ∀ o, But d H (upd H2 d o) := fun o x y hx hn => by
        rw [upd_ne hn]
        exact s12 _ _ hx
      have tu : ∀ (o : HO) a xs, H a = some (.tup xs) → upd H2 d o a = some (.tup xs) := fun o a xs ea => by
        rw [upd_ne (fun y => by rw [y, hD.at'] at ea; cases ea)]
        exact s12 _ _ ea
      have ndL : (L.map Ent.ns ++ R.map Ent.ns).Nodup := by
        rw [List.nodup_append] at nd ⊢
        refine ⟨nd.1, (List.nodup_cons.mp nd.2.1).2, fun a ha b hb => nd.2.2 a ha b (List.mem_cons_of_mem _ hb)⟩
      refine ⟨_, rfl, r, _, _, _, rfl, rfl, SqT.of e2, rfl, rfl, _, rfl, ?_⟩
      refine ite2 (fun nz => ?_) (fun _ => ?_)
      · refine ⟨_, rfl, _, rfl, _, rfl, d, _, rfl, DPut.t (k := LwD.ik ns) hd2 hb2 kz, ?_⟩
        have tz : t' ≠ 0 := fun y => by rw [y] at nz; simp at nz
        refine go (L ++ ⟨ns, r, t', b', e.k + 1⟩ :: R) _ (bd _) ⟨?_, ?_, fun x hx => ?_, ?_⟩
        · rw [upd_same, km, put_mid (key_ne nL) (key_ne nR), List.map_append, List.map_cons]
          rfl
        · rw [List.map_append, List.map_cons]
          rw [en] at nd
          exact nd
        · rcases List.mem_append.mp hx with hx | hx
          · exact (hD.each x (by rw [eE]; exact List.mem_append_left _ hx)).map (tu _)
          · rcases List.mem_cons.mp hx with rfl | hx
            · refine ⟨hn, hns, hsum, by show At2 _ r t' b'; rw [At2, upd_ne rd]; exact e2, pb, tz, Nat.le_add_left _ _, ?_, ?_⟩
              · refine Nat.le_trans lb ?_
                rw [show 97 * (e.k + 1) = 97 * e.k + 97 by omega, Nat.pow_add]
                exact Nat.mul_le_mul hE.sb sq
              · have := ratio_plus hE.pos fq.pos eq hE.st oq
                rw [Nat.add_mul, Nat.one_mul]
                exact this
            · exact (hD.each x (by rw [eE]; exact List.mem_append_right _ (List.mem_cons_of_mem _ hx))).map (tu _)
        · rw [List.map_append, List.map_cons, List.sum_append, List.sum_cons]
          show (L.map Ent.k).sum + (e.k + 1 + (R.map Ent.k).sum) ≤ i + 1
          omega
      · refine ⟨_, rfl, _, rfl, d, _, rfl, DGet.t (k := LwD.ik ns) hd2 hb2, _, rfl, ?_⟩
        rw [ev]
        refine iteT ⟨_, rfl, d, rfl, .inr ⟨_, .inl hd2⟩, _, rfl, _, LwD.ik ns, _, b, hd2, rfl, hb2, ev, ?_⟩
        refine go (L ++ R) _ (bd _) ⟨?_, ?_, fun x hx => ?_, ?_⟩
        · rw [upd_same, km, drop_mid (key_ne nL) (key_ne nR), List.map_append]
        · rw [List.map_append]
          exact ndL
        · refine (hD.each x ?_).map (tu _)
          rw [eE]
          rcases List.mem_append.mp hx with hx | hx
          · exact List.mem_append_left _ hx
          · exact List.mem_append_right _ (List.mem_cons_of_mem _ hx)
        · rw [List.map_append, List.sum_append]
          omega
    · have ev : valV (EE.map Ent.kv) (LwD.ik ns) = none := val_out (key_ne hin)
      rw [ev]
      refine ⟨z, q, 0, 1, o, u, rfl, e1, s1 _ _ hq, by decide, fq.pos, by show 0 < _; exact Nat.pow_pos (by decide), by show 1 < _; exact Nat.one_lt_pow (by decide) (by decide), abs_up fq.st (by decide), abs_up fq.sb (by decide), fun r t' b' H2 n2 s2 e2 pb lb eq => ?_⟩
      have s12 : Same H H2 := s1.trans s2
      have hd2 : H2 d = some (.dT (EE.map Ent.kv)) := s12 _ _ hD.at'
      have hb2 : H2 b = some (.tup ((LwD.ik ns).map kV)) := s12 _ _ hb'
      have rd : r ≠ d := fun zz => by rw [zz, s1 _ _ hD.at'] at n2; cases n2
      have bd : ∀ o, But d H (upd H2 d o) := fun o x y hx hn => by
        rw [upd_ne hn]
        exact s12 _ _ hx
      have tu : ∀ (o : HO) a xs, H a = some (.tup xs) → upd H2 d o a = some (.tup xs) := fun o a xs ea => by
        rw [upd_ne (fun y => by rw [y, hD.at'] at ea; cases ea)]
        exact s12 _ _ ea
      refine ⟨_, rfl, r, _, _, _, rfl, rfl, SqT.of e2, rfl, rfl, _, rfl, ?_⟩
      refine ite2 (fun nz => ?_) (fun _ => ?_)
      · refine ⟨_, rfl, _, rfl, _, rfl, d, _, rfl, DPut.t (k := LwD.ik ns) hd2 hb2 kz, ?_⟩
        have tz : t' ≠ 0 := fun y => by rw [y] at nz; simp at nz
        refine go (EE ++ [⟨ns, r, t', b', 1⟩]) _ (bd _) ⟨?_, ?_, fun x hx => ?_, ?_⟩
        · rw [upd_same, put_out (key_ne hin), List.map_append]
          rfl
        · rw [List.map_append, List.nodup_append]
          refine ⟨hD.nd, by simp, fun a ha b hb => ?_⟩
          have : b = ns := by simpa using hb
          rintro rfl
          rw [this] at ha
          exact hin ha
        · rcases List.mem_append.mp hx with hx | hx
          · exact (hD.each x hx).map (tu _)
          · rw [List.mem_singleton] at hx
            subst hx
            refine ⟨hn, hns, hsum, by show At2 _ r t' b'; rw [At2, upd_ne rd]; exact e2, pb, tz, Nat.le_refl _, ?_, ?_⟩
            · refine Nat.le_trans lb ?_
              rw [Int.natAbs_one, Nat.one_mul]
              exact sq
            · have := ratio_plus (R1 := 0) (by decide) fq.pos eq (by simp) oq
              rw [Nat.zero_add] at this
              rw [Nat.one_mul]
              exact this
        · rw [List.map_append, List.sum_append]
          have := hD.sum
          show (EE.map Ent.k).sum + (1 + 0) ≤ i + 1
          omega
      · refine ⟨_, rfl, _, rfl, d, _, rfl, DGet.t (k := LwD.ik ns) hd2 hb2, _, rfl, ?_⟩
        rw [ev]
        refine iteF ?_
        exact go EE H2 (But.of s12) ⟨hd2, hD.nd, fun x hx => (hD.each x hx).map fun a xs ea => s12 _ _ ea, Nat.le_succ_of_le hD.sum⟩
end
end Lw

namespace Lw
open PySem PySem.Spec PyProof.Rows L2
theorem DictE.map {H H' : Hp} {d : Addr} {many i : Nat} {E : List Ent} (h : DictE H d many i E) (hd : H' d = some (.dT (E.map Ent.kv))) (hc : ∀ a xs, H a = some (.tup xs) → H' a = some (.tup xs)) : DictE H' d many i E := ⟨hd, h.nd, fun e he => (h.each e he).map hc, h.sum⟩
theorem DictE.same {H H' : Hp} {d : Addr} {many i : Nat} {E : List Ent} (h : DictE H d many i E) (s : Same H H') : DictE H' d many i E := h.map (s _ _ h.at') fun _ _ e => s _ _ e
theorem Tape.ne {cl : Addr} {H : Hp} {tp : Addr} {B : Int} (T : Tape cl H tp B) {d : Addr} {o : HO} (e : H d = some o) (ho : ∀ xs, o ≠ .lst xs) : d ≠ tp ∧ d ≠ cl := by
  obtain ⟨ns, spot, rest, left, h1, h2, _⟩ := T
  refine ⟨fun z => ?_, fun z => ?_⟩
  · rw [z, h1] at e; cases e; exact ho _ rfl
  · rw [z, h2] at e; cases e; exact ho _ rfl
theorem Tape.off {cl : Addr} {H : Hp} {tp : Addr} {B : Int} (T : Tape cl H tp B) {d : Addr} (e : H d = none) : d ≠ tp ∧ d ≠ cl := by
  obtain ⟨ns, spot, rest, left, h1, h2, _⟩ := T
  refine ⟨fun z => ?_, fun z => ?_⟩
  · rw [z, h1] at e; cases e
  · rw [z, h2] at e; cases e
theorem Tape.upd {cl : Addr} {H : Hp} {tp : Addr} {B B' : Int} (T : Tape cl H tp B) {l : Addr} (o : HO) (h1 : l ≠ tp) (h2 : l ≠ cl) (hB : B ≤ B') : Tape cl (upd H l o) tp B' := by
  obtain ⟨ns, spot, rest, left, e1, e2, e3, e4, e5⟩ := T
  exact ⟨ns, spot, rest, left, by rw [upd_ne (Ne.symm h1)]; exact e1, by rw [upd_ne (Ne.symm h2)]; exact e2, e3, e4, by omega⟩
theorem DictE.but {cl : Addr} {H H' : Hp} {tp : Addr} {B : Int} {d : Addr} {many i : Nat} {E : List Ent} (h : DictE H d many i E) (T : Tape cl H tp B) (b : But tp H H') : DictE H' d many i E :=
  h.map (b _ _ h.at' (T.ne h.at' (fun _ z => by cases z)).1) fun _ _ e => b _ _ e (T.ne e (fun _ z => by cases z)).1
theorem DictE.upd {H : Hp} {l : Addr} {xs : List V} {o : HO} {d : Addr} {many i : Nat} {E : List Ent} (h : DictE H d many i E) (hl : H l = some (.lst xs)) : DictE (upd H l o) d many i E := by
  refine h.map ?_ fun c ys e => ?_
  · rw [upd_ne (fun z => by have := h.at'; rw [z, hl] at this; cases this)]
    exact h.at'
  · show L2.upd H l o c = _
    rw [upd_ne (fun z => by rw [z, hl] at e; cases e)]
    exact e
theorem but_put {p l : Addr} {H H' : Hp} {o : HO} (b : But p H H') (n : H l = none) : But p H (upd H' l o) := fun c u h hc => by
  rw [upd_ne (ne_of_none h n)]
  exact b c u h hc
theorem Tape.aside {cl : Addr} {H H' : Hp} {tp d : Addr} {B : Int} (T : Tape cl H tp B) (b : But d H H') (h1 : d ≠ tp) (h2 : d ≠ cl) : Tape cl H' tp B := by
  obtain ⟨ns, spot, rest, left, e1, e2, e3⟩ := T
  exact ⟨ns, spot, rest, left, b _ _ e1 (Ne.symm h1), b _ _ e2 (Ne.symm h2), e3⟩
theorem at_mem {ns : List Int} {i : Int} (h0 : 0 ≤ i) (h1 : i < ns.length) : ∃ c : Int, atI (ns.map V.int) i = some (.int c) ∧ c ∈ ns := by
  obtain ⟨j, rfl⟩ := Int.eq_ofNat_of_zero_le h0
  have hj : j < ns.length := by omega
  exact ⟨ns[j], atI_nat (by simp [hj]), List.getElem_mem hj⟩
theorem at_get {ns : List Int} {i : Int} (h0 : 0 ≤ i) (h1 : i < ns.length) : ∃ c : Int, atI (ns.map V.int) i = some (.int c) ∧ ns[i.toNat]? = some c := by
  obtain ⟨j, rfl⟩ := Int.eq_ofNat_of_zero_le h0
  have hj : j < ns.length := by omega
  exact ⟨ns[j], atI_nat (by simp [hj]), by simp [hj]⟩
theorem sum_set : ∀ {ns : List Int} {j : Nat} {c : Int}, ns[j]? = some c → (ns.set j (c + 1)).sum = ns.sum + 1
  | [], j, c, h => by simp at h
  | n :: r, 0, c, h => by
    simp only [List.getElem?_cons_zero, Option.some.injEq] at h
    rw [List.set_cons_zero, List.sum_cons, List.sum_cons, h]
    omega
  | n :: r, j + 1, c, h => by
    have ih := sum_set (ns := r) (j := j) (c := c) (by simpa using h)
    rw [List.set_cons_succ, List.sum_cons, List.sum_cons, ih]
    omega
section
variable {P : Program} {w : World} {K : PySem.W.Frag} {mg : Str → Option Value} {base : Heap} {f fd : _}
noncomputable def spFound : Sp := fun vs H Q _ => ∃ (tp : Addr) (many : Nat) (B : Int), vs = [.ref tp, .int many] ∧ 1 ≤ many ∧ many ≤ 4 ∧ ∃ cl, Tape cl H tp B ∧ B < 2 ^ 30 ∧
  ∀ (d : Addr) (E : List Ent) (H' : Hp), H d = none → But tp H H' → Tape cl H' tp (B + 200) → DictE H' d many 7 E → Q (.ref d) H'
theorem scDrawn : FnScope ["tape", "many", "found", "k", "powers", "turn", "letter"] ["tape", "many"] (defScope sDrawn) := ⟨rfl, rfl, rfl, by decide +kernel, rfl, by decide +kernel, by decide +kernel⟩
theorem ok_found {fD fP fF fS fL fN : Addr} {fdD fdP fdF fdS fdL fdN : FuncData} (F : Fun K "_law_drawn" "_law_drawn" sDrawn f fd) (T : Txt mg) (DD : Df K mg "_law_draw" sDraw ["tape", "many"] fD fdD) (DP : Df K mg "_law_put" sPut ["found", "powers", "number"] fP fdP) (DF : Df K mg "_law_fraction" sFraction ["tape"] fF fdF)
    (DS : Df K mg "_law_plus" sPlus ["one", "other"] fS fdS) (DL : Df K mg "_law_low" sLow ["top", "bottom"] fL fdL) (DN : Df K mg "_law_number" sNumber ["tape"] fN fdN) : FnOk P w K mg base CX0 4 f fd ["tape", "many"] spFound := by
  have GD : FnOk P w K mg base CX0 1 fD fdD ["tape", "many"] spDraw := ok_draw DD.F T
  have GP : FnOk P w K mg base CX0 2 fP fdP ["found", "powers", "number"] spPut := ok_put DP.F DS
  have GF : FnOk P w K mg base CX0 3 fF fdF ["tape"] (spDrawn 7 (2 ^ 37)) := ok_fraction DF.F T DD DL DN
  refine F.ok scDrawn (fun vs H Q E h => ?_) (fun cdv A outer s H vs Q E hr h => ?_)
  · obtain ⟨tp, many, B, rfl, _⟩ := h
    rfl
  · obtain ⟨tp, many, B, rfl, m1, m4, cl, hT, hB, go⟩ := h
    have hr1 : Room 1 _ := hr.mono (by decide)
    have hr2 : Room 2 _ := hr.mono (by decide)
    refine ⟨_, pss_cons (ps_set (i := 2) scDrawn.nd rfl (Or.inl rfl) (pe_dnewT)) (pss_cons (ps_for PassesOwn.never rfl (pi_range1 (by rfl) T.rng (pa_cons (pe_call GD hr1 rfl DD.m DD.F.kp DD.b .nil pass0 (pa_cons (pv 0) (pa_cons pe_int pa_nil))) pa_nil)) (pg_name (i := 3) scDrawn.nd rfl (Or.inl rfl)) (pss_cons (ps_set (i := 4) scDrawn.nd rfl (Or.inl rfl) (pe_op op_rep (pe_lstF (pa_cons pe_int pa_nil)) (pv 1))) (pss_cons (ps_for PassesOwn.never rfl (pi_range1 (by rfl) T.rng (pa_cons (pe_call GD hr1 rfl DD.m DD.F.kp DD.b .nil pass0 (pa_cons (pv 0) (pa_cons (pe_ix ix_list (pe_lstF (pa_cons pe_int (pa_cons pe_int (pa_cons pe_int (pa_cons pe_int pa_nil))))) (pe_call GD hr1 rfl DD.m DD.F.kp DD.b .nil pass0 (pa_cons (pv 0) (pa_cons pe_int pa_nil))) (fun _ _ => rfl)) pa_nil))) pa_nil)) (pg_name (i := 5) scDrawn.nd rfl (Or.inl rfl)) (pss_cons (ps_set (i := 6) scDrawn.nd rfl (Or.inl rfl) (pe_call GD hr1 rfl DD.m DD.F.kp DD.b .nil pass0 (pa_cons (pv 0) (pa_cons (pv 1) pa_nil)))) (pss_one (ps_asg (pe_op op_add (pe_ix ix_list (pv 4) (pv 6) (fun _ _ => rfl)) pe_int) (pg_sub (pv 4) (pv 6) set_list))))) (pss_one (ps_expr (pe_call GP hr2 rfl DP.m DP.F.kp DP.b .nil pass0 (pa_cons (pv 2) (pa_cons (pe_callTy call_tuple_of (by rfl) T.tup boot_tuple (pa_cons (pv 4) pa_nil)) (pa_cons (pe_call GF hr rfl DF.m DF.F.kp DF.b .nil pass0 (pa_cons (pv 0) pa_nil)) pa_nil))))))))) (pss_one (ps_ret (pv 2)))), ?_⟩
    intro d nd
    have T0 : Tape cl (upd H d (.dT [])) tp B := hT.upd _ (hT.off nd).1 (hT.off nd).2 (Int.le_refl _)
    refine ⟨_, rfl, tp, 8, B, rfl, cl, T0, by omega, by decide, by decide, fun c H1 c0 c1 T1 b1 => ⟨c, rfl, by omega, by omega, ?_⟩⟩
    have B1 : But tp H H1 := (but_put (But.refl tp H) nd).trans b1
    have D1 : DictE H1 d many 0 [] := ⟨b1 _ _ upd_same (hT.off nd).1, List.Pairwise.nil, (fun p hp => by cases hp), Nat.le_refl _⟩
    have cn : c.toNat ≤ 7 := by omega
    refine for_range (fun i σ H2 => (∃ u v x y, σ = [some (.ref tp), some (.int many), some (.ref d), u, v, x, y]) ∧ But tp H H2 ∧ Tape cl H2 tp (B + 1 + 25 * i) ∧ ∃ E, DictE H2 d many i E)
      ⟨⟨_, _, _, _, rfl⟩, B1, T1.mono (Same.refl _) (by omega), [], D1⟩ ?_ ?_
    · rintro i σ H2 hi ⟨⟨u, v, x, y, rfl⟩, B2, T2, EE, D2⟩
      have i7 : i ≤ 6 := by omega
      refine ⟨(by show 1 ≤ sizeLine; decide), fun z0 H3 n3 s3 e3 => ⟨_, rfl, z0, many, [.int 0], rfl, rfl, e3, by omega, by omega, ?_, fun l nl => ?_⟩⟩
      · show 1 * (many : Int).toNat ≤ sizeLine
        exact Nat.le_trans (show 1 * (many : Int).toNat ≤ 4 by omega) (by decide)
      have T3 := T2.mono s3 (Int.le_refl _)
      have B3 : But tp H H3 := B2.trans (But.of s3)
      have lo := T3.off nl
      have hnl : H l = none := none_of_but B3 nl lo.1
      have hl0 : (List.replicate (many : Int).toNat [V.int 0]).flatten = (List.replicate many (0 : Int)).map V.int := by simp
      rw [hl0]
      generalize hH4 : upd H3 l (.lst ((List.replicate many (0 : Int)).map V.int)) = H4
      have s4 : Same H3 H4 := hH4 ▸ same_upd _ nl
      have e4 : H4 l = some (.lst ((List.replicate many (0 : Int)).map V.int)) := hH4 ▸ upd_same
      have B4 : But tp H H4 := B3.trans (But.of s4)
      have T4 := T3.mono s4 (Int.le_refl _)
      have D4 := (D2.same s3).same s4
      refine ⟨_, rfl, (by show 4 ≤ sizeLine; decide), fun z1 H5 n5 s5 e5 => ⟨_, rfl, tp, 4, _, rfl, cl, T4.mono s5 (Int.le_refl _), by omega, by decide, by decide, fun r H6 r0 r1 T6 b6 => ?_⟩⟩
      obtain ⟨w', hw, hwm⟩ := at_mem (ns := [3, 4, 6, 17]) r0 r1
      have hw' : 3 ≤ w' ∧ w' ≤ 17 := by
        simp only [List.mem_cons, List.not_mem_nil, or_false] at hwm
        omega
      have p100 : (17 : Int) < 2 ^ 100 := by decide
      refine ⟨z1, _, r, _, rfl, rfl, SqL.of (b6 _ _ e5 (T4.off n5).1), hw, tp, w', _, rfl, cl, T6, by omega, by omega, by omega, fun n H7 n0 n1 T7 b7 => ⟨n, rfl, by omega, by omega, ?_⟩⟩
      have b47 : But tp H4 H7 := (But.of s5).trans (b6.trans b7)
      refine for_range (fun j σ H8 => (∃ x y, σ = [some (.ref tp), some (.int many), some (.ref d), some (.int (0 + (i : Int))), some (.ref l), x, y]) ∧ But tp H H8 ∧ Tape cl H8 tp (B + 1 + 25 * i + 2 + j) ∧ DictE H8 d many i EE ∧
          ∃ ns : List Int, H8 l = some (.lst (ns.map V.int)) ∧ ns.length = many ∧ (∀ n ∈ ns, 0 ≤ n) ∧ ns.sum = j)
        ⟨⟨_, _, rfl⟩, B4.trans b47, T7.mono (Same.refl _) (by omega), D4.but T4 b47, _, b47 _ _ e4 lo.1, by simp, fun n hn => ?_, by simp⟩ ?_ ?_
      · rw [(List.mem_replicate.mp hn).2]
        exact Int.le_refl _
      · rintro j σ H8 hj ⟨⟨x, y, rfl⟩, B8, T8, D8, ns, e8, ln, hns, hsm⟩
        refine ⟨_, rfl, _, rfl, tp, many, _, rfl, cl, T8, by omega, by omega, by omega, fun r' H9 r0' r1' T9 b9 => ?_⟩
        have e9 : H9 l = _ := b9 _ _ e8 lo.1
        obtain ⟨c', hc', hcm⟩ := at_get (ns := ns) r0' (by rw [ln]; exact r1')
        refine ⟨_, rfl, _, rfl, l, _, r', _, rfl, rfl, SqL.of e9, hc', _, _, rfl, rfl, _, rfl, _, rfl, l, _, r', r'.toNat, rfl, rfl, e9, ?_, ?_⟩
        · unfold ixN
          rw [if_pos r0', if_pos (by rw [List.length_map, ln]; exact r1')]
        · refine ⟨⟨_, _, rfl⟩, but_put (B8.trans b9) hnl, T9.upd _ lo.1 lo.2 (by omega), (D8.but T8 b9).upd e9, ns.set r'.toNat (c' + 1), ?_, by rw [List.length_set]; exact ln, fun n hn => ?_, ?_⟩
          · rw [upd_same, List.map_set]
          · rcases List.mem_or_eq_of_mem_set hn with hn | rfl
            · exact hns n hn
            · have := hns c' (List.mem_of_getElem? hcm)
              omega
          · rw [sum_set hcm, hsm]
            omega
      · rintro σ H8 ⟨⟨x, y, rfl⟩, B8, T8, D8, ns, e8, ln, hns, hsm⟩
        refine ⟨_, rfl, _, rfl, l, _, rfl, .inl ⟨SqL.of e8, fun b nb => ?_⟩⟩
        have sb : Same H8 (upd H8 b (.tup (ns.map V.int))) := same_upd _ nb
        have T9 := T8.mono sb (Int.le_refl _)
        have bo := T8.off nb
        have p37 : (2 : Int) ^ 30 + 300 < 2 ^ 37 := by decide
        refine ⟨_, rfl, tp, _, rfl, cl, T9, by omega, fun r t b' H10 fr e10 rne T10 b10 nw => ?_⟩
        have D10 := (D8.same sb).but T9 b10
        have hdn := T10.ne D10.at' (fun _ z => by cases z)
        have nn : (n.toNat : Int) ≤ 16 := by omega
        refine ⟨d, b, r, ns, t, b', many, i, EE, rfl, D10, by omega, b10 _ _ upd_same bo.1, ln, hns, by omega, e10, fr, fun E' H11 b11 D11 => ?_⟩
        · refine ⟨⟨_, _, _, _, rfl⟩, fun c o hc hn => ?_, (T10.aside b11 hdn.1 hdn.2).mono (Same.refl _) (by omega), E', D11⟩
          · exact b11 _ _ (b10 _ _ (sb _ _ (B8 _ _ hc hn)) hn) (fun z => by rw [z, nd] at hc; cases hc)
    · rintro σ H2 ⟨⟨u, v, x, y, rfl⟩, B2, T2, EE, D2⟩
      exact ⟨_, rfl, go d EE H2 nd B2 (T2.mono (Same.refl _) (by omega)) ⟨D2.at', D2.nd, D2.each, Nat.le_trans D2.sum cn⟩⟩
end
end Lw

namespace Lw
open PySem PySem.Spec PyProof.Rows L2 LwQ
structure DE (H : Hp) (d : Addr) (many : Nat) (E : List Ent) : Prop where
  at' : Rd H d (.dT (E.map Ent.kv))
  nd : (E.map Ent.ns).Nodup
  each : ∀ e ∈ E, EntOk H many e
  sum : (E.map Ent.k).sum ≤ 7
theorem Rd.same {H H' : Hp} {d : Addr} {o : HO} (h : Rd H d o) (s : Same H H') : Rd H' d o := by
  rcases h with h | ⟨u, h⟩
  · exact .inl (s _ _ h)
  · exact .inr ⟨u, s _ _ h⟩
theorem DE.same {H H' : Hp} {d : Addr} {many : Nat} {E : List Ent} (h : DE H d many E) (s : Same H H') : DE H' d many E := ⟨Rd.same h.at' s, h.nd, fun e he => (h.each e he).map fun _ _ q => s _ _ q, h.sum⟩
theorem DE.few {H : Hp} {d : Addr} {many : Nat} {E : List Ent} (h : DE H d many E) : E.length ≤ 7 := Nat.le_trans (ent_len fun e he => (h.each e he).k1) h.sum
theorem val_in {E : List Ent} (nd : (E.map Ent.ns).Nodup) {e : Ent} (he : e ∈ E) : valV (E.map Ent.kv) (LwD.ik e.ns) = some (.ref e.c) := by
  obtain ⟨L, R, rfl⟩ := List.append_of_mem he
  rw [List.map_append, List.map_cons] at nd ⊢
  refine val_mid (key_ne fun y => ?_)
  exact (List.nodup_append.mp nd).2.2 _ y _ (List.mem_cons_self ..) rfl
theorem DE.get {H : Hp} {d b : Addr} {many : Nat} {E : List Ent} (h : DE H d many E) {e : Ent} (he : e ∈ E) (hb : H b = some (.tup (e.ns.map V.int))) : DGet H d (.ref b) (some (.ref e.c)) :=
  .inr ⟨_, LwD.ik e.ns, b, h.at', rfl, by rw [LwD.ik_map]; exact hb, (val_in h.nd he).symm⟩
theorem perm_lift {α β : Type} {f : α → β} {zs l : List β} (p : zs.Perm l) : ∀ E : List α, l = E.map f → ∃ E' : List α, E'.Perm E ∧ zs = E'.map f := by
  induction p with
  | nil =>
    intro E h
    have : E = [] := by simpa using h.symm
    exact ⟨[], by rw [this], rfl⟩
  | @cons x l1 l2 _ ih =>
    intro E h
    match E, h with
    | e :: E2, h =>
      rw [List.map_cons] at h
      injection h with h1 h2
      obtain ⟨E', p', rfl⟩ := ih E2 h2
      exact ⟨e :: E', p'.cons e, by rw [List.map_cons, h1]⟩
  | @swap x y l =>
    intro E h
    match E, h with
    | e1 :: e2 :: E2, h =>
      rw [List.map_cons, List.map_cons] at h
      injection h with h1 h2
      injection h2 with h2 h3
      exact ⟨e2 :: e1 :: E2, List.Perm.swap .., by rw [List.map_cons, List.map_cons, h1, h2, h3]⟩
  | @trans l1 l2 l3 _ _ ih1 ih2 =>
    intro E h
    obtain ⟨E2, p2, e2⟩ := ih2 E h
    obtain ⟨E1, p1, e1⟩ := ih1 E2 e2
    exact ⟨E1, p1.trans p2, e1⟩
theorem put_same {H H' : Hp} {l : Addr} {o : HO} (s : Same H H') (n : H l = none) : Same H (upd H' l o) := fun c u h => by
  rw [upd_ne (ne_of_none h n)]
  exact s c u h
theorem mem_le : ∀ {l : List Nat} {n : Nat}, n ∈ l → n ≤ l.sum
  | a :: r, n, h => by
    rw [List.sum_cons]
    rcases List.mem_cons.mp h with rfl | h
    · exact Nat.le_add_right ..
    · exact Nat.le_trans (mem_le h) (Nat.le_add_left ..)
noncomputable def TermE (H : Hp) (x : V) (e : Ent) : Prop := ∃ r b c : Addr, x = .ref r ∧ H r = some (.tup [.ref b, .ref c]) ∧ H b = some (.tup (e.ns.map V.int)) ∧ At2 H c (lowT e.t e.b) (lowB e.t e.b)
theorem TermE.map {H H' : Hp} {x : V} {e : Ent} (h : TermE H x e) (k : ∀ a xs, H a = some (.tup xs) → H' a = some (.tup xs)) : TermE H' x e := by
  obtain ⟨r, b, c, e1, e2, e3, e4⟩ := h
  exact ⟨r, b, c, e1, k _ _ e2, k _ _ e3, k _ _ e4⟩
noncomputable def TermsE (H : Hp) (xs : List V) (E : List Ent) : Prop := xs.length = E.length ∧ ∀ (i : Nat) x e, xs[i]? = some x → E[i]? = some e → TermE H x e
structure SumE (H : Hp) (p q : Addr) (many : Nat) (xs : List V) (E : List Ent) : Prop where
  at' : H p = some (.tup [.int many, .ref q])
  terms : H q = some (.tup xs)
  each : TermsE H xs E
noncomputable def spLSum : Sp := fun vs H Q _ => ∃ (d : Addr) (many : Nat) (E : List Ent), vs = [.int many, .ref d] ∧ DE H d many E ∧ 1 ≤ many ∧ ∀ (p q : Addr) (xs : List V) (E' : List Ent) (H' : Hp), H p = none → Same H H' → E'.Perm E → E'.Pairwise (fun e e2 => LwD.lexI e.ns e2.ns = true) → SumE H' p q many xs E' → Q (.ref p) H'
section
variable {P : Program} {w : World} {K : PySem.W.Frag} {mg : Str → Option Value} {base : Heap} {f fd : _}
theorem scLSum : FnScope ["many", "one", "terms", "powers", "number"] ["many", "one"] (defScope sLSum) := ⟨rfl, rfl, rfl, by decide +kernel, rfl, by decide +kernel, by decide +kernel⟩
theorem ok_lsum {fL : Addr} {fdL : FuncData} (F : Fun K "_law_sum" "_law_sum" sLSum f fd) (T : Txt mg) (DL : Df K mg "_law_low" sLow ["top", "bottom"] fL fdL) : FnOk P w K mg base CX0 2 f fd ["many", "one"] spLSum := by
  have GL : FnOk P w K mg base CX0 1 fL fdL ["top", "bottom"] spLow := ok_low DL.F T
  refine F.ok scLSum (fun vs H Q E h => ?_) (fun cdv A outer s H vs Q E hr h => ?_)
  · obtain ⟨d, many, E', rfl, _⟩ := h
    rfl
  · obtain ⟨d, many, EE, rfl, hD, m1, go⟩ := h
    have hu : _ + 1 < cLine := Nat.lt_of_le_of_lt (Nat.add_le_add_left (by decide : 1 ≤ 64) _) hr.units
    refine ⟨_, pss_cons (ps_set (i := 2) scLSum.nd rfl (Or.inl rfl) (pe_lstF pa_nil)) (pss_cons (ps_for PassesOwn.never rfl (pi_list (pe_callB (LwD.call_sortS rfl) (by rfl) T.sorted boot_sorted (pa_cons (pv 1) pa_nil))) (pg_name (i := 3) scLSum.nd rfl (Or.inl rfl)) (pss_one (ps_if (pt_cmpR op_ne (pe_ix ix_tup (pe_dget hu (pv 1) (pv 3) (fun _ _ => rfl)) pe_int (fun _ _ => rfl)) pe_int (nomark _)) (pss_cons (ps_set (i := 4) scLSum.nd rfl (Or.inl rfl) (pe_call GL hr rfl DL.m DL.F.kp DL.b .nil pass0 (pa_cons (pe_ix ix_tup (pe_dget hu (pv 1) (pv 3) (fun _ _ => rfl)) pe_int (fun _ _ => rfl)) (pa_cons (pe_ix ix_tup (pe_dget hu (pv 1) (pv 3) (fun _ _ => rfl)) pe_int (fun _ _ => rfl)) pa_nil)))) (pss_one (ps_expr (pe_bm PySem.F.plainAttrs_list PySem.F.slot_list_append PySem.F.type_list_append mt_append (pv 2) (pa_cons (pe_tupF (pa_cons (pv 3) (pa_cons (pv 4) pa_nil))) pa_nil))))) pss_nil))) (pss_one (ps_ret (pe_tupF (pa_cons (pv 0) (pa_cons (pe_callTy call_tuple_of (by rfl) T.tup boot_tuple (pa_cons (pv 2) pa_nil)) pa_nil)))))), ?_⟩
    refine ⟨(by show 0 ≤ sizeLine; decide), fun l H1 n1 s1 e1 => ?_⟩
    have D1 := hD.same s1
    refine ⟨_, rfl, d, _, rfl, D1.at', by rw [List.length_map]; exact Nat.lt_of_le_of_lt hD.few (by decide), fun p hp => ?_, fun ys zs pz ky pw sl H2 n2 s2 e2 => ⟨sl, rfl, ⟨ys, SqL.of e2⟩, ?_⟩⟩
    · obtain ⟨e, he, rfl⟩ := List.mem_map.mp hp
      exact ⟨e.ns, rfl, fun z => by have := (hD.each e he).len; rw [z] at this; simp at this; omega⟩
    obtain ⟨E', pE, rfl⟩ := perm_lift pz EE rfl
    have pwE : E'.Pairwise (fun e e2 => LwD.lexI e.ns e2.ns = true) := by
      refine (List.pairwise_map.mp pw).imp fun {a b} h => ?_
      have h' : LwD.lexI (LwD.kInts (LwD.ik a.ns)) (LwD.kInts (LwD.ik b.ns)) = true := h
      rwa [LwD.kInts_ik, LwD.kInts_ik] at h'
    have s12 : Same H H2 := s1.trans s2
    have ls : sl ≠ l := fun z => by rw [z, e1] at n2; cases n2
    have yl : ys.length = E'.length := by rw [ky.1, List.length_map]
    have l7 : E'.length ≤ 7 := by rw [pE.length_eq]; exact hD.few
    refine for_list (K := K) (a := sl) (xs := ys) (fun i σ H3 => (∃ u v, σ = [some (.int many), some (.ref d), some (.ref l), u, v]) ∧ Same H H3 ∧ H3 sl = some (.lst ys) ∧ (∀ a xs, H2 a = some (.tup xs) → H3 a = some (.tup xs)) ∧ ∃ xs, H3 l = some (.lst xs) ∧ TermsE H3 xs (E'.take i))
      ⟨⟨_, _, rfl⟩, s12, e2, fun _ _ e => e, [], s2 _ _ e1, rfl, fun i x e h => by simp at h⟩ (fun i σ H3 _ h => SqL.of h.2.2.1) ?_ ?_
    · rintro i y σ H3 hyi ⟨⟨u, v, rfl⟩, s3, es, kt, xs, el, lx, hx⟩
      have hiy : i < ys.length := (List.getElem?_eq_some_iff.mp hyi).1
      have hie : i < E'.length := by omega
      obtain ⟨e, he⟩ : ∃ e, E'[i]? = some e := ⟨E'[i], by simp [hie]⟩
      obtain ⟨b, ns, rfl, hb1, hk⟩ := ky.2 i y e.kv hyi (by rw [List.getElem?_map, he]; rfl)
      have ens : e.ns = ns := ik_inj hk
      subst ens
      have eE : e ∈ EE := pE.mem_iff.mp (List.mem_of_getElem? he)
      have D3 := hD.same s3
      have hE := D3.each e eE
      have hb3 : H3 b = some (.tup (e.ns.map V.int)) := kt _ _ (s2 _ _ hb1)
      have g3 := D3.get eE hb3
      have c3 := SqT.of (K := K) hE.at'
      have xl : xs.length = i := by
        have := lx
        rw [List.length_take] at this
        omega
      refine ⟨_, rfl, _, rfl, d, _, rfl, g3, e.c, _, _, _, rfl, rfl, c3, rfl, rfl, _, rfl, ?_⟩
      refine iteP ?_ ?_
      · rw [Bool.not_eq_true', decide_eq_false]
        intro z
        injection z with z
        exact hE.nz z
      · have kb : e.k ≤ 7 := by
          have h1 : e.k ∈ EE.map Ent.k := List.mem_map_of_mem eE
          have h2 := hD.sum
          have := mem_le h1
          omega
        refine ⟨_, rfl, _, rfl, d, _, rfl, g3, e.c, _, _, _, rfl, rfl, c3, rfl, _, rfl, _, rfl, d, _, rfl, g3, e.c, _, _, _, rfl, rfl, c3, rfl, e.t, e.b, rfl, ?_, .inl ?_, fun r H4 n4 s4 e4 => ?_⟩
        · have := hE.pos
          omega
        · exact Nat.lt_of_le_of_lt (up_bits hE.sb (show 97 * e.k ≤ 700 by omega)) (Nat.pow_lt_pow_right (by decide) (by decide))
        refine ⟨_, rfl, .inl ⟨rfl, _, SqL.of (s4 _ _ el)⟩, _, rfl, _, rfl, (by show 2 ≤ sizeLine; decide), fun q H5 n5 s5 e5 => ?_⟩
        have s45 := s4.trans s5
        have el5 := s45 _ _ el
        refine ⟨l, _, _, rfl, rfl, el5, Nat.lt_of_le_of_lt (show xs.length ≤ 7 by omega) (by decide), ?_⟩
        have ku : ∀ (o : HO) a xs, H5 a = some (.tup xs) → upd H5 l o a = some (.tup xs) := fun o a xs e => by
          rw [upd_ne (fun z => by rw [z, el5] at e; cases e)]
          exact e
        refine ⟨⟨_, _, rfl⟩, put_same (s3.trans s45) n1, ?_, fun a xs e => ku _ _ _ (s45 _ _ (kt _ _ e)), _, upd_same, ?_, fun j x e' hj he' => ?_⟩
        · rw [upd_ne ls]
          exact s45 _ _ es
        · rw [List.length_append, List.length_take, xl]
          show i + 1 = _
          omega
        · rw [List.getElem?_take] at he'
          split at he'
          · rename_i hji
            by_cases hj2 : j < i
            · rw [List.getElem?_append_left (by omega)] at hj
              exact (hx j x e' hj (by rw [List.getElem?_take, if_pos hj2]; exact he')).map fun a xs e => ku _ _ _ (s45 _ _ e)
            · have : j = i := by omega
              subst this
              rw [List.getElem?_append_right (by omega), xl, Nat.sub_self] at hj
              rw [he] at he'
              cases he'
              cases hj
              exact ⟨q, b, r, rfl, ku _ _ _ e5, ku _ _ _ (s45 _ _ hb3), ku _ _ _ (s5 _ _ e4)⟩
          · cases he'
    · rintro σ H3 ⟨⟨u, v, rfl⟩, s3, es, kt, xs, el, hx⟩
      refine ⟨_, rfl, _, rfl, l, _, rfl, .inl ⟨SqL.of el, fun q nq => ⟨(by show 2 ≤ sizeLine; decide), fun p H5 n5 s5 e5 => ?_⟩⟩⟩
      have s4 : Same H3 (upd H3 q (.tup xs)) := same_upd _ nq
      rw [yl, List.take_length] at hx
      exact go p q xs E' H5 ((s3.trans s4).free n5) (s3.trans (s4.trans s5)) pE pwE ⟨e5, s5 _ _ upd_same, hx.1, fun i x e h1 h2 => (hx.2 i x e h1 h2).map fun a xs e => s5 _ _ (s4 _ _ e)⟩
end
end Lw

namespace Lw
open PySem PySem.Spec PyProof.Rows L2
mutual
theorem DecV.mono {H H' : Hp} (e : Same H H') : ∀ {x : V} {d : PyData}, DecV H x d → DecV H' x d
  | _, _, .non => .non
  | _, _, .bl b => .bl b
  | _, _, .int i => .int i
  | _, _, .str x => .str x
  | _, _, .lst q h => .lst (e _ _ q) (DecVs.mono e h)
  | _, _, .tup q h => .tup (e _ _ q) (DecVs.mono e h)
theorem DecVs.mono {H H' : Hp} (e : Same H H') : ∀ {xs : List V} {ds : List PyData}, DecVs H xs ds → DecVs H' xs ds
  | _, _, .nil => .nil
  | _, _, .cons h t => .cons (DecV.mono e h) (DecVs.mono e t)
end
theorem DecVs.length {H : Hp} : ∀ {xs : List V} {ds : List PyData}, DecVs H xs ds → xs.length = ds.length
  | _, _, .nil => rfl
  | _, _, .cons _ t => by simp [DecVs.length t]
theorem DecVs.get {H : Hp} : ∀ {xs : List V} {ds : List PyData} {i : Nat} {x : V}, DecVs H xs ds → xs[i]? = some x → ∃ d, ds[i]? = some d ∧ DecV H x d
  | _, _, _, _, .nil, e => by simp at e
  | _, _, 0, _, .cons h _, e => by
    simp only [List.getElem?_cons_zero, Option.some.injEq] at e
    subst e
    exact ⟨_, rfl, h⟩
  | _, _, i + 1, _, .cons _ t, e => by
    simp only [List.getElem?_cons_succ] at e ⊢
    exact DecVs.get t e
noncomputable def kdD : PyData → Kd
  | .none => .non | .bool _ => .bl | .int _ => .int | .str _ => .str | .list _ => .lst | .tuple _ => .tup | .dict _ => .non
theorem DecV.kd {H : Hp} {v : V} {d : PyData} (h : DecV H v d) : KdOf H v (kdD d) := by
  cases h with
  | non => exact .non
  | bl b => exact .bl b
  | int i => exact .int i
  | str x => exact .str x
  | lst e _ => exact .lst e
  | tup e _ => exact .tup e
theorem comp_tup {K : PySem.W.Frag} {a : Addr} {xs : List V} {n : Nat} {g : TG} {te : TE} {Q : VK} {p : Addr} {H' : Hp} (Pv : Nat → List V → Hp → Prop) (hz : xs.length < sizeLine) (h0 : Pv 0 [] H')
    (hl : ∀ i ys H2, Pv i ys H2 → SqT K H2 a xs ∧ H2 p = some (.lst ys))
    (hs : ∀ i m ys x H2, xs[i]? = some x → m = xs.length - i → ys.length = i → Pv i ys H2 → g x (List.replicate n none) H2 fun σ4 H4 => te σ4 H4 fun y H5 => H5 p = some (.lst ys) ∧ ∃ m', m' < m ∧ CompW xs Pv (i + 1) m' (ys ++ [y]) (upd H5 p (.lst (ys ++ [y]))))
    (hd : ∀ ys H2, ys.length = xs.length → Pv xs.length ys H2 → Q (.ref p) H2) : CompGo n (Itt K a) g te Q p H' := by
  refine ⟨CompW xs Pv, ⟨_, rfl, Nat.zero_le _, rfl, h0⟩, ?_⟩
  rintro i m ys H2 ⟨hm, hi, hy, hp⟩
  obtain ⟨q, e⟩ := hl i ys H2 hp
  refine ⟨e, by omega, ?_⟩
  by_cases hlt : i < xs.length
  · refine .inr ⟨⟨xs, xs[i], q, by simp [hlt]⟩, ?_⟩
    rintro x H3 ⟨rfl, y⟩
    exact hs i m ys x _ (y xs q) hm hy hp
  · obtain rfl : i = xs.length := by omega
    exact .inl ⟨⟨xs, q, Nat.le_refl _⟩, hd ys H2 hy hp⟩
theorem comp_zip {K : PySem.W.Frag} {a b : Addr} {ts us : List V} {n : Nat} {g : TG} {te : TE} {Q : VK} {p : Addr} {H' : Hp} (Pv : Nat → List V → Hp → Prop) (hle : us.length ≤ ts.length) (hz : us.length < sizeLine) (h0 : Pv 0 [] H')
    (hl : ∀ i ys H2, Pv i ys H2 → SqT K H2 a ts ∧ SqT K H2 b us ∧ H2 p = some (.lst ys))
    (hs : ∀ i m ys x y c H2, ts[i]? = some x → us[i]? = some y → m = us.length - i → ys.length = i → Pv i ys H2 → H2 c = none → g (.ref c) (List.replicate n none) (upd H2 c (.tup [x, y])) fun σ4 H4 => te σ4 H4 fun y H5 => H5 p = some (.lst ys) ∧ ∃ m', m' < m ∧ CompW us Pv (i + 1) m' (ys ++ [y]) (upd H5 p (.lst (ys ++ [y]))))
    (hd : ∀ ys H2, ys.length = us.length → Pv us.length ys H2 → Q (.ref p) H2) : CompGo n (Itz K a b) g te Q p H' := by
  refine ⟨CompW us Pv, ⟨_, rfl, Nat.zero_le _, rfl, h0⟩, ?_⟩
  rintro i m ys H2 ⟨hm, hi, hy, hp⟩
  obtain ⟨q1, q2, e⟩ := hl i ys H2 hp
  refine ⟨e, by omega, ?_⟩
  by_cases hlt : i < us.length
  · have h2 : i < ts.length := by omega
    refine .inr ⟨⟨ts, us, ts[i], us[i], q1, q2, by simp [h2], by simp [hlt]⟩, ?_⟩
    rintro _ _ ⟨c, x, y, hc, rfl, rfl, h1, h2⟩
    exact hs i m ys x y c H2 (h1 _ q1) (h2 _ q2) hm hy hp hc
  · obtain rfl : i = us.length := by omega
    exact .inl ⟨⟨ts, us, q1, q2, .inr (Nat.le_refl _)⟩, hd ys H2 hy hp⟩
noncomputable def whF : PyData → Int → Bool
  | .int i, low => decide (low ≤ i)
  | _, _ => false
noncomputable def spWF : Sp := fun vs H Q _ => ∃ (v : V) (d : PyData) (low : Int), vs = [v, .int low] ∧ DecV H v d ∧ Q (.bl (whF d low)) H
noncomputable def intsD : List PyData → List Int
  | [] => []
  | .int i :: r => i :: intsD r
  | _ :: r => intsD r
noncomputable def pwB : PyData → Int → Bool
  | .tuple ds, many => decide ((ds.length : Int) = many) && (ds.all fun d => whF d 0) && decide ((intsD ds).sum ≤ 16)
  | _, _ => false
noncomputable def pwOk : PyData → Prop
  | .tuple ds => ds.length ≤ 1000 ∧ ∀ i, PyData.int i ∈ ds → i ≤ 2 ^ 40
  | _ => True
theorem ints_of {H : Hp} : ∀ {xs : List V} {ds : List PyData}, DecVs H xs ds → (ds.all fun d => whF d 0) = true → xs = (intsD ds).map V.int ∧ (∀ n ∈ intsD ds, 0 ≤ n ∧ PyData.int n ∈ ds) ∧ (intsD ds).length = ds.length
  | _, _, .nil, _ => ⟨rfl, fun n h => (by cases h), rfl⟩
  | _, _, .cons (d := d) (ds := ds) h t, a => by
    rw [List.all_cons, Bool.and_eq_true] at a
    obtain ⟨e, k, l⟩ := ints_of t a.2
    cases h with
    | int i =>
      refine ⟨by rw [e]; rfl, fun n hn => ?_, by simp [intsD, l]⟩
      rcases List.mem_cons.mp hn with rfl | hn
      · exact ⟨of_decide_eq_true a.1, List.mem_cons_self ..⟩
      · exact ⟨(k n hn).1, List.mem_cons_of_mem _ (k n hn).2⟩
    | non => exact absurd a.1 (by decide)
    | bl b => exact absurd a.1 (by simp [whF])
    | str x => exact absurd a.1 (by simp [whF])
    | lst e _ => exact absurd a.1 (by simp [whF])
    | tup e _ => exact absurd a.1 (by simp [whF])
noncomputable def spPw : Sp := fun vs H Q _ => ∃ (v : V) (d : PyData) (many : Int), vs = [v, .int many] ∧ DecV H v d ∧ pwOk d ∧ ∀ H', Same H H' → Q (.bl (pwB d many)) H'
section
variable {P : Program} {w : World} {K : PySem.W.Frag} {mg : Str → Option Value} {base : Heap} {f fd : _}
theorem scWF : FnScope ["thing", "low"] ["thing", "low"] (defScope sWF) := ⟨rfl, rfl, rfl, by decide +kernel, rfl, by decide +kernel, by decide +kernel⟩
theorem ok_wf (F : Fun K "is_whole_from" "is_whole_from" sWF f fd) (T : Txt mg) : FnOk P w K mg base CX0 1 f fd ["thing", "low"] spWF := by
  refine F.ok scWF (fun vs H Q E h => ?_) (fun cdv A outer s H vs Q E hr h => ?_)
  · obtain ⟨v, d, low, rfl, _⟩ := h
    rfl
  · obtain ⟨v, d, low, rfl, hd, q⟩ := h
    refine ⟨_, pss_one (ps_ret (pe_and (pe_isi isi_int T.isi T.int boot_int (pv 0)) (pe_and (pe_not (pe_isi isi_bool T.isi T.bool boot_bool (pv 0))) (pe_one (pe_cmpR op_ge (pv 0) (pv 1) (nomark _)))))), ?_⟩
    refine ⟨_, rfl, rfl, _, hd.kd, _, rfl, ?_⟩
    cases hd with
    | int i =>
      refine iteT ⟨_, rfl, rfl, _, .int i, _, rfl, _, rfl, iteT ?_⟩
      exact ⟨_, rfl, _, rfl, _, _, rfl, rfl, q⟩
    | bl b =>
      refine iteT ⟨_, rfl, rfl, _, .bl b, _, rfl, _, rfl, iteF ?_⟩
      exact q
    | non => exact iteF q
    | str x => exact iteF q
    | lst e _ => exact iteF q
    | tup e _ => exact iteF q
theorem scPw : FnScope ["thing", "many"] ["thing", "many"] (defScope sPw) := ⟨rfl, rfl, rfl, by decide +kernel, rfl, by decide +kernel, by decide +kernel⟩
theorem ok_pw {fW : Addr} {fdW : FuncData} (F : Fun K "are_powers" "are_powers" sPw f fd) (T : Txt mg) (DW : Df K mg "is_whole_from" sWF ["thing", "low"] fW fdW) : FnOk P w K mg base CX0 3 f fd ["thing", "many"] spPw := by
  have GW : FnOk P w K mg base CX0 1 fW fdW ["thing", "low"] spWF := ok_wf DW.F T
  obtain ⟨td, hdg⟩ := T.degree
  refine F.ok scPw (fun vs H Q E h => ?_) (fun cdv A outer s H vs Q E hr h => ?_)
  · obtain ⟨v, d, many, rfl, _⟩ := h
    rfl
  · obtain ⟨v, d, many, rfl, hd, hp, q⟩ := h
    have hr1 : Room 1 _ := hr.mono (by decide)
    refine ⟨_, pss_cons (ps_if (PW.pt (pw_or (pt_not (pt_val (pe_isi isi_tup T.isi T.tup boot_tuple (pv 0)))) (pw_or1 (pt_cmpR op_ne (pe_callB call_len_seq (by rfl) T.len PySem.boot_len (pa_cons (pv 0) pa_nil)) (pv 1) (nomark _))))) (pss_one (ps_ret pe_bl)) pss_nil)
      (pss_cons (ps_if (pt_not (pt_val (pe_callB (call_all rfl) (by rfl) T.all boot_all (pa_cons (pe_compN (N := ["power"]) rfl rfl (by decide +kernel) (by decide +kernel) (by decide +kernel) (pi_tup (pv 0)) (fun C fp s2 H2 => pg_name (i := 0) (show List.Nodup (["power"] : List Str) by decide +kernel) rfl (Or.inl rfl)) (fun C fp s2 H2 => pe_call GW hr1 rfl DW.m DW.F.kp DW.b .nil pass0 (pa_cons (pv 0) (pa_cons pe_int pa_nil)))) pa_nil)))) (pss_one (ps_ret pe_bl)) pss_nil)
      (pss_one (ps_ret (pe_cmpR op_le (pe_callB (call_sumT rfl) (by rfl) T.sum boot_sum (pa_cons (pv 0) pa_nil)) (pe_glob (v := .int 16) (by rfl) hdg ⟨_, rfl⟩) (nomark _))))), ?_⟩
    refine ⟨_, rfl, rfl, _, hd.kd, _, rfl, ?_⟩
    cases hd with
    | non => exact iteT (iteT (q _ (Same.refl _)))
    | bl b => exact iteT (iteT (q _ (Same.refl _)))
    | int i => exact iteT (iteT (q _ (Same.refl _)))
    | str x => exact iteT (iteT (q _ (Same.refl _)))
    | lst e _ => exact iteT (iteT (q _ (Same.refl _)))
    | @tup a xs ds e hx =>
      refine iteF ⟨_, rfl, a, xs, rfl, .inr (SqT.of e), _, rfl, rfl, _, rfl, ?_⟩
      have hlen := hx.length
      by_cases hl : (ds.length : Int) = many
      · refine iteN (by rw [hlen, hl]; simp) ?_
        refine ⟨_, rfl, a, rfl, ⟨xs, SqT.of e⟩, fun p H1 n1 s1 e1 => ?_⟩
        refine comp_tup (xs := xs) (fun i ys H2 => (∀ c o, H c = some o → H2 c = some o) ∧ H2 p = some (.lst ys) ∧ ys = (ds.take i).map fun d => V.bl (whF d 0)) (by rw [hlen]; exact Nat.lt_of_le_of_lt hp.1 (by decide)) ⟨s1, e1, rfl⟩ (fun i ys H2 h => ⟨SqT.of (h.1 _ _ e), h.2.1⟩) ?_ ?_
        · rintro i m ys x H2 hx' hm hl' ⟨k1, k2, rfl⟩
          obtain ⟨d, hd1, hd2⟩ := (hx.mono k1).get hx'
          refine ⟨_, rfl, x, d, 0, rfl, hd2, ?_⟩
          refine comp_next hx' hm hl' k2 ⟨fun c o h => ?_, upd_same, ?_⟩
          · rw [upd_ne (ne_of_none h n1)]
            exact k1 _ _ h
          · rw [List.take_add_one, hd1, List.map_append]
            rfl
        · rintro ys H2 hl' ⟨k1, k2, rfl⟩
          rw [hlen, List.take_length] at k2
          refine ⟨p, ds.map fun d => whF d 0, rfl, SqL.of (by rw [k2, List.map_map]; rfl), _, rfl, ?_⟩
          have ea : (ds.map fun d => whF d 0).all id = ds.all fun d => whF d 0 := by rw [List.all_map]; rfl
          rw [ea]
          by_cases al : (ds.all fun d => whF d 0) = true
          · obtain ⟨ex, kx, lx⟩ := ints_of hx al
            refine iteN (by rw [al]; rfl) ?_
            refine ⟨_, rfl, a, intsD ds, rfl, SqT.of (by rw [← ex]; exact k1 _ _ e), fun n hn => ⟨(kx n hn).1, hp.2 n (kx n hn).2⟩, by rw [lx]; exact hp.1, _, _, rfl, rfl, ?_⟩
            have z : pwB (.tuple ds) many = decide ((intsD ds).sum ≤ 16) := by simp only [pwB, hl, al, decide_true, Bool.true_and]
            rw [z] at q
            exact q _ k1
          · have al' : (ds.all fun d => whF d 0) = false := by simpa using al
            refine iteP (by rw [al']; rfl) ?_
            have z : pwB (.tuple ds) many = false := by simp only [pwB, al', Bool.and_false, Bool.false_and]
            rw [z] at q
            exact q _ k1
      · refine iteP (by rw [hlen]; simp [hl]) ?_
        have z : pwB (.tuple ds) many = false := by simp [pwB, hl]
        rw [z] at q
        exact q _ (Same.refl _)
end
end Lw

namespace Lw
open PySem PySem.Spec PyProof.Rows L2
noncomputable def fracD : PyData → Bool
  | .tuple [.int t, .int b] => decide (1 ≤ b) && decide (Int.gcd t b = 1)
  | _ => false
noncomputable def smD : PyData → Prop
  | .int i => i.natAbs < 2 ^ 1000
  | _ => True
noncomputable def frOk : PyData → Prop
  | .tuple ds => ∀ x ∈ ds, smD x
  | _ => True
noncomputable def nzD : PyData → Bool
  | .tuple [.int t, .int b] => !decide ([t, b] = [0, 1])
  | _ => true
noncomputable def termB : PyData → Int → Bool
  | .tuple [p, f], many => pwB p many && (fracD f && nzD f)
  | _, _ => false
noncomputable def tmOk : PyData → Prop
  | .tuple [p, f] => pwOk p ∧ frOk f
  | _ => True
noncomputable def spTerm : Sp := fun vs H Q _ => ∃ (v : V) (d : PyData) (many : Int), vs = [v, .int many] ∧ DecV H v d ∧ tmOk d ∧ ∀ H', Same H H' → Q (.bl (termB d many)) H'
theorem DecVs.sm {H : Hp} : ∀ {xs : List V} {ds : List PyData}, DecVs H xs ds → (∀ x ∈ ds, smD x) → ∀ x ∈ xs, Sm x ∧ ∃ k, KdOf H x k
  | _, _, .nil, _ => fun x h => (by cases h)
  | _, _, .cons h t, k => fun x hx => by
    rcases List.mem_cons.mp hx with rfl | hx
    · refine ⟨?_, _, h.kd⟩
      have := k _ (List.mem_cons_self ..)
      cases h <;> first | exact this | exact trivial
    · exact DecVs.sm t (fun y hy => k y (List.mem_cons_of_mem _ hy)) x hx
theorem frac_dec {H : Hp} {v : V} {d : PyData} (h : DecV H v d) (o : frOk d) : Thing H v ∧ fracB H v = fracD d := by
  cases h with
  | non => exact ⟨.sc .non (by decide), rfl⟩
  | bl b => exact ⟨.sc (.bl b) (by decide), rfl⟩
  | int i => exact ⟨.sc (.int i) (by decide), rfl⟩
  | str x => exact ⟨.sc (.str x) (by decide), rfl⟩
  | lst e _ => exact ⟨.sc (.lst e) (by decide), by simp only [fracB, e]; rfl⟩
  | @tup a xs ds e h =>
    refine ⟨.tup e (h.sm o), ?_⟩
    rw [frac_tup e]
    match xs, ds, h with
    | [], [], _ => rfl
    | [_], [_], .cons h1 .nil => rw [pair_len (by simp)]; cases h1 <;> rfl
    | [_, _], [_, _], .cons h1 (.cons h2 .nil) => cases h1 <;> cases h2 <;> rfl
    | _ :: _ :: _ :: _, _ :: _ :: _ :: _, _ =>
      rw [pair_len (by simp)]
      unfold fracD
      split
      · rename_i e
        injection e with e
        injection e with _ e
        injection e with _ e
        cases e
      · rfl
theorem fracD_inv {g : PyData} (h : fracD g = true) : ∃ t b, g = .tuple [.int t, .int b] := by
  unfold fracD at h
  split at h
  · exact ⟨_, _, rfl⟩
  · cases h
theorem dec_pair {H : Hp} {y : V} {t b : Int} (h : DecV H y (.tuple [.int t, .int b])) : ∃ c, y = .ref c ∧ H c = some (.tup [.int t, .int b]) := by
  cases h with
  | tup e h =>
    cases h with
    | cons h1 h =>
      cases h with
      | cons h2 h =>
        cases h
        cases h1
        cases h2
        exact ⟨_, rfl, e⟩
section
variable {P : Program} {w : World} {K : PySem.W.Frag} {mg : Str → Option Value} {base : Heap} {f fd : _}
noncomputable def Ngt (K : PySem.W.Frag) (mg : Str → Option Value) : Prop := ∃ a, mg "NOUGHT" = some (.ref a) ∧ ∀ H, SqT K H a (([0, 1] : List Int).map V.int)
theorem scTerm : FnScope ["thing", "many", "powers", "fraction"] ["thing", "many"] (defScope sTerm) := ⟨rfl, rfl, rfl, by decide +kernel, rfl, by decide +kernel, by decide +kernel⟩
theorem ok_term {fW fI fP fH fG : Addr} {fdW fdI fdP fdH fdG : FuncData} (F : Fun K "is_term" "is_term" sTerm f fd) (T : Txt mg) (N : Ngt K mg) (DW : Df K mg "is_whole_from" sWF ["thing", "low"] fW fdW) (DP : Df K mg "are_powers" sPw ["thing", "many"] fP fdP) (DI : Df K mg "is_fraction" sIsf ["thing"] fI fdI)
    (DH : Df K mg "is_whole" sWhole ["thing"] fH fdH) (DG : Df K mg "greatest_divisor" sGcd ["one", "other"] fG fdG) : FnOk P w K mg base CX0 4 f fd ["thing", "many"] spTerm := by
  have GP : FnOk P w K mg base CX0 3 fP fdP ["thing", "many"] spPw := ok_pw DP.F T DW
  have GI : FnOk P w K mg base CX0 2 fI fdI ["thing"] spIsf := ok_isf DI.F T DH DG
  obtain ⟨nA, hn, hN⟩ := N
  refine F.ok scTerm (fun vs H Q E h => ?_) (fun cdv A outer s H vs Q E hr h => ?_)
  · obtain ⟨v, d, many, rfl, _⟩ := h
    rfl
  · obtain ⟨v, d, many, rfl, hd, ho, q⟩ := h
    have hr2 : Room 2 _ := hr.mono (by decide)
    refine ⟨_, pss_cons (ps_if (PW.pt (pw_or (pt_not (pt_val (pe_isi isi_tup T.isi T.tup boot_tuple (pv 0)))) (pw_or1 (pt_cmpR op_ne (pe_callB call_len_seq (by rfl) T.len PySem.boot_len (pa_cons (pv 0) pa_nil)) pe_int (nomark _))))) (pss_one (ps_ret pe_bl)) pss_nil)
      (pss_cons (ps_asg (pv 0) (pg_tup rfl (pgs_cons (pg_name (i := 2) scTerm.nd rfl (Or.inl rfl)) (pgs_cons (pg_name (i := 3) scTerm.nd rfl (Or.inl rfl)) pgs_nil))))
      (pss_one (ps_ret (pe_and (pe_call GP hr rfl DP.m DP.F.kp DP.b .nil pass0 (pa_cons (pv 2) (pa_cons (pv 1) pa_nil))) (pe_and (pe_call GI hr2 rfl DI.m DI.F.kp DI.b .nil pass0 (pa_cons (pv 3) pa_nil)) (pe_one (pe_cmpR (LwT.op_neT hr.units0) (pv 3) (pe_glob (v := .ref nA) (by rfl) hn rfl) (nomark _)))))))), ?_⟩
    refine ⟨_, rfl, rfl, _, hd.kd, _, rfl, ?_⟩
    cases hd with
    | non => exact iteT (iteT (q _ (Same.refl _)))
    | bl b => exact iteT (iteT (q _ (Same.refl _)))
    | int i => exact iteT (iteT (q _ (Same.refl _)))
    | str x => exact iteT (iteT (q _ (Same.refl _)))
    | lst e _ => exact iteT (iteT (q _ (Same.refl _)))
    | @tup a xs ds e hx =>
      refine iteF ⟨_, rfl, a, xs, rfl, .inr (SqT.of e), rfl, _, rfl, ?_⟩
      match xs, ds, hx, e, ho, q with
      | [], [], _, e, ho, q => exact iteT (q _ (Same.refl _))
      | [_], [_], _, e, ho, q => exact iteT (q _ (Same.refl _))
      | [x, y], [p, g], .cons h1 (.cons h2 .nil), e, ho, q =>
        refine iteF ?_
        refine ⟨_, rfl, a, [x, y], rfl, SqT.of e, rfl, x, [y], rfl, y, [], rfl, rfl, ?_⟩
        refine ⟨_, rfl, _, rfl, x, p, many, rfl, h1, ho.1, fun H1 s1 => ⟨_, rfl, ?_⟩⟩
        cases e1 : pwB p many with
        | false =>
          have z : termB (.tuple [p, g]) many = false := by simp only [termB, e1, Bool.false_and]
          rw [z] at q
          exact iteF (q _ s1)
        | true =>
          obtain ⟨t1, t2⟩ := frac_dec (h2.mono s1) ho.2
          refine iteT ⟨_, rfl, y, rfl, t1, _, rfl, ?_⟩
          rw [t2]
          cases e2 : fracD g with
          | false =>
            have z : termB (.tuple [p, g]) many = false := by simp only [termB, e2, Bool.false_and, Bool.and_false]
            rw [z] at q
            exact iteF (q _ s1)
          | true =>
            refine iteT ?_
            have z : termB (.tuple [p, g]) many = nzD g := by simp only [termB, e1, e2, Bool.true_and]
            rw [z] at q
            obtain ⟨t, b, rfl⟩ := fracD_inv e2
            obtain ⟨c, rfl, ec⟩ := dec_pair (h2.mono s1)
            refine ⟨_, rfl, c, nA, [t, b], [0, 1], rfl, rfl, SqT.of ec, hN _, ?_⟩
            show Q (V.bl (LwT.lexNe [t, b] [0, 1])) H1
            rw [show LwT.lexNe [t, b] [0, 1] = nzD (.tuple [.int t, .int b]) from LwT.lexNe_eq [t, b] [0, 1]]
            exact q _ s1
      | x1 :: x2 :: x3 :: xs, d1 :: d2 :: d3 :: ds, hx, e, ho, q =>
        refine iteP ?_ (q _ (Same.refl _))
        rw [decide_eq_false]
        · rfl
        · intro z
          injection z with z
          simp only [List.length_cons] at z
          omega
end
end Lw

namespace Lw
open PySem PySem.Spec PyProof.Rows L2
noncomputable def powsD : PyData → List Int
  | .tuple (.tuple ds :: _) => intsD ds
  | _ => []
noncomputable def riseB (ts : List PyData) : Bool := (ts.zip (ts.drop 1)).all fun q => LwT.lexLt (powsD q.1) (powsD q.2)
noncomputable def sumB : PyData → Bool
  | .tuple [.int n, .tuple ts] => (decide (1 ≤ n) && decide (n ≤ 4)) && (decide (ts.length ≤ 500) && ((ts.all fun t => termB t n) && riseB ts))
  | _ => false
noncomputable def suOk : PyData → Prop
  | .tuple [_, .tuple ts] => ∀ t ∈ ts, tmOk t
  | _ => True
noncomputable def spSum : Sp := fun vs H Q _ => ∃ (v : V) (d : PyData), vs = [v] ∧ DecV H v d ∧ suOk d ∧ ∀ H', Same H H' → Q (.bl (sumB d)) H'
theorem term_inv {H : Hp} {x : V} {d : PyData} {n : Int} (h : DecV H x d) (e : termB d n = true) : ∃ a b y ns, x = .ref a ∧ H a = some (.tup [.ref b, y]) ∧ H b = some (.tup (ns.map V.int)) ∧ powsD d = ns := by
  unfold termB at e
  split at e
  · rename_i p g
    rw [Bool.and_eq_true] at e
    have e1 := e.1
    unfold pwB at e1
    split at e1
    · rename_i ds'
      rw [Bool.and_eq_true, Bool.and_eq_true] at e1
      cases h with
      | tup q h =>
        cases h with
        | cons h1 h =>
          cases h with
          | cons h2 h =>
            cases h
            cases h1 with
            | tup q1 h1 =>
              obtain ⟨ex, _⟩ := ints_of h1 e1.1.2
              exact ⟨_, _, _, intsD ds', rfl, q, by rw [q1, ex], rfl⟩
    · cases e1
  · cases e
theorem zip_all {ts : List PyData} {i : Nat} {a b : PyData} (h1 : ts[i]? = some a) (h2 : (ts.drop 1)[i]? = some b) : ((ts.zip (ts.drop 1)).take (i + 1)) = (ts.zip (ts.drop 1)).take i ++ [(a, b)] := by
  rw [List.take_add_one, List.getElem?_zip_eq_some (z := (a, b)) |>.mpr ⟨h1, h2⟩]
  rfl
theorem cut_tail (xs : List V) : cutV xs (some 1) none = xs.drop 1 := by
  unfold cutV
  have e1 : HT.sIx xs.length 0 (some 1) = min 1 xs.length := HT.sIx_nat xs.length 0 1
  have e2 : HT.sIx xs.length xs.length none = xs.length := rfl
  rw [e1, e2]
  cases xs with
  | nil => rfl
  | cons x xs =>
    have : min 1 (x :: xs).length = 1 := by simp
    rw [this, List.take_of_length_le (by simp)]
theorem DecVs.drop1 {H : Hp} {xs : List V} {ds : List PyData} (h : DecVs H xs ds) : DecVs H (xs.drop 1) (ds.drop 1) := by
  cases h with
  | nil => exact .nil
  | cons _ t => exact t
section
variable {P : Program} {w : World} {K : PySem.W.Frag} {mg : Str → Option Value} {base : Heap} {f fd : _}
theorem scSum : FnScope ["thing", "many", "terms"] ["thing"] (defScope sSum) := ⟨rfl, rfl, rfl, by decide +kernel, rfl, by decide +kernel, by decide +kernel⟩
theorem ok_sum {fW fI fP fH fG fT : Addr} {fdW fdI fdP fdH fdG fdT : FuncData} (F : Fun K "is_sum" "is_sum" sSum f fd) (T : Txt mg) (N : Ngt K mg) (DW : Df K mg "is_whole_from" sWF ["thing", "low"] fW fdW) (DP : Df K mg "are_powers" sPw ["thing", "many"] fP fdP) (DI : Df K mg "is_fraction" sIsf ["thing"] fI fdI)
    (DH : Df K mg "is_whole" sWhole ["thing"] fH fdH) (DG : Df K mg "greatest_divisor" sGcd ["one", "other"] fG fdG) (DT : Df K mg "is_term" sTerm ["thing", "many"] fT fdT) : FnOk P w K mg base CX0 5 f fd ["thing"] spSum := by
  have GW : FnOk P w K mg base CX0 1 fW fdW ["thing", "low"] spWF := ok_wf DW.F T
  have GT : FnOk P w K mg base CX0 4 fT fdT ["thing", "many"] spTerm := ok_term DT.F T N DW DP DI DH DG
  obtain ⟨tl, hlt⟩ := T.letters
  obtain ⟨tt, htt⟩ := T.terms
  refine F.ok scSum (fun vs H Q E h => ?_) (fun cdv A outer s H vs Q E hr h => ?_)
  · obtain ⟨v, d, rfl, _⟩ := h
    rfl
  · obtain ⟨v, d, rfl, hd, ho, q⟩ := h
    have hr1 : Room 1 _ := hr.mono (by decide)
    refine ⟨_, pss_cons (ps_if (PW.pt (pw_or (pt_not (pt_val (pe_isi isi_tup T.isi T.tup boot_tuple (pv 0)))) (pw_or1 (pt_cmpR op_ne (pe_callB call_len_seq (by rfl) T.len PySem.boot_len (pa_cons (pv 0) pa_nil)) pe_int (nomark _))))) (pss_one (ps_ret pe_bl)) pss_nil)
      (pss_cons (ps_asg (pv 0) (pg_tup rfl (pgs_cons (pg_name (i := 1) scSum.nd rfl (Or.inr rfl)) (pgs_cons (pg_name (i := 2) scSum.nd rfl (Or.inl rfl)) pgs_nil))))
      (pss_cons (ps_if (PW.pt (pw_or (pt_not (pt_val (pe_call GW hr1 rfl DW.m DW.F.kp DW.b .nil pass0 (pa_cons (pv 1) (pa_cons pe_int pa_nil))))) (pw_or1 (pt_cmpR op_gt (pv 1) (pe_glob (v := .int 4) (by rfl) hlt ⟨_, rfl⟩) (nomark _))))) (pss_one (ps_ret pe_bl)) pss_nil)
      (pss_cons (ps_if (PW.pt (pw_or (pt_not (pt_val (pe_isi isi_tup T.isi T.tup boot_tuple (pv 2)))) (pw_or1 (pt_cmpR op_gt (pe_callB call_len_seq (by rfl) T.len PySem.boot_len (pa_cons (pv 2) pa_nil)) (pe_glob (v := .int 500) (by rfl) htt ⟨_, rfl⟩) (nomark _))))) (pss_one (ps_ret pe_bl)) pss_nil)
      (pss_cons (ps_if (pt_not (pt_val (pe_callB (call_all rfl) (by rfl) T.all boot_all (pa_cons
          (pe_compF (own := 1) (idx := [1]) (N := ["term", "many"]) rfl rfl rfl (by decide +kernel) (by decide +kernel) (fun _ _ h => h) (has_of rfl) rfl (one_idx rfl ⟨rfl, rfl, rfl, rfl⟩) (pi_tup (pv 2)) (fun C fp s2 H2 => pg_name (i := 0) (show List.Nodup (["term", "many"] : List Str) by decide +kernel) rfl (Or.inl rfl)) (fun C fp s2 H2 => pe_call GT hr rfl DT.m DT.F.kp DT.b .nil pass0 (pa_cons (pv 0) (pa_cons (pv 1) pa_nil)))) pa_nil)))) (pss_one (ps_ret pe_bl)) pss_nil)
      (pss_one (ps_ret (pe_callB (call_all rfl) (by rfl) T.all boot_all (pa_cons
          (pe_compN (N := ["before", "behind"]) rfl rfl (by decide +kernel) (by decide +kernel) (by decide +kernel) (pi_zipT (by rfl) T.zip (pa_cons (pv 2) (pa_cons (pe_slice sl_tupH (pv 2) (po_some pe_int) po_none) pa_nil))) (fun C fp s2 H2 => show PG (cxComp _ ["before", "behind"] _ C fp s2 H2) _ (gTup K 2 (gCons (gName 0) (gCons (gName 1) gNil))) from pg_tup (X := cxComp _ ["before", "behind"] _ C fp s2 H2) rfl (pgs_cons (pg_name (i := 0) (show List.Nodup (["before", "behind"] : List Str) by decide +kernel) rfl (Or.inl rfl) (Or.inl rfl)) (pgs_cons (pg_name (i := 1) (show List.Nodup (["before", "behind"] : List Str) by decide +kernel) rfl (Or.inl rfl) (Or.inl rfl)) pgs_nil)))
            (fun C fp s2 H2 => pe_cmpR (show OpR (cxComp _ ["before", "behind"] _ C fp s2 H2) (compareOp .Lt) (LwT.rOrdT K LwT.lexLt) from LwT.op_ltT hr.units0) (pe_ix (show IxR (cxComp _ ["before", "behind"] _ C fp s2 H2) (rIxT K) from ix_tup) (pv 0) pe_int (fun _ _ => rfl)) (pe_ix (show IxR (cxComp _ ["before", "behind"] _ C fp s2 H2) (rIxT K) from ix_tup) (pv 1) pe_int (fun _ _ => rfl)) (nomark _))) pa_nil)))))))), ?_⟩
    have no : sumB d = false → Q (.bl false) H := fun z => by have := q H (Same.refl _); rwa [z] at this
    refine ⟨_, rfl, rfl, _, hd.kd, _, rfl, ?_⟩
    cases hd with
    | non => exact iteT (iteT (no rfl))
    | bl b => exact iteT (iteT (no rfl))
    | int i => exact iteT (iteT (no rfl))
    | str x => exact iteT (iteT (no rfl))
    | lst e _ => exact iteT (iteT (no rfl))
    | @tup a xs ds e hx =>
      refine iteF ⟨_, rfl, a, xs, rfl, .inr (SqT.of e), rfl, _, rfl, ?_⟩
      match xs, ds, hx, e, ho, q, no with
      | [], [], _, e, ho, q, no => exact iteT (no rfl)
      | [_], [d1], _, e, ho, q, no => exact iteT (no (by cases d1 <;> rfl))
      | x1 :: x2 :: x3 :: xs, d1 :: d2 :: d3 :: ds, hx, e, ho, q, no =>
        refine iteP ?_ (no (by cases d1 <;> cases d2 <;> rfl))
        rw [decide_eq_false]
        · rfl
        · intro z
          injection z with z
          simp only [List.length_cons] at z
          omega
      | [x, y], [dm, dt], .cons h1 (.cons h2 .nil), e, ho, q, no =>
        refine iteF ?_
        refine ⟨_, rfl, a, [x, y], rfl, SqT.of e, rfl, x, [y], rfl, y, [], rfl, rfl, ?_⟩
        refine ⟨_, rfl, x, dm, 1, rfl, h1, _, rfl, ?_⟩
        cases h1 with
        | non => exact iteT (iteT (no rfl))
        | bl b => exact iteT (iteT (no rfl))
        | str x => exact iteT (iteT (no rfl))
        | lst e _ => exact iteT (iteT (no rfl))
        | tup e _ => exact iteT (iteT (no rfl))
        | int n =>
        by_cases n1 : 1 ≤ n
        case neg =>
          refine iteP (by show (!decide (1 ≤ n)) = true; rw [decide_eq_false n1]; rfl) (iteT (no ?_))
          cases dt <;> first | rfl | (simp only [sumB, decide_eq_false n1, Bool.false_and])
        refine iteN (by show (!decide (1 ≤ n)) = false; rw [decide_eq_true n1]; rfl) ?_
        refine ⟨_, rfl, _, _, rfl, rfl, _, rfl, ?_⟩
        by_cases n4 : 4 < n
        case pos =>
          refine iteP (decide_eq_true n4) (no ?_)
          have : ¬ n ≤ 4 := by omega
          cases dt <;> first | rfl | (simp only [sumB, decide_eq_false this, Bool.false_and, Bool.and_false])
        refine iteN (decide_eq_false n4) ?_
        have n4' : n ≤ 4 := by omega
        refine ⟨_, rfl, rfl, _, h2.kd, _, rfl, ?_⟩
        cases h2 with
        | non => exact iteT (iteT (no rfl))
        | bl b => exact iteT (iteT (no rfl))
        | int i => exact iteT (iteT (no rfl))
        | str x => exact iteT (iteT (no rfl))
        | lst e _ => exact iteT (iteT (no rfl))
        | @tup a2 ts dts e2 ht =>
        have hlen := ht.length
        refine iteF ⟨_, rfl, a2, ts, rfl, .inr (SqT.of e2), _, _, rfl, rfl, _, rfl, ?_⟩
        by_cases n5 : dts.length ≤ 500
        case neg =>
          refine iteP (decide_eq_true (by rw [hlen]; omega)) (no ?_)
          simp only [sumB, decide_eq_false n5, Bool.false_and, Bool.and_false]
        refine iteN (decide_eq_false (by rw [hlen]; omega)) ?_
        have zs : sumB (.tuple [.int n, .tuple dts]) = ((dts.all fun t => termB t n) && riseB dts) := by
          simp only [sumB, decide_eq_true n1, decide_eq_true n4', decide_eq_true n5, Bool.true_and]
        rw [zs] at q
        clear no zs
        have tsz : ts.length < sizeLine := by rw [hlen]; exact Nat.lt_of_le_of_lt n5 (by decide)
        refine ⟨_, rfl, a2, rfl, ⟨ts, SqT.of e2⟩, fun p H1 n1' s1 e1 => ?_⟩
        refine comp_tupF (xs := ts) (fun i ys H2 => Same H H2 ∧ H2 p = some (.lst ys) ∧ ys = (dts.take i).map fun d => V.bl (termB d n)) tsz ⟨s1, e1, rfl⟩ (fun i ys H2 h => ⟨SqT.of (h.1 _ _ e2), h.2.1⟩) ?_ ?_
        · rintro i m ys x H2 hx' hm hl' ⟨k1, k2, rfl⟩
          obtain ⟨d, hd1, hd2⟩ := (ht.mono k1).get hx'
          refine ⟨keep1, _, rfl, _, rfl, x, d, n, rfl, hd2, ho d (List.mem_of_getElem? hd1), fun H3 s3 => ?_⟩
          refine comp_next hx' hm hl' (s3 _ _ k2) ⟨put_same (k1.trans s3) n1', upd_same, ?_⟩
          rw [List.take_add_one, hd1, List.map_append]
          rfl
        · rintro ys H2 hl' ⟨k1, k2, rfl⟩
          rw [hlen, List.take_length] at k2
          refine ⟨p, dts.map fun d => termB d n, rfl, SqL.of (by rw [k2, List.map_map]; rfl), _, rfl, ?_⟩
          have ea : (dts.map fun d => termB d n).all id = dts.all fun d => termB d n := by rw [List.all_map]; rfl
          rw [ea]
          cases al : dts.all fun d => termB d n with
          | false =>
            rw [al] at q
            exact iteT (q _ k1)
          | true =>
            rw [al, Bool.true_and] at q
            refine iteF ?_
            have alt : ∀ d ∈ dts, termB d n = true := List.all_eq_true.mp al
            have d1 := ht.drop1
            refine ⟨_, rfl, _, rfl, 1, rfl, a2, ts, rfl, k1 _ _ e2, fun p2 H3 s3 e3 => ?_⟩
            rw [cut_tail] at e3
            have k3 : Same H H3 := k1.trans s3
            refine ⟨a2, p2, rfl, ⟨ts, SqT.of (k3 _ _ e2)⟩, ⟨_, SqT.of e3⟩, fun p3 H4 n4 s4 e4 => ?_⟩
            refine comp_zip (ts := ts) (us := ts.drop 1) (fun i ys H5 => Same H3 H5 ∧ H5 p3 = some (.lst ys) ∧ ys = ((dts.zip (dts.drop 1)).take i).map fun q => V.bl (LwT.lexLt (powsD q.1) (powsD q.2))) (by simp) (by simp; omega) ⟨s4, e4, rfl⟩
              (fun i ys H5 h => ⟨SqT.of ((k3.trans h.1) _ _ e2), SqT.of (h.1 _ _ e3), h.2.1⟩) ?_ ?_
            · rintro i m ys x y c H5 hx' hy' hm hl' ⟨j1, j2, rfl⟩ hc
              obtain ⟨dx, ex1, ex2⟩ := (ht.mono (k3.trans j1)).get hx'
              obtain ⟨dy, ey1, ey2⟩ := (d1.mono (k3.trans j1)).get hy'
              obtain ⟨ax, bx, wx, ns, rfl, hax, hbx, rfl⟩ := term_inv ex2 (alt _ (List.mem_of_getElem? ex1))
              obtain ⟨ay, by', wy, ms, rfl, hay, hby, rfl⟩ := term_inv ey2 (alt _ (List.mem_of_mem_drop (List.mem_of_getElem? ey1)))
              have su : Same H5 (upd H5 c (.tup [.ref ax, .ref ay])) := same_upd _ hc
              refine ⟨c, [.ref ax, .ref ay], rfl, SqT.of upd_same, rfl, _, _, rfl, _, _, rfl, rfl, ?_⟩
              refine ⟨_, rfl, ax, _, _, _, rfl, rfl, SqT.of (su _ _ hax), rfl, _, rfl, ay, _, _, _, rfl, rfl, SqT.of (su _ _ hay), rfl, bx, by', _, _, rfl, rfl, SqT.of (su _ _ hbx), SqT.of (su _ _ hby), ?_⟩
              refine comp_next hy' hm hl' (su _ _ j2) ⟨put_same (j1.trans su) n4, upd_same, ?_⟩
              rw [zip_all ex1 ey1, List.map_append]
              rfl
            · rintro ys H5 hl' ⟨j1, j2, rfl⟩
              have el : (dts.zip (dts.drop 1)).length = (ts.drop 1).length := by rw [List.length_zip, List.length_drop, List.length_drop, hlen]; omega
              rw [← el, List.take_length] at j2
              refine ⟨p3, (dts.zip (dts.drop 1)).map fun q => LwT.lexLt (powsD q.1) (powsD q.2), rfl, SqL.of (by rw [j2, List.map_map]; rfl), ?_⟩
              have ez : ((dts.zip (dts.drop 1)).map fun q => LwT.lexLt (powsD q.1) (powsD q.2)).all id = riseB dts := by rw [List.all_map]; rfl
              rw [ez]
              exact q _ (k3.trans j1)
end
end Lw

namespace Lw
open PySem PySem.Spec PyProof.Rows L2 LwS
noncomputable def Ltr (K : PySem.W.Frag) (mg : Str → Option Value) : Prop := ∃ a, mg "LETTERS" = some (.ref a) ∧ (∀ H, SqT K H a [.str (ltr 0), .str (ltr 1), .str (ltr 2), .str (ltr 3)]) ∧ ∃ o, K.lookup a = some o ∧ o.cls = .type "tuple" ∧ o.dict = none
theorem dec_one (b : Int) : decide (V.int b = V.int 1) = decide (b = 1) := by
  by_cases h : b = 1
  · rw [h]; rfl
  · rw [decide_eq_false h, decide_eq_false]
    intro z
    injection z with z
    exact h z
structure TAt (H : Hp) (b c : Addr) (x : Trm) : Prop where
  pw : H b = some (.tup (x.ns.map V.int))
  nb : At2 H c x.t x.b
theorem TAt.map {H H' : Hp} {b c : Addr} {x : Trm} (h : TAt H b c x) (k : ∀ a xs, H a = some (.tup xs) → H' a = some (.tup xs)) : TAt H' b c x := ⟨k _ _ h.pw, k _ _ h.nb⟩
noncomputable def spShNum : Sp := fun vs H Q _ => ∃ (c : Addr) (many : Nat) (x : Trm), vs = [.ref c] ∧ At2 H c x.t x.b ∧ TmOk many x ∧ Q (.str (ntx x.t x.b)) H
noncomputable def spShTerm : Sp := fun vs H Q _ => ∃ (b c : Addr) (many : Nat) (x : Trm), vs = [.ref b, .ref c] ∧ TAt H b c x ∧ TmOk many x ∧ many ≤ 4 ∧ ∀ H', Same H H' → Q (.str (ttx x)) H'
section
variable {P : Program} {w : World} {K : PySem.W.Frag} {mg : Str → Option Value} {base : Heap} {f fd : _}
theorem scShNum : FnScope ["number", "top", "bottom"] ["number"] (defScope sShNum) := ⟨rfl, rfl, rfl, by decide +kernel, rfl, by decide +kernel, by decide +kernel⟩
theorem ok_shnum (F : Fun K "shown_number" "shown_number" sShNum f fd) (T : Txt mg) : FnOk P w K mg base CX0 1 f fd ["number"] spShNum := by
  refine F.ok scShNum (fun vs H Q E h => ?_) (fun cdv A outer s H vs Q E hr h => ?_)
  · obtain ⟨c, many, x, rfl, _⟩ := h
    rfl
  · obtain ⟨c, many, x, rfl, hc, ok, q⟩ := h
    refine ⟨_, pss_cons (ps_asg (pv 0) (pg_tup rfl (pgs_cons (pg_name (i := 1) scShNum.nd rfl (Or.inl rfl)) (pgs_cons (pg_name (i := 2) scShNum.nd rfl (Or.inl rfl)) pgs_nil))))
      (pss_cons (ps_if (pt_cmpR op_eq (pv 2) pe_int (nomark _)) (pss_one (ps_ret (pe_callTy call_str_int (by rfl) T.str boot_str (pa_cons (pv 1) pa_nil)))) pss_nil)
      (pss_one (ps_ret (pe_f3 (pv 1) (pv 2))))), ?_⟩
    have l1 := log_lt ok.st (by decide) (by decide)
    have l2 := log_lt ok.sb (by decide) (by decide)
    have e1 := itx_len (by decide) ok.t10
    have e2 := itx_len (by decide) ok.b10
    refine ⟨_, rfl, c, _, rfl, SqT.of hc, rfl, _, _, rfl, _, _, rfl, rfl, ?_⟩
    refine ⟨_, rfl, rfl, _, rfl, ?_⟩
    rw [dec_one]
    refine ite2 (fun e => ?_) (fun e => ?_)
    · refine ⟨_, rfl, _, rfl, l1, ?_⟩
      have : ntx x.t x.b = itx x.t := if_pos (of_decide_eq_true e)
      rw [this] at q
      exact q
    · have : ntx x.t x.b = itx x.t ++ ⟨#[47]⟩ ++ itx x.b := if_neg fun z => e (decide_eq_true z)
      rw [this] at q
      refine ⟨_, rfl, itx x.t, ⟨l1, rfl⟩, ?_, _, rfl, itx x.b, ⟨l2, rfl⟩, ?_, q⟩
      · show (itx x.t).length + 1 ≤ sizeLine
        exact Nat.le_trans (show _ ≤ 1000 by omega) (by decide)
      · show (itx x.t).length + 1 + (itx x.b).length ≤ sizeLine
        exact Nat.le_trans (show _ ≤ 1000 by omega) (by decide)
theorem letter_at {i : Nat} {u : V} (hi : i < 4 ∨ True) (hu : ([.str (ltr 0), .str (ltr 1), .str (ltr 2), .str (ltr 3)] : List V)[i]? = some u) : u = .str (ltr i) := by
  match i, hu with
  | 0, h => exact (Option.some.inj h).symm
  | 1, h => exact (Option.some.inj h).symm
  | 2, h => exact (Option.some.inj h).symm
  | 3, h => exact (Option.some.inj h).symm
  | n + 4, h => simp at h
inductive ShI (K : PySem.W.Frag) (H : Hp) (b c l : Addr) (x : Trm) (i : Nat) : L2.St → Hp → Prop where
  | mk {u v : Option V} {H' : Hp} (s : Same H H') (e : H' l = some (.lst ((ntx x.t x.b :: (wl 0 (x.ns.take i)).map wtx).map V.str))) (n : H l = none) : ShI K H b c l x i [some (.ref b), some (.ref c), some (.ref l), u, v] H'
theorem scShTerm : FnScope ["powers", "number", "words", "letter", "power"] ["powers", "number"] (defScope sShTerm) := ⟨rfl, rfl, rfl, by decide +kernel, rfl, by decide +kernel, by decide +kernel⟩
theorem ok_shterm {fN : Addr} {fdN : FuncData} (F : Fun K "shown_term" "shown_term" sShTerm f fd) (T : Txt mg) (L : Ltr K mg) (DN : Df K mg "shown_number" sShNum ["number"] fN fdN) : FnOk P w K mg base CX0 2 f fd ["powers", "number"] spShTerm := by
  have GN : FnOk P w K mg base CX0 1 fN fdN ["number"] spShNum := ok_shnum DN.F T
  obtain ⟨la, lm, ls, _⟩ := L
  refine F.ok scShTerm (fun vs H Q E h => ?_) (fun cdv A outer s H vs Q E hr h => ?_)
  · obtain ⟨b, c, many, x, rfl, _⟩ := h
    rfl
  · obtain ⟨b, c, many, x, rfl, hx, ok, hm, q⟩ := h
    have hr1 : Room 1 _ := hr.mono (by decide)
    refine ⟨_, pss_cons (ps_set (i := 2) scShTerm.nd rfl (Or.inl rfl) (pe_lstF (pa_cons (pe_call GN hr1 rfl DN.m DN.F.kp DN.b .nil pass0 (pa_cons (pv 1) pa_nil)) pa_nil)))
      (pss_cons (ps_for PassesOwn.never rfl (pi_zipT (by rfl) T.zip (pa_cons (pe_glob (v := .ref la) (by rfl) lm rfl) (pa_cons (pv 0) pa_nil))) (pg_tup rfl (pgs_cons (pg_name (i := 3) scShTerm.nd rfl (Or.inl rfl)) (pgs_cons (pg_name (i := 4) scShTerm.nd rfl (Or.inl rfl)) pgs_nil)))
        (pss_cons (ps_if (pt_cmpR op_eq (pv 4) pe_int (nomark _)) (pss_one (ps_expr (pe_bm PySem.F.plainAttrs_list PySem.F.slot_list_append PySem.F.type_list_append mt_append (pv 2) (pa_cons (pv 3) pa_nil)))) pss_nil)
        (pss_one (ps_if (pt_cmpR op_gt (pv 4) pe_int (nomark _)) (pss_one (ps_expr (pe_bm PySem.F.plainAttrs_list PySem.F.slot_list_append PySem.F.type_list_append mt_append (pv 2) (pa_cons (pe_f3 (pv 3) (pv 4)) pa_nil)))) pss_nil))))
      (pss_one (ps_ret (pe_bm PySem.F.plainAttrs_str PySem.F.slot_str_join PySem.F.type_str_join mt_join pe_str (pa_cons (pv 2) pa_nil))))), ?_⟩
    refine ⟨_, rfl, c, many, x, rfl, hx.nb, ok, (by show 1 ≤ sizeLine; decide), fun l H1 n1 s1 e1 => ?_⟩
    refine ⟨_, rfl, la, b, rfl, ⟨_, ls H1⟩, ⟨_, SqT.of (s1 _ _ hx.pw)⟩, ?_⟩
    have nl : (x.ns.map V.int).length = many := by rw [List.length_map, ok.len]
    refine for_zipL (xs := [.str (ltr 0), .str (ltr 1), .str (ltr 2), .str (ltr 3)]) (ys := x.ns.map V.int) (ShI K H b c l x) (by rw [nl]; exact hm) (.mk s1 (by rw [List.take_zero]; exact e1) n1) (fun i σ H2 _ h => ?_) (fun i u v p σ H2 hu hv hp h => ?_) (fun σ H2 h => ?_)
    · obtain ⟨s2, e2, _⟩ := h
      exact ⟨ls H2, SqT.of (s2 _ _ hx.pw)⟩
    · obtain ⟨s2, e2, _⟩ := h
      have hi : i < x.ns.length := by
        have := (List.getElem?_eq_some_iff.mp hv).1
        rwa [List.length_map] at this
      obtain ⟨n, hn⟩ : ∃ n, x.ns[i]? = some n := ⟨x.ns[i], by simp [hi]⟩
      have ev : v = .int n := by rw [List.getElem?_map, hn] at hv; exact (Option.some.inj hv).symm
      have eu : u = .str (ltr i) := letter_at (.inr True.intro) hu
      subst ev eu
      have nb := ok.le (List.mem_of_getElem? hn)
      have et : x.ns.take (i + 1) = x.ns.take i ++ [n] := by rw [List.take_add_one, hn]; rfl
      have ti : (x.ns.take i).length = i := by rw [List.length_take]; omega
      have s3 : Same H2 (upd H2 p (.tup [.str (ltr i), .int n])) := same_upd _ hp
      have e3 := s3 _ _ e2
      have pl : p ≠ l := fun z => by rw [z, e2] at hp; cases hp
      have few : ((ntx x.t x.b :: (wl 0 (x.ns.take i)).map wtx).map V.str).length < sizeLine := by
        have := wl_len (x.ns.take i) 0
        simp only [List.length_map, List.length_cons]
        exact Nat.lt_of_le_of_lt (show _ ≤ 5 by have := ok.len; omega) (by decide)
      refine ⟨p, _, rfl, SqT.of upd_same, rfl, _, _, rfl, _, _, rfl, rfl, ?_⟩
      refine ⟨_, rfl, rfl, _, rfl, ?_⟩
      rw [dec_one]
      have go : ∀ (y : List Str) (H4 : Hp), Same H H4 → wl 0 (x.ns.take (i + 1)) = wl 0 (x.ns.take i) ++ (if 1 ≤ n then [(i, n)] else []) → (if 1 ≤ n then [(i, n)] else []).map wtx = y → H4 l = some (.lst ((ntx x.t x.b :: (wl 0 (x.ns.take i)).map wtx).map V.str ++ y.map V.str)) → ShI K H b c l x (i + 1) [some (.ref b), some (.ref c), some (.ref l), some (.str (ltr i)), some (.int n)] H4 := fun y H4 s4 ew ey e4 =>
        .mk s4 (by rw [e4, ew, List.map_append, ey, ← List.cons_append, List.map_append]) n1
      have ew : wl 0 (x.ns.take (i + 1)) = wl 0 (x.ns.take i) ++ (if 1 ≤ n then [(i, n)] else []) := by rw [et, wl_snoc, ti, Nat.zero_add]
      have put : ∀ z : V, Same H (upd (upd H2 p (.tup [.str (ltr i), .int n])) l (.lst ((ntx x.t x.b :: (wl 0 (x.ns.take i)).map wtx).map V.str ++ [z]))) := fun z => put_same (s2.trans s3) n1
      rcases Int.lt_trichotomy n 1 with h | h | h
      · refine iteN (decide_eq_false (by omega)) ⟨_, rfl, _, _, rfl, rfl, _, rfl, iteN (decide_eq_false (by omega)) ?_⟩
        exact go [] _ (s2.trans s3) ew (by rw [if_neg (by omega)]; rfl) (by rw [List.map_nil, List.append_nil]; exact e3)
      · refine iteP (decide_eq_true h) ⟨_, rfl, .inl ⟨rfl, _, SqL.of e3⟩, _, rfl, l, _, _, rfl, rfl, e3, few, ?_⟩
        refine ⟨_, rfl, _, _, rfl, rfl, _, rfl, iteN (decide_eq_false (by omega)) ?_⟩
        exact go [ltr i] _ (put _) ew (by rw [if_pos (by omega), h]; rfl) upd_same
      · refine iteN (decide_eq_false (by omega)) ⟨_, rfl, _, _, rfl, rfl, _, rfl, iteP (decide_eq_true h) ?_⟩
        have li := itx_len (by decide) (small10 nb.1 nb.2)
        refine ⟨_, rfl, .inl ⟨rfl, _, SqL.of e3⟩, _, rfl, ltr i, ⟨(by show 1 ≤ sizeLine; decide), rfl⟩, (by show 1 + 1 ≤ sizeLine; decide), _, rfl, itx n, ⟨log_lt (k := 10) (by omega) (by decide) (by decide), rfl⟩, ?_, l, _, _, rfl, rfl, e3, few, ?_⟩
        · show 1 + 1 + (itx n).length ≤ sizeLine
          exact Nat.le_trans (show _ ≤ 5 by omega) (by decide)
        · exact go [wtx (i, n)] _ (put _) ew (by rw [if_pos (by omega)]; rfl) (by
            have : wtx (i, n) = ltr i ++ ⟨#[94]⟩ ++ itx n := if_neg (by show ¬ n = 1; omega)
            rw [this]
            exact upd_same)
    · obtain ⟨s2, e2, _⟩ := h
      rw [nl, ← ok.len, List.take_length] at e2
      refine ⟨rfl, _, rfl, ⟨#[32]⟩, l, _, rfl, rfl, SqL.of e2, ?_, q _ s2⟩
      refine join_ok (B := 444) (fun y hy => ?_) ?_
      · rcases List.mem_cons.mp hy with rfl | hy
        · exact ntx_len ok
        · exact Nat.le_trans (words_len ok y hy) (by decide)
      · have := wl_len x.ns 0
        have := ok.len
        have e : (⟨#[32]⟩ : Str).length = 1 := rfl
        rw [e, List.length_cons, List.length_map]
        omega
end
end Lw

namespace Lw
open PySem PySem.Spec PyProof.Rows L2 LwS
structure TrmV (H : Hp) (v : V) (x : Trm) : Prop where
  ex : ∃ r b c : Addr, v = .ref r ∧ H r = some (.tup [.ref b, .ref c]) ∧ TAt H b c x
theorem TrmV.map {H H' : Hp} {v : V} {x : Trm} (h : TrmV H v x) (k : ∀ a xs, H a = some (.tup xs) → H' a = some (.tup xs)) : TrmV H' v x := by
  obtain ⟨r, b, c, e1, e2, e3⟩ := h.ex
  exact ⟨r, b, c, e1, k _ _ e2, e3.map k⟩
structure Poly (H : Hp) (p : Addr) (many : Nat) (ts : List Trm) : Prop where
  ex : ∃ (q : Addr) (xs : List V), H p = some (.tup [.int many, .ref q]) ∧ H q = some (.tup xs) ∧ Paired (TrmV H) xs ts
theorem Paired.to {α β : Type} {F G : α → β → Prop} (f : ∀ a b, F a b → G a b) : ∀ {l₁ : List α} {l₂ : List β}, Paired F l₁ l₂ → Paired G l₁ l₂
  | _, _, .nil => .nil
  | _, _, .cons h t => .cons (f _ _ h) (Paired.to f t)
theorem Poly.map {H H' : Hp} {p : Addr} {many : Nat} {ts : List Trm} (h : Poly H p many ts) (k : ∀ a xs, H a = some (.tup xs) → H' a = some (.tup xs)) : Poly H' p many ts := by
  obtain ⟨q, xs, e1, e2, e3⟩ := h.ex
  exact ⟨q, xs, k _ _ e1, k _ _ e2, Paired.to (fun _ _ h => h.map k) e3⟩
theorem Poly.same {H H' : Hp} {p : Addr} {many : Nat} {ts : List Trm} (h : Poly H p many ts) (s : Same H H') : Poly H' p many ts := h.map fun _ _ e => s _ _ e
theorem Paired.rev {α β : Type} {F : α → β → Prop} : ∀ {l₁ : List α} {l₂ : List β}, Paired F l₁ l₂ → Paired F l₁.reverse l₂.reverse
  | _, _, .nil => .nil
  | _, _, .cons h t => by
    rw [List.reverse_cons, List.reverse_cons]
    exact pair_app (Paired.rev t) (.cons h .nil)
where pair_app {α β : Type} {F : α → β → Prop} : ∀ {a b : List α} {c d : List β}, Paired F a c → Paired F b d → Paired F (a ++ b) (c ++ d)
  | _, _, _, _, .nil, h => h
  | _, _, _, _, .cons h t, k => .cons h (pair_app t k)
theorem Paired.at {α β : Type} {F : α → β → Prop} : ∀ {l₁ : List α} {l₂ : List β} {i : Nat} {x : α}, Paired F l₁ l₂ → l₁[i]? = some x → ∃ y, l₂[i]? = some y ∧ F x y
  | _, _, _, _, .nil, h => by simp at h
  | _, _, 0, _, .cons h t, e => by
    cases (Option.some.inj e)
    exact ⟨_, rfl, h⟩
  | _, _, i + 1, _, .cons h t, e => Paired.at t (i := i) e
noncomputable def trmD (x : Trm) : PyData := .tuple [.tuple (x.ns.map PyData.int), .tuple [.int x.t, .int x.b]]
noncomputable def polyD (many : Nat) (ts : List Trm) : PyData := .tuple [.int many, .tuple (ts.map trmD)]
theorem dec_ints {H : Hp} : ∀ ns : List Int, DecVs H (ns.map V.int) (ns.map PyData.int)
  | [] => .nil
  | n :: r => .cons (.int n) (dec_ints r)
theorem TrmV.dec {H : Hp} {v : V} {x : Trm} (h : TrmV H v x) : DecV H v (trmD x) := by
  obtain ⟨r, b, c, rfl, e2, e3⟩ := h.ex
  exact .tup e2 (.cons (.tup e3.pw (dec_ints _)) (.cons (.tup e3.nb (.cons (.int _) (.cons (.int _) .nil))) .nil))
theorem dec_trms {H : Hp} : ∀ {xs : List V} {ts : List Trm}, Paired (TrmV H) xs ts → DecVs H xs (ts.map trmD)
  | _, _, .nil => .nil
  | _, _, .cons h t => .cons h.dec (dec_trms t)
theorem Poly.dec {H : Hp} {p : Addr} {many : Nat} {ts : List Trm} (h : Poly H p many ts) : DecV H (.ref p) (polyD many ts) := by
  obtain ⟨q, xs, e1, e2, e3⟩ := h.ex
  exact .tup e1 (.cons (.int _) (.cons (.tup e2 (dec_trms e3)) .nil))
theorem lay_ints : ∀ ns : List Int, PyData.canLayAll0 (ns.map PyData.int) = true ∧ PyData.depthAll (ns.map PyData.int) ≤ 5
  | [] => ⟨by simp [PyData.canLayAll0], by simp [PyData.depthAll]⟩
  | n :: r => by
    have := lay_ints r
    exact ⟨by simp [PyData.canLayAll0, PyData.canLay0, this.1], by simp [PyData.depthAll, PyData.depth]; omega⟩
theorem lay_trms : ∀ ts : List Trm, PyData.canLayAll0 (ts.map trmD) = true ∧ PyData.depthAll (ts.map trmD) ≤ 20
  | [] => ⟨by simp [PyData.canLayAll0], by simp [PyData.depthAll]⟩
  | x :: r => by
    have h1 := lay_trms r
    have h2 := lay_ints x.ns
    exact ⟨by simp [PyData.canLayAll0, PyData.canLay0, trmD, h1.1, h2.1], by simp [PyData.depthAll, PyData.depth, trmD]; omega⟩
theorem trms_ok (ts : List Trm) : DataOk (.tuple (ts.map trmD)) := by
  have h1 := lay_trms ts
  exact ⟨by simp [PyData.canLay0, h1.1], by simp [PyData.depth]; omega⟩
theorem poly_ok (many : Nat) (ts : List Trm) : DataOk (polyD many ts) := by
  have h1 := lay_trms ts
  exact ⟨by simp [polyD, PyData.canLay0, PyData.canLayAll0, h1.1], by simp [polyD, PyData.depth, PyData.depthAll]; omega⟩
theorem nil_ok : DataOk (.tuple []) := ⟨by simp [PyData.canLay0, PyData.canLayAll0], by simp [PyData.depth, PyData.depthAll]⟩
theorem eqv_nil (ts : List Trm) : PyData.eqv (.tuple (ts.map trmD)) (.tuple []) = ts.isEmpty := by
  cases ts with
  | nil => simp [PyData.eqv, PyData.eqvAll]
  | cons x r => simp [PyData.eqv, PyData.eqvAll]
structure Good (many : Nat) (ts : List Trm) : Prop where
  each : ∀ x ∈ ts, TmOk many x
  few : ts.length ≤ 7
  m1 : 1 ≤ many
  m4 : many ≤ 4
  up : ts.Pairwise fun x y => LwD.lexI x.ns y.ns = true
noncomputable def spShown : Sp := fun vs H Q _ => ∃ (p : Addr) (many : Nat) (ts : List Trm), vs = [.ref p] ∧ Poly H p many ts ∧ Good many ts ∧ ∀ H', Same H H' → Q (.str (stx ts)) H'
structure CmI (F : Nat → List V) (q : Addr) (H1 : Hp) (i : Nat) (ys : List V) (H2 : Hp) : Prop where
  s : Same H1 H2
  e : H2 q = some (.lst ys)
  y : ys = F i
section
variable {P : Program} {w : World} {K : PySem.W.Frag} {mg : Str → Option Value} {base : Heap} {f fd : _}
theorem scShown : FnScope ["one"] ["one"] (defScope sShown) := ⟨rfl, rfl, rfl, by decide +kernel, rfl, by decide +kernel, by decide +kernel⟩
theorem ok_shown {fN fT : Addr} {fdN fdT : FuncData} (F : Fun K "shown" "shown" sShown f fd) (T : Txt mg) (L : Ltr K mg) (DN : Df K mg "shown_number" sShNum ["number"] fN fdN) (DT : Df K mg "shown_term" sShTerm ["powers", "number"] fT fdT) : FnOk P w K mg base CX0 3 f fd ["one"] spShown := by
  have GT : FnOk P w K mg base CX0 2 fT fdT ["powers", "number"] spShTerm := ok_shterm DT.F T L DN
  refine F.ok scShown (fun vs H Q E h => ?_) (fun cdv A outer s H vs Q E hr h => ?_)
  · obtain ⟨p, many, ts, rfl, _⟩ := h
    rfl
  · obtain ⟨p, many, ts, rfl, hp, ok, go⟩ := h
    have hr2 : Room 2 _ := hr.mono (by decide)
    refine ⟨_, pss_cons (ps_if (pt_cmpR (op_eqD hr.units) (pe_ix ix_tup (pv 0) pe_int (fun _ _ => rfl)) (pe_tupF pa_nil) (nomark _)) (pss_one (ps_ret pe_str)) pss_nil)
      (pss_one (ps_ret (pe_bm PySem.F.plainAttrs_str PySem.F.slot_str_join PySem.F.type_str_join mt_join pe_str (pa_cons
        (pe_compF (own := 2) (idx := []) (N := ["powers", "number"]) rfl rfl rfl (by decide +kernel) (by decide +kernel) (fun _ _ h => nomatch h) (has_of rfl) rfl (fun _ _ _ h => nomatch h) (pi_tup (pe_back (pe_ix ix_tup (pv 0) pe_int (fun _ _ => rfl)) (po_some (pe_un un_neg pe_int))))
          (fun C fp s2 H2 => show PG (cxCompF _ ["powers", "number"] _ _ C fp s2 H2) _ (gTup K 2 (gCons (gName 0) (gCons (gName 1) gNil))) from pg_tup (X := cxCompF _ ["powers", "number"] _ _ C fp s2 H2) rfl (pgs_cons (pg_name (i := 0) (show List.Nodup (["powers", "number"] : List Str) by decide +kernel) rfl (Or.inl rfl) (Or.inr rfl)) (pgs_cons (pg_name (i := 1) (show List.Nodup (["powers", "number"] : List Str) by decide +kernel) rfl (Or.inl rfl) (Or.inr rfl)) pgs_nil)))
          (fun C fp s2 H2 => pe_call GT hr2 rfl DT.m DT.F.kp DT.b .nil pass0 (pa_cons (pv 0) (pa_cons (pv 1) pa_nil)))) pa_nil)))), ?_⟩
    try dsimp only [cxK]
    obtain ⟨q, xs, e1, e2, e3⟩ := hp.ex
    refine ⟨_, rfl, p, _, _, _, rfl, rfl, SqT.of e1, rfl, (by show 0 ≤ sizeLine; decide), fun z H1 n1 s1 e4 => ?_⟩
    refine ⟨_, _, .tup (s1 _ _ e2) (dec_trms (Paired.to (fun _ _ h => h.map fun _ _ e => s1 _ _ e) e3)), .tup e4 .nil, trms_ok ts, nil_ok, _, rfl, ?_⟩
    rw [eqv_nil]
    cases ts with
    | nil => exact iteT (go H1 s1)
    | cons x r =>
      refine iteF ⟨rfl, _, rfl, p, _, _, _, rfl, rfl, SqT.of (s1 _ _ e1), rfl, 1, rfl, _, rfl, rfl, q, xs, rfl, s1 _ _ e2, fun q2 H2 s2 e5 => ⟨q2, rfl, ⟨_, SqT.of e5⟩, fun l H3 n3 s3 e6 => ?_⟩⟩
      have s13 := s1.trans s2
      have e7 := Paired.rev (Paired.to (fun _ _ h => h.map fun _ _ e => s13 _ _ e) e3)
      have lx := Paired.length e7
      rw [List.length_reverse (as := x :: r)] at lx
      have few := ok.few
      refine comp_tupF (K := K) (a := q2) (xs := xs.reverse) (CmI (fun i => (((x :: r).reverse.take i).map ttx).map V.str) l H2) (Nat.lt_of_le_of_lt (show xs.reverse.length ≤ 7 by omega) (by decide)) ⟨s3, e6, rfl⟩ (fun i ys H4 h => ⟨SqT.of (h.s _ _ e5), h.e⟩) ?_ ?_
      · rintro i m ys v H4 hv hm hy ⟨s4, e8, hys⟩
        obtain ⟨y, hy2, ⟨r1, b, c, rfl, t1, t2⟩⟩ := Paired.at e7 hv
        have ym : y ∈ x :: r := List.mem_reverse.mp (List.mem_of_getElem? hy2)
        refine ⟨r1, _, rfl, SqT.of (s4 _ _ t1), rfl, _, _, rfl, _, _, rfl, rfl, keep2, ?_⟩
        refine ⟨_, rfl, _, rfl, b, c, many, y, rfl, t2.map (fun _ _ e => s4 _ _ e), ok.each y ym, ok.m4, fun H5 s5 => ?_⟩
        refine comp_next hv hm hy (s5 _ _ e8) ⟨put_same (s4.trans s5) ?_, upd_same, ?_⟩
        · exact n3
        · rw [hys, List.take_add_one, hy2, List.map_append, List.map_append]
          rfl
      · rintro ys H4 hl ⟨s4, e8, hys⟩
        rw [lx, List.take_of_length_le (by rw [List.length_reverse]; exact Nat.le_refl _)] at hys
        rw [hys] at e8
        refine ⟨⟨#[32, 43, 32]⟩, l, _, rfl, rfl, SqL.of e8, ?_, go H4 (s13.trans s4)⟩
        refine join_ok (B := 469) (fun y hy => ?_) ?_
        · obtain ⟨z, hz, rfl⟩ := List.mem_map.mp hy
          exact ttx_len (ok.each z (List.mem_reverse.mp hz)) ok.m4
        · have e : (⟨#[32, 43, 32]⟩ : Str).length = 3 := rfl
          rw [e, List.length_map, List.length_reverse]
          omega
end
end Lw

namespace Lw
open PySem PySem.Spec PyProof.Rows L2 LwS
noncomputable def figs : List V := [.str ⟨#[48]⟩, .str ⟨#[49]⟩, .str ⟨#[50]⟩, .str ⟨#[51]⟩, .str ⟨#[52]⟩, .str ⟨#[53]⟩, .str ⟨#[54]⟩, .str ⟨#[55]⟩, .str ⟨#[56]⟩, .str ⟨#[57]⟩]
noncomputable def Fig (K : PySem.W.Frag) (mg : Str → Option Value) : Prop := ∃ a, mg "FIGURES" = some (.ref a) ∧ ∀ H, SqT K H a figs
theorem in_figs {c : Nat} (h : 48 ≤ c ∧ c ≤ 57) : inV (.str ⟨#[c]⟩) figs = true := by
  have : c = 48 ∨ c = 49 ∨ c = 50 ∨ c = 51 ∨ c = 52 ∨ c = 53 ∨ c = 54 ∨ c = 55 ∨ c = 56 ∨ c = 57 := by omega
  rcases this with rfl | rfl | rfl | rfl | rfl | rfl | rfl | rfl | rfl | rfl <;> decide
noncomputable def spRdWhole : Sp := fun vs H Q _ => ∃ i : Int, vs = [.str (itx i)] ∧ i.natAbs < 10 ^ 600 ∧ ∀ H', Same H H' → Q (.int i) H'
noncomputable def spRdNum : Sp := fun vs H Q _ => ∃ (many : Nat) (x : Trm), vs = [.str (ntx x.t x.b)] ∧ TmOk many x ∧ ∀ p H', H p = none → Same H H' → At2 H' p x.t x.b → Q (.ref p) H'
theorem all_true (n : Nat) : (List.replicate n true).all id = true := by
  rw [List.all_eq_true]
  intro b hb
  rw [(List.mem_replicate.mp hb).2]
  rfl
theorem str_ne {z : Str} (h : z.cps.toList ≠ []) : decide (V.str z = V.str (Str.ofString "")) = false := by
  refine decide_eq_false fun e => h ?_
  injection e with e
  rw [e]
  rfl
theorem rdw_tail {K : PySem.W.Frag} {H : Hp} {Q : VK} {i : Int} {z : Str} {fa : Addr} (hz : z.cps.toList = dg i.natAbs) (hi : i.natAbs < 10 ^ 600) (q : ∀ H', Same H H' → Q (.int i) H') (fs : ∀ H, SqT K H fa figs) :
    tSeq (tIfS (tOr (tTest (tOp rEq (tVar 1) (tC (V.str (Str.ofString ""))))) (tNot (tB (tCB (rAll K) (tCons (tCompF 1 [] (iStr (tVar 1)) (gName 0) (tOp (rIn K false) (tVar 0) (tC (V.ref fa)))) tNil))))) tNever tNext)
      (tRet (tCB (fun xs H Q => ∃ (x : Str) (i : Int), xs = [V.str x] ∧ LwI.Nml x.cps.toList i ∧ Q (V.int i) H) (tCons (tVar 0) tNil))) { nx := fun x H' => Q V.non H', rt := Q } [some (.str (itx i)), some (.str z)] H := by
  have dl := dg_len (by decide) hi
  have ec : ∀ c ∈ dg i.natAbs, 48 ≤ c ∧ c ≤ 57 := dg_dig _
  refine ⟨_, rfl, rfl, _, rfl, iteN (str_ne (by rw [hz]; exact dg_ne _)) ?_⟩
  have a128 : z.cps.all (· < 128) = true := by
    rw [← Array.all_toList, hz]
    exact List.all_eq_true.mpr fun c hc => decide_eq_true (by have := ec c hc; omega)
  refine ⟨_, rfl, z, rfl, a128, fun l H1 n1 s1 e1 => ?_⟩
  have zl : z.length = (dg i.natAbs).length := by rw [← hz, len_toList]
  refine comp_by (J := Its z) (xs := (dg i.natAbs).map fun c => V.str ⟨#[c]⟩) (CmI (fun k => List.replicate k (V.bl true)) l H) (by rw [List.length_map]; exact Nat.lt_of_le_of_lt dl (by decide)) ⟨s1, e1, rfl⟩ (fun k ys H2 h hk => ?_) (fun ys H2 h => ?_) (fun k ys H2 h => h.e) ?_ ?_
  · rw [List.length_map] at hk
    refine ⟨by show k < z.length; omega, fun x H3 y => ?_⟩
    obtain ⟨e, c, hc, rfl⟩ := y
    rw [hz] at hc
    exact ⟨e, by rw [List.getElem?_map, hc]; rfl⟩
  · show z.length ≤ _
    rw [List.length_map]
    omega
  · rintro k m ys x H2 hx hm hy ⟨s2, e2, hys⟩
    rw [List.getElem?_map] at hx
    have hx' := hx
    obtain ⟨c, hc, rfl⟩ : ∃ c, (dg i.natAbs)[k]? = some c ∧ V.str ⟨#[c]⟩ = x := by
      cases e : (dg i.natAbs)[k]? with
      | none => rw [e] at hx; cases hx
      | some c => rw [e] at hx; exact ⟨c, rfl, Option.some.inj hx⟩
    refine ⟨keep1, _, rfl, fa, figs, rfl, .inr (fs H2), rfl, rfl, ?_⟩
    rw [in_figs (ec c (List.mem_of_getElem? hc))]
    refine comp_next (by rw [List.getElem?_map]; exact hx') hm hy e2 ⟨put_same s2 n1, upd_same, ?_⟩
    rw [hys, List.replicate_succ']
    rfl
  · rintro ys H2 hl ⟨s2, e2, hys⟩
    rw [List.length_map] at hys
    refine ⟨l, List.replicate (dg i.natAbs).length true, rfl, SqL.of (by rw [e2, hys, List.map_replicate]), _, rfl, ?_⟩
    rw [all_true]
    refine iteF ⟨_, rfl, _, _, rfl, itx_nml hi, q H2 s2⟩
section
variable {P : Program} {w : World} {K : PySem.W.Frag} {mg : Str → Option Value} {base : Heap} {f fd : _}
theorem scRdWhole : FnScope ["word", "figures"] ["word"] (defScope sRdWhole) := ⟨rfl, rfl, rfl, by decide +kernel, rfl, by decide +kernel, by decide +kernel⟩
theorem ok_rdwhole (F : Fun K "read_whole" "read_whole" sRdWhole f fd) (T : Txt mg) (G : Fig K mg) : FnOk P w K mg base CX0 1 f fd ["word"] spRdWhole := by
  obtain ⟨fa, fm, fs⟩ := G
  refine F.ok scRdWhole (fun vs H Q E h => ?_) (fun cdv A outer s H vs Q E hr h => ?_)
  · obtain ⟨i, rfl, _⟩ := h
    rfl
  · obtain ⟨i, rfl, hi, q⟩ := h
    refine ⟨_, pss_cons (ps_set (i := 1) scRdWhole.nd rfl (Or.inl rfl) (pe_ifExp (pt_val (pe_bm PySem.F.plainAttrs_str PySem.F.slot_str_startswith PySem.F.type_str_startswith mt_starts (pv 0) (pa_cons pe_str pa_nil))) (pe_slice sl_str (pv 0) (po_some pe_int) po_none) (pv 0)))
      (pss_cons (ps_if (PW.pt (pw_or (pt_cmpR op_eq (pv 1) pe_str (nomark _)) (pw_or1 (pt_not (pt_val (pe_callB (call_all rfl) (by rfl) T.all boot_all (pa_cons
        (pe_compF (own := 1) (idx := []) (N := ["sign"]) rfl rfl rfl (by decide +kernel) (by decide +kernel) (fun _ _ h => nomatch h) (has_of rfl) rfl (fun _ _ _ h => nomatch h) (pi_str (pv 1)) (fun C fp s2 H2 => pg_name (i := 0) (show List.Nodup (["sign"] : List Str) by decide +kernel) rfl (Or.inl rfl))
          (fun C fp s2 H2 => pe_cmpR (show OpR (cxCompF _ ["sign"] _ _ C fp s2 H2) (compareOp .In) (rIn K false) from op_in_seq) (pv 0) (pe_glob (v := .ref fa) (by rfl) fm rfl) rfl)) pa_nil))))))) (pss_one ps_never) pss_nil)
      (pss_one (ps_ret (pe_callTy call_intS (by rfl) T.int boot_int (pa_cons (pv 0) pa_nil))))), ?_⟩
    try dsimp only [cxK]
    have nm := itx_nml hi
    have dl := dg_len (by decide) hi
    have ln : (itx i).length ≤ 601 := itx_len (by decide) hi
    have ec : ∀ c ∈ dg i.natAbs, 48 ≤ c ∧ c ≤ 57 := dg_dig _
    refine ⟨_, rfl, rfl, _, _, rfl, rfl, _, rfl, ?_⟩
    have hc := itx_cases i
    rw [show Txt.startswith (itx i) (Str.ofString "-") = decide (i < 0) from starts_itx i]
    by_cases h0 : i < 0
    all_goals first | refine iteP (decide_eq_true h0) ?_ | refine iteN (decide_eq_false h0) ?_
    · have hz : (Txt.slice (itx i) (some 1) none).cps.toList = dg i.natAbs := by
        have e : (itx i).cps.toList = 45 :: dg i.natAbs := by
          rcases hc with h | h
          · omega
          · exact h.2
        rw [slice1 (by rw [← len_toList, e, List.length_cons]; omega), e]
        rfl
      refine ⟨_, rfl, _, rfl, _, rfl, Nat.le_trans ln (by decide), ?_⟩
      exact rdw_tail hz hi q fs
    · have hz : (itx i).cps.toList = dg i.natAbs := by
        rcases hc with h | h
        · exact h.2
        · omega
      refine ⟨_, rfl, ?_⟩
      exact rdw_tail hz hi q fs
theorem scRdNum : FnScope ["word", "top", "stroke", "bottom"] ["word"] (defScope sRdNum) := ⟨rfl, rfl, rfl, by decide +kernel, rfl, by decide +kernel, by decide +kernel⟩
theorem ok_rdnum {fW : Addr} {fdW : FuncData} (F : Fun K "read_number" "read_number" sRdNum f fd) (T : Txt mg) (G : Fig K mg) (DW : Df K mg "read_whole" sRdWhole ["word"] fW fdW) : FnOk P w K mg base CX0 2 f fd ["word"] spRdNum := by
  have GW : FnOk P w K mg base CX0 1 fW fdW ["word"] spRdWhole := ok_rdwhole DW.F T G
  refine F.ok scRdNum (fun vs H Q E h => ?_) (fun cdv A outer s H vs Q E hr h => ?_)
  · obtain ⟨many, x, rfl, _⟩ := h
    rfl
  · obtain ⟨many, x, rfl, ok, go⟩ := h
    refine ⟨_, pss_cons (ps_asg (pe_bm PySem.F.plainAttrs_str PySem.F.slot_str_partition PySem.F.type_str_partition mt_part (pv 0) (pa_cons pe_str pa_nil)) (pg_tup rfl (pgs_cons (pg_name (i := 1) scRdNum.nd rfl (Or.inl rfl)) (pgs_cons (pg_name (i := 2) scRdNum.nd rfl (Or.inl rfl)) (pgs_cons (pg_name (i := 3) scRdNum.nd rfl (Or.inl rfl)) pgs_nil)))))
      (pss_cons (ps_if (pt_cmpR op_eq (pv 2) pe_str (nomark _)) (pss_one (ps_ret (pe_tupF (pa_cons (pe_call GW hr rfl DW.m DW.F.kp DW.b .nil pass0 (pa_cons (pv 1) pa_nil)) (pa_cons pe_int pa_nil))))) pss_nil)
      (pss_one (ps_ret (pe_tupF (pa_cons (pe_call GW hr rfl DW.m DW.F.kp DW.b .nil pass0 (pa_cons (pv 1) pa_nil)) (pa_cons (pe_call GW hr rfl DW.m DW.F.kp DW.b .nil pass0 (pa_cons (pv 3) pa_nil)) pa_nil)))))), ?_⟩
    try dsimp only [cxK]
    have t6 : x.t.natAbs < 10 ^ 600 := Nat.lt_trans ok.t10 (by decide +kernel)
    have b6 : x.b.natAbs < 10 ^ 600 := Nat.lt_trans ok.b10 (by decide +kernel)
    have no : ∀ i : Int, 47 ∉ (itx i).cps.toList := fun i h => by have := itx_chars h; omega
    refine ⟨_, rfl, rfl, _, _, rfl, rfl, rfl, Nat.le_trans (ntx_len ok) (by decide), fun p H1 n1 s1 e1 => ⟨p, _, rfl, SqT.of e1, rfl, _, _, rfl, _, _, rfl, _, _, rfl, rfl, ?_⟩⟩
    by_cases hb : x.b = 1
    · have e : Txt.partition (ntx x.t x.b) (Str.ofString "/") = (itx x.t, Str.empty, Str.empty) := by
        rw [show ntx x.t x.b = itx x.t from if_pos hb]
        exact part_no (no _)
      rw [e]
      refine ⟨_, rfl, rfl, _, rfl, iteP (decide_eq_true rfl) ?_⟩
      refine ⟨_, rfl, _, rfl, t6, fun H2 s2 => ⟨(by show 2 ≤ sizeLine; decide), fun p2 H3 n3 s3 e3 => ?_⟩⟩
      have s13 := s1.trans (s2.trans s3)
      refine go p2 H3 ((s1.trans s2).free n3) s13 ?_
      rw [At2, hb]
      exact e3
    · have e : Txt.partition (ntx x.t x.b) (Str.ofString "/") = (itx x.t, ⟨#[47]⟩, itx x.b) := by
        rw [show ntx x.t x.b = itx x.t ++ ⟨#[47]⟩ ++ itx x.b from if_neg hb]
        exact part_at (no _)
      rw [e]
      refine ⟨_, rfl, rfl, _, rfl, iteN (str_ne (fun z => by cases z)) ?_⟩
      refine ⟨_, rfl, _, rfl, t6, fun H2 s2 => ⟨_, rfl, _, rfl, b6, fun H3 s3 => ⟨(by show 2 ≤ sizeLine; decide), fun p2 H4 n4 s4 e4 => ?_⟩⟩⟩
      exact go p2 H4 ((s1.trans (s2.trans s3)).free n4) (s1.trans (s2.trans (s3.trans s4))) e4
end
end Lw

namespace Lw
open PySem PySem.Spec PyProof.Rows L2 LwS
theorem get_list {X : Cx} : PGet X (rIxL X.K) := by
  intro pins s σ H x y v u Q I rx ry h
  obtain ⟨p, xs, i, z, rfl, rfl, hq, he, q⟩ := h
  cases rx
  obtain ⟨t, rfl⟩ := ry
  obtain ⟨its, r, pl, hz⟩ := I.list hq
  obtain ⟨j, h1, h2, h3, h4, h5⟩ := atI_get he
  obtain ⟨w, ew, rw'⟩ := r.get h2
  have hl := r.length
  have hn := line63
  have fin : EP X pins σ Q w s := ⟨z, H, I, rw', q⟩
  by_cases h0 : 0 ≤ i
  · have hj : i.toNat = j := by
      rw [seqIndex_of h0 h5] at h1
      exact Option.some.inj h1
    exact wpAny_getItem_list pl.isList h0 (by omega) (by rw [hj]; simpa using ew) fin
  · have hj : (i + (its.toArray.size : Int)).toNat = j := by
      rw [seqIndex_neg (by omega) h4] at h1
      rw [List.size_toArray, ← hl]
      exact Option.some.inj h1
    exact wpAny_getItem_list_neg pl.isList (by omega) (by rw [List.size_toArray] <;> omega) (by omega) (by rw [hj]; simpa using ew) fin

noncomputable def rSlK (K : PySem.W.Frag) : V → Option Int → Option Int → Hp → VK → Prop := fun x lo hi H Q => ∃ a xs, x = .ref a ∧ SqT K H a xs ∧ ∀ p H', Same H H' → SqT K H' p (cutV xs lo hi) → Q (.ref p) H'
theorem sl_tupK {X : Cx} : SlR X (rSlK X.K) := by
  intro pins s σ H x v vl vu lo hi sl Q I rx hs pl pu h
  obtain ⟨a, xs, rfl, hx, q⟩ := h
  by_cases hw : HT.sIx xs.length 0 lo = 0 ∧ HT.sIx xs.length xs.length hi = xs.length
  · cases rx
    obtain ⟨its, r, ht, hz⟩ := I.tuple hx
    have hl : its.toArray.size = xs.length := by rw [List.size_toArray]; exact r.length.symm
    refine ⟨"tuple", _, PyProof.Rows.slot_tuple_getitem.lookup, ht.typeIs, HT.cut_whole ht hs pl pu (by rw [hl]; exact hw) ⟨.ref a, H, I, rfl, q a H (fun _ _ e => e) ?_⟩⟩
    rw [cutV, hw.1, hw.2]
    simpa using hx
  · exact sl_tup pins s σ H _ v vl vu lo hi sl Q I rx hs pl pu ⟨a, xs, rfl, hx, hw, fun p n => q p _ (Lw.same_upd _ n) (SqT.of upd_same)⟩
noncomputable def lets : List V := [.str (ltr 0), .str (ltr 1), .str (ltr 2), .str (ltr 3)]
theorem cut_lets {many : Nat} (h : many ≤ 4) : cutV lets none (some (many : Int)) = lets.take many := by
  rw [cutV, HT.sIx_none, HT.sIx_nat, List.drop_zero, Nat.sub_zero]
  congr 1
  show min many 4 = many
  omega
theorem ltr_eq (i j : Nat) : eqV (.str (ltr i)) (.str (ltr j)) = decide (i = j) := by
  show (ltr i == ltr j) = _
  by_cases h : i = j
  · rw [h, decide_eq_true rfl]; exact beq_self_eq_true _
  · rw [decide_eq_false h]
    refine beq_eq_false_iff_ne.mpr fun e => h ?_
    have e2 : [97 + i] = [97 + j] := congrArg (fun s : Str => s.cps.toList) e
    injection e2 with e2
    omega
theorem lets_at {i : Nat} (h : i < 4) : lets[i]? = some (.str (ltr i)) := by
  match i, h with
  | 0, _ => rfl
  | 1, _ => rfl
  | 2, _ => rfl
  | 3, _ => rfl
  | n + 4, h => omega
theorem in_lets {j many : Nat} (h : j < many) (hm : many ≤ 4) : inV (.str (ltr j)) (lets.take many) = true := by
  refine List.any_eq_true.mpr ⟨.str (ltr j), ?_, by rw [ltr_eq]; exact decide_eq_true rfl⟩
  refine List.mem_of_getElem? (i := j) ?_
  rw [List.getElem?_take_of_lt h]
  exact lets_at (by omega)
theorem flat_lets (many : Nat) : (lets.take many).all flatV = true := by
  refine List.all_eq_true.mpr fun v hv => ?_
  have := List.mem_of_mem_take hv
  simp only [lets, List.mem_cons, List.not_mem_nil, or_false] at this
  rcases this with rfl | rfl | rfl | rfl <;> rfl
theorem wtx_part {j : Nat} {p : Int} : ∃ hat pw : Str, Txt.partition (wtx (j, p)) ⟨#[94]⟩ = (ltr j, hat, pw) ∧ ((hat = Str.empty ∧ p = 1) ∨ (hat.cps.toList ≠ [] ∧ pw = itx p)) := by
  have no : 94 ∉ (ltr j).cps.toList := fun h => by
    have : 94 = 97 + j := by simpa [ltr] using h
    omega
  by_cases h : p = 1
  · refine ⟨Str.empty, Str.empty, ?_, .inl ⟨rfl, h⟩⟩
    rw [show wtx (j, p) = ltr j from if_pos h]
    exact part_no no
  · refine ⟨⟨#[94]⟩, itx p, ?_, .inr ⟨(fun z => by cases z), rfl⟩⟩
    rw [show wtx (j, p) = ltr j ++ ⟨#[94]⟩ ++ itx p from if_neg h]
    exact part_at no
noncomputable def spRdPw : Sp := fun vs H Q _ => ∃ (a : Addr) (many : Nat) (x : Trm), vs = [.ref a, .int many] ∧ H a = some (.lst (((wl 0 x.ns).map wtx).map V.str)) ∧ TmOk many x ∧ 1 ≤ many ∧ many ≤ 4 ∧ ∀ p H', H p = none → Same H H' → H' p = some (.tup (x.ns.map V.int)) → Q (.ref p) H'
noncomputable def spRdTerm : Sp := fun vs H Q _ => ∃ (many : Nat) (x : Trm), vs = [.str (ttx x), .int many] ∧ TmOk many x ∧ 1 ≤ many ∧ many ≤ 4 ∧ ∀ v H', Same H H' → TrmV H' v x → Q v H'
inductive PwI (H : Hp) (a l : Addr) (many : Nat) (q : List (Nat × Int)) (i : Nat) : L2.St → Hp → Prop where
  | mk {u v x y : Option V} {H' : Hp} {ps : List Int} (s : Same H H') (e : H' l = some (.lst (ps.map V.int))) (n : ps = (q.take i).foldl addw (List.replicate many 0)) (hl : ps.length = many) : PwI H a l many q i [some (.ref a), some (.int many), some (.ref l), u, v, x, y] H'
section
variable {P : Program} {w : World} {K : PySem.W.Frag} {mg : Str → Option Value} {base : Heap} {f fd : _}
theorem scRdPw : FnScope ["words", "many", "powers", "word", "letter", "hat", "power"] ["words", "many"] (defScope sRdPw) := ⟨rfl, rfl, rfl, by decide +kernel, rfl, by decide +kernel, by decide +kernel⟩
theorem ok_rdpw {fW : Addr} {fdW : FuncData} (F : Fun K "read_powers" "read_powers" sRdPw f fd) (T : Txt mg) (L : Ltr K mg) (G : Fig K mg) (DW : Df K mg "read_whole" sRdWhole ["word"] fW fdW) : FnOk P w K mg base CX0 2 f fd ["words", "many"] spRdPw := by
  have GW : FnOk P w K mg base CX0 1 fW fdW ["word"] spRdWhole := ok_rdwhole DW.F T G
  obtain ⟨la, lm, ls, lo, lk, lc, ld⟩ := L
  refine F.ok scRdPw (fun vs H Q E h => ?_) (fun cdv A outer s H vs Q E hr h => ?_)
  · obtain ⟨a, many, x, rfl, _⟩ := h
    rfl
  · obtain ⟨a, many, x, rfl, ha, ok, m1, m4, go⟩ := h
    refine ⟨_, pss_cons (ps_set (i := 2) scRdPw.nd rfl (Or.inl rfl) (pe_op op_rep (pe_lstF (pa_cons pe_int pa_nil)) (pv 1)))
      (pss_cons (ps_for PassesOwn.never rfl (pi_list (pv 0)) (pg_name (i := 3) scRdPw.nd rfl (Or.inl rfl))
        (pss_cons (ps_asg (pe_bm PySem.F.plainAttrs_str PySem.F.slot_str_partition PySem.F.type_str_partition mt_part (pv 3) (pa_cons pe_str pa_nil)) (pg_tup rfl (pgs_cons (pg_name (i := 4) scRdPw.nd rfl (Or.inl rfl)) (pgs_cons (pg_name (i := 5) scRdPw.nd rfl (Or.inl rfl)) (pgs_cons (pg_name (i := 6) scRdPw.nd rfl (Or.inl rfl)) pgs_nil)))))
        (pss_cons (ps_if (pt_cmpR op_notIn_seq (pv 4) (pe_slice sl_tupK (pe_glob (v := .ref la) (by rfl) lm rfl) po_none (po_some (pv 1))) rfl) (pss_one ps_never) pss_nil)
        (pss_one (ps_augS (pv 2) (pe_bm PySem.F.plainAttrs_tuple PySem.F.slot_tuple_index PySem.F.type_tuple_index mt_index (pe_glob (v := .ref la) (by rfl) lm rfl) (pa_cons (pv 4) pa_nil)) get_list (pe_ifExp (pt_cmpR op_eq (pv 5) pe_str (nomark _)) pe_int (pe_call GW hr rfl DW.m DW.F.kp DW.b .nil pass0 (pa_cons (pv 6) pa_nil))) ip_add set_list)))))
      (pss_one (ps_ret (pe_callTy call_tuple_of (by rfl) T.tup boot_tuple (pa_cons (pv 2) pa_nil))))), ?_⟩
    try dsimp only [cxK]
    refine ⟨(by show 1 ≤ sizeLine; decide), fun z0 H3 n3 s3 e3 => ⟨_, rfl, z0, many, [.int 0], rfl, rfl, e3, by omega, by omega, ?_, fun l nl => ?_⟩⟩
    · show 1 * (many : Int).toNat ≤ sizeLine
      exact Nat.le_trans (show 1 * (many : Int).toNat ≤ 4 by omega) (by decide)
    have hl0 : (List.replicate (many : Int).toNat [V.int 0]).flatten = (List.replicate many (0 : Int)).map V.int := by simp
    rw [hl0]
    have nl0 : H l = none := s3.free nl
    have s4 : Same H (upd H3 l (.lst ((List.replicate many (0 : Int)).map V.int))) := put_same s3 nl0
    refine ⟨_, rfl, a, rfl, ⟨_, SqL.of (s4 _ _ ha)⟩, ?_⟩
    refine for_list (K := K) (a := a) (xs := ((wl 0 x.ns).map wtx).map V.str) (PwI H a l many (wl 0 x.ns)) (.mk s4 upd_same rfl (by simp)) (fun i σ H5 _ h => ?_) (fun i v σ H5 hv h => ?_) (fun σ H5 h => ?_)
    · obtain ⟨s5, _, _, _⟩ := h
      exact SqL.of (s5 _ _ ha)
    · obtain ⟨s5, e5, hps, hl⟩ := h
      rename_i u0 v0 x0 y0 ps
      rw [List.getElem?_map, List.getElem?_map] at hv
      obtain ⟨⟨j, p⟩, hq, rfl⟩ : ∃ q, (wl 0 x.ns)[i]? = some q ∧ V.str (wtx q) = v := by
        cases e : (wl 0 x.ns)[i]? with
        | none => rw [e] at hv; cases hv
        | some q => rw [e] at hv; exact ⟨q, rfl, Option.some.inj hv⟩
      obtain ⟨_, hj, hp1, hpm⟩ := wl_mem (List.mem_of_getElem? hq)
      have hjm : j < many := by have := ok.len; dsimp only at hj; omega
      have hp := ok.le hpm
      dsimp only at hp1 hp
      obtain ⟨hat, pw, ep, hh⟩ := wtx_part (j := j) (p := p)
      have wlen : (wtx (j, p)).length ≤ sizeLine := Nat.le_trans (wtx_len (q := (j, p)) hp.1 hp.2) (by decide)
      refine ⟨_, rfl, rfl, _, _, rfl, rfl, rfl, wlen, fun p0 H6 n6 s6 e6 => ⟨p0, _, rfl, SqT.of e6, rfl, _, _, rfl, _, _, rfl, _, _, rfl, rfl, ?_⟩⟩
      rw [show Txt.partition (wtx (j, p)) (Str.ofString "^") = (ltr j, hat, pw) from ep]
      refine ⟨_, rfl, _, rfl, _, rfl, la, lets, rfl, ls H6, fun p1 H7 s7 sq7 => ?_⟩
      rw [cut_lets m4] at sq7
      refine ⟨p1, _, rfl, .inr sq7, rfl, flat_lets many, _, rfl, ?_⟩
      rw [in_lets hjm m4]
      have s57 := s5.trans (s6.trans s7)
      have e7 := s7 _ _ (s6 _ _ e5)
      have hjl : j < ps.length := by omega
      refine iteF ⟨_, rfl, .inr (.inl ⟨rfl, lo, lk, lc, ld⟩), _, rfl, la, lets, .str (ltr j), j, rfl, rfl, ls H7, rfl, rfl, (by show j < 4; omega), fun k z hk hz => ?_, fun z hz => ?_, ?_⟩
      · rw [lets_at (by omega)] at hz
        rw [← Option.some.inj hz, ltr_eq]
        exact decide_eq_false (by omega)
      · rw [lets_at (by omega)] at hz
        rw [← Option.some.inj hz, ltr_eq]
        exact decide_eq_true rfl
      refine ⟨l, _, (j : Int), V.int (ps.getD j 0), rfl, rfl, SqL.of e7, atI_nat (by simp [hjl]), ?_⟩
      have ix : ixN ((ps.map V.int).length) (j : Int) = some j := by
        unfold ixN
        rw [if_pos (by omega), if_pos (by rw [List.length_map]; omega)]
        simp
      have fin : ∀ H8, Same H7 H8 → PwI H a l many (wl 0 x.ns) (i + 1) [some (.ref a), some (.int many), some (.ref l), some (.str (wtx (j, p))), some (.str (ltr j)), some (.str hat), some (.str pw)] (upd H8 l (.lst ((ps.map V.int).set j (.int (ps.getD j 0 + p))))) := fun H8 s8 =>
        .mk (ps := addw ps (j, p)) (put_same (s57.trans s8) nl0) (by rw [upd_same, addw, List.map_set]) (by rw [List.take_add_one, hq, hps]; simp [List.foldl_append]) (by rw [addw, List.length_set]; exact hl)
      refine ⟨_, rfl, rfl, _, rfl, ?_⟩
      rcases hh with ⟨rfl, rfl⟩ | ⟨h1, rfl⟩
      · exact iteP (decide_eq_true rfl) ⟨_, _, rfl, rfl, l, _, _, j, rfl, rfl, e7, ix, fin H7 (Same.refl _)⟩
      · refine iteN (str_ne h1) ⟨_, rfl, p, rfl, Nat.lt_trans (small10 hp.1 hp.2) (by decide +kernel), fun H8 s8 => ⟨_, _, rfl, rfl, l, _, _, j, rfl, rfl, s8 _ _ e7, ix, fin H8 s8⟩⟩
    · obtain ⟨s5, e5, hps, hl⟩ := h
      rename_i u0 v0 x0 y0 ps
      refine ⟨_, rfl, l, _, rfl, .inl ⟨SqL.of e5, fun p np => ?_⟩⟩
      have ew : ps = x.ns := by
        rw [hps, List.length_map, List.length_map, List.take_length, fold_wl many many x.ns ok.len (Nat.le_refl _) ok.nn, Nat.sub_self]
        simp
      rw [ew]
      exact go p _ (s5.free np) (s5.trans (same_upd _ np)) upd_same
end
end Lw

namespace L2
open PySem PySem.Spec PyProof.Rows Lw
section
variable {X : Cx} {pos : Pos}
theorem reverse_valsL : ∀ {xs : List V} {us : List Value}, Vals xs us → Vals xs.reverse us.reverse
  | _, _, .nil => .nil
  | _, _, .cons h t => by rw [List.reverse_cons, List.reverse_cons]; exact (reverse_valsL t).append (.cons h .nil)
noncomputable def tBackL (K : PySem.W.Frag) (te : TE) (ts : TO) : TE := fun σ H Q => te σ H fun x H1 => ts σ H1 fun o H2 => o = some (-1) ∧ ∃ a xs, x = .ref a ∧ SqL K H2 a xs ∧ New H2 (.lst xs.reverse) Q
theorem pe_backL {e st : Expr} {te : TE} {ts : TO} {p2 : Pos} (he : PE X e te) (hs : PO X (some st) ts) : PE X (.Subscript e (.Slice none none (some st) p2) pos) (tBackL X.K te ts) := by
  intro pins s σ H Q I h
  refine Subscript_ (thn (he pins s σ H _ I h) fun v s1 ⟨x, H1, I1, r1, q1⟩ => ?_)
  refine wpAny_Slice ?_
  rw [evalPart_none]
  refine wpAny_pure (wpAny_pure (thn (hs pins s1 σ H1 _ I1 q1) fun vs s2 ⟨o, H2, I2, po, eo, a, xs, ex, hx, q⟩ => ?_))
  subst eo ex
  cases r1
  cases po with
  | int i u =>
  have I3 : Inv X pins σ H2 { s2 with heap := s2.heap.push { cls := .type "slice", data := .fields #[.none, .none, .int (-1) u] } } := I2.kept (t' := s2.toks) fun b ob q => Heap.get?_push_of_some _ q
  obtain ⟨its, r, ht, hz⟩ := I3.list hx
  have hl : its.toArray.size = xs.length := by rw [List.size_toArray]; exact r.length.symm
  show wpAny (model X.prog X.w) X.A (subscriptTail e (.Slice none none (some st) p2) (.ref a) (.ref s2.heap.objs.size)) (EP X pins σ Q) X.xe { s2 with heap := s2.heap.push { cls := .type "slice", data := .fields #[.none, .none, .int (-1) u] } }
  refine tail_any (ops := [.ref a, .ref s2.heap.objs.size]) ht.isList.typeIs slot_list_getitem.lookup ?_ (by with_unfolding_all rfl)
  refine wpAny_getItem_list_slice ht.isList (Heap.IsSliceOf.new ..) .none .none (.int (-1) u) (by decide) ?_ (by rw [hl]; exact hz)
  rw [PySem.W.krv_pick]
  have n := I3.hok.fresh (Nat.le_refl (s2.heap.push { cls := .type "slice", data := .fields #[.none, .none, .int (-1) u] }).objs.size)
  refine ⟨.ref _, _, I3.laid (t' := s2.toks) (o := .lst xs.reverse) (fun b ob q => Heap.get?_push_of_some _ q) (Nat.le_refl _) ?_, rfl, q _ _ n (Lw.same_upd _ n) upd_same⟩
  exact ⟨by rw [List.length_reverse]; exact hz, _, 0, reverse_valsL r, Heap.get?_push_size _ rfl⟩
end
end L2
namespace Lw
open PySem PySem.Spec PyProof.Rows L2 LwS
theorem ltOf : ∀ {a b : List Int}, LwD.lexI a b = true → LwT.lexLt a b = true
  | [], [], h => by simp [LwD.lexI] at h
  | [], _ :: _, _ => by rfl
  | _ :: _, [], h => by simp [LwD.lexI] at h
  | x :: xs, y :: ys, h => by
    unfold LwD.lexI at h
    show (if x = y then LwT.lexLt xs ys else decide (x < y)) = true
    split
    · rename_i e
      rw [if_pos e] at h
      exact ltOf h
    · rename_i e
      rw [if_neg e] at h
      exact h
theorem intsD_map : ∀ ns : List Int, intsD (ns.map PyData.int) = ns
  | [] => rfl
  | n :: r => by show n :: intsD (r.map PyData.int) = _; rw [intsD_map r]
theorem termB_ok {many : Nat} {x : Trm} (h : TmOk many x) : termB (trmD x) many = true := by
  show ((decide (((x.ns.map PyData.int).length : Int) = many) && ((x.ns.map PyData.int).all fun d => whF d 0) && decide ((intsD (x.ns.map PyData.int)).sum ≤ 16)) && ((decide (1 ≤ x.b) && decide (Int.gcd x.t x.b = 1)) && !decide ([x.t, x.b] = [0, 1]))) = true
  have e1 : decide (((x.ns.map PyData.int).length : Int) = many) = true := decide_eq_true (by rw [List.length_map, h.len])
  have e2 : ((x.ns.map PyData.int).all fun d => whF d 0) = true := List.all_eq_true.mpr fun d hd => by
    obtain ⟨n, hn, rfl⟩ := List.mem_map.mp hd
    exact decide_eq_true (h.nn n hn)
  have e3 : decide ((intsD (x.ns.map PyData.int)).sum ≤ 16) = true := by rw [intsD_map]; exact decide_eq_true h.deg
  have e4 : decide (1 ≤ x.b) = true := decide_eq_true h.pos
  have e5 : decide (Int.gcd x.t x.b = 1) = true := decide_eq_true h.low
  have e6 : decide ([x.t, x.b] = [0, 1]) = false := decide_eq_false fun z => by injection z with z _; exact h.nz z
  rw [e1, e2, e3, e4, e5, e6]
  rfl
theorem riseB_ok {ts : List Trm} (h : ts.Pairwise fun x y => LwD.lexI x.ns y.ns = true) : riseB (ts.map trmD) = true := by
  unfold riseB
  refine List.all_eq_true.mpr fun q hq => ?_
  obtain ⟨j, hj⟩ := List.mem_iff_getElem?.mp hq
  obtain ⟨h1, h2⟩ := List.getElem?_zip_eq_some.mp hj
  rw [List.getElem?_drop, List.getElem?_map] at h2
  rw [List.getElem?_map] at h1
  cases e1 : ts[j]? with
  | none => rw [e1] at h1; cases h1
  | some a =>
    cases e2 : ts[1 + j]? with
    | none => rw [e2] at h2; cases h2
    | some b =>
      rw [e1] at h1
      rw [e2] at h2
      have a1 : trmD a = q.1 := Option.some.inj h1
      have a2 : trmD b = q.2 := Option.some.inj h2
      rw [← a1, ← a2]
      show LwT.lexLt (intsD (a.ns.map PyData.int)) (intsD (b.ns.map PyData.int)) = true
      rw [intsD_map, intsD_map]
      obtain ⟨i1, g1⟩ := List.getElem?_eq_some_iff.mp e1
      obtain ⟨i2, g2⟩ := List.getElem?_eq_some_iff.mp e2
      have := List.pairwise_iff_getElem.mp h j (1 + j) i1 i2 (by omega)
      rw [g1, g2] at this
      exact ltOf this
theorem sumB_ok {many : Nat} {ts : List Trm} (h : Good many ts) : sumB (polyD many ts) = true := by
  show ((decide (1 ≤ (many : Int)) && decide ((many : Int) ≤ 4)) && (decide ((ts.map trmD).length ≤ 500) && (((ts.map trmD).all fun t => termB t many) && riseB (ts.map trmD)))) = true
  have e1 : decide (1 ≤ (many : Int)) = true := decide_eq_true (by have := h.m1; omega)
  have e2 : decide ((many : Int) ≤ 4) = true := decide_eq_true (by have := h.m4; omega)
  have e3 : decide ((ts.map trmD).length ≤ 500) = true := decide_eq_true (by rw [List.length_map]; have := h.few; omega)
  have e4 : ((ts.map trmD).all fun t => termB t many) = true := List.all_eq_true.mpr fun d hd => by
    obtain ⟨x, hx, rfl⟩ := List.mem_map.mp hd
    exact termB_ok (h.each x hx)
  rw [e1, e2, e3, e4, riseB_ok h.up]
  rfl
theorem suOk_ok {many : Nat} {ts : List Trm} (h : Good many ts) : suOk (polyD many ts) := by
  show ∀ t ∈ ts.map trmD, tmOk t
  intro d hd
  obtain ⟨x, hx, rfl⟩ := List.mem_map.mp hd
  have ok := h.each x hx
  refine ⟨⟨?_, fun i hi => ?_⟩, fun z hz => ?_⟩
  · rw [List.length_map, ok.len]
    exact Nat.le_trans h.m4 (by decide)
  · obtain ⟨n, hn, e⟩ := List.mem_map.mp hi
    injection e with e
    rw [← e]
    exact Int.le_trans (ok.le hn).2 (by decide)
  · rcases List.mem_cons.mp hz with rfl | hz
    · exact Nat.lt_trans ok.st (Nat.pow_lt_pow_right (by decide) (by decide))
    · rw [List.mem_singleton] at hz
      subst hz
      exact Nat.lt_trans ok.sb (Nat.pow_lt_pow_right (by decide) (by decide))
section
variable {P : Program} {w : World} {K : PySem.W.Frag} {mg : Str → Option Value} {base : Heap} {f fd : _}
theorem scRdTerm : FnScope ["text", "many", "words"] ["text", "many"] (defScope sRdTerm) := ⟨rfl, rfl, rfl, by decide +kernel, rfl, by decide +kernel, by decide +kernel⟩
theorem ok_rdterm {fW fN fP : Addr} {fdW fdN fdP : FuncData} (F : Fun K "read_term" "read_term" sRdTerm f fd) (T : Txt mg) (L : Ltr K mg) (G : Fig K mg) (DW : Df K mg "read_whole" sRdWhole ["word"] fW fdW) (DN : Df K mg "read_number" sRdNum ["word"] fN fdN) (DP : Df K mg "read_powers" sRdPw ["words", "many"] fP fdP) : FnOk P w K mg base CX0 3 f fd ["text", "many"] spRdTerm := by
  have GN : FnOk P w K mg base CX0 2 fN fdN ["word"] spRdNum := ok_rdnum DN.F T G DW
  have GP : FnOk P w K mg base CX0 2 fP fdP ["words", "many"] spRdPw := ok_rdpw DP.F T L G DW
  refine F.ok scRdTerm (fun vs H Q E h => ?_) (fun cdv A outer s H vs Q E hr h => ?_)
  · obtain ⟨many, x, rfl, _⟩ := h
    rfl
  · obtain ⟨many, x, rfl, ok, m1, m4, go⟩ := h
    refine ⟨_, pss_cons (ps_set (i := 2) scRdTerm.nd rfl (Or.inl rfl) (pe_bm PySem.F.plainAttrs_str PySem.F.slot_str_split PySem.F.type_str_split mt_split (pv 0) (pa_cons pe_str pa_nil)))
      (pss_one (ps_ret (pe_tupF (pa_cons (pe_call GP hr rfl DP.m DP.F.kp DP.b .nil pass0 (pa_cons (pe_slice sl_list (pv 2) (po_some pe_int) po_none) (pa_cons (pv 1) pa_nil))) (pa_cons (pe_call GN hr rfl DN.m DN.F.kp DN.b .nil pass0 (pa_cons (pe_ix ix_list (pv 2) pe_int (fun _ _ => rfl)) pa_nil)) pa_nil))))), ?_⟩
    try dsimp only [cxK]
    refine ⟨_, rfl, rfl, _, _, rfl, rfl, rfl, Nat.le_trans (Nat.add_le_add_right (ttx_len ok m4) 2) (by decide), fun l H1 n1 s1 e1 => ?_⟩
    rw [show Txt.split (ttx x) (Str.ofString " ") = ntx x.t x.b :: (wl 0 x.ns).map wtx from split_ttx x] at e1
    refine ⟨_, rfl, _, rfl, l, _, rfl, SqL.of e1, fun p np => ⟨_, rfl, ?_⟩⟩
    have ec : cutV ((ntx x.t x.b :: (wl 0 x.ns).map wtx).map V.str) (some 1) none = ((wl 0 x.ns).map wtx).map V.str := by
      rw [cut_tail]
      rfl
    rw [ec]
    refine ⟨p, many, x, rfl, upd_same, ok, m1, m4, fun b H2 n2 s2 e2 => ?_⟩
    have s12 : Same H1 H2 := (same_upd _ np).trans s2
    refine ⟨_, rfl, l, _, 0, _, rfl, rfl, SqL.of (s12 _ _ e1), atI_nat (j := 0) rfl, many, x, rfl, ok, fun c H3 n3 s3 e3 => ⟨(by show 2 ≤ sizeLine; decide), fun r H4 n4 s4 e4 => ?_⟩⟩
    exact go _ H4 (s1.trans (s12.trans (s3.trans s4))) ⟨r, b, c, rfl, e4, s4 _ _ (s3 _ _ e2), s4 _ _ e3⟩
end
end Lw

namespace Lw
open PySem PySem.Spec PyProof.Rows L2 LwS
theorem split_one {y p : Str} {k c : Nat} (M : Mark y k c) (h : c ∉ p.cps.toList) : Txt.split p y = [p] := split_join M (p := p) (ps := []) fun q hq => by rw [List.mem_singleton.mp hq]; exact h
theorem itx_pos (i : Int) : 1 ≤ (itx i).length := by
  rw [← len_toList]
  have := dg_ne i.natAbs
  rcases itx_cases i with ⟨_, h⟩ | ⟨_, h⟩ <;> rw [h]
  · cases e : dg i.natAbs with
    | nil => exact absurd e this
    | cons a r => simp
  · simp
theorem stx_ne {many : Nat} {x : Trm} {r : List Trm} (h : TmOk many x) : decide (V.str (stx (x :: r)) = V.str (Str.ofString "0")) = false := by
  refine decide_eq_false fun e => ?_
  injection e with e
  have e : stx (x :: r) = ⟨#[48]⟩ := e
  have h1 := split_stx x r
  have M3 : Mark ⟨#[32, 43, 32]⟩ 1 43 := ⟨rfl, fun j hj => (by
    have e0 : j = 0 := by omega
    rw [e0]
    decide), by decide +kernel⟩
  have M1 : Mark ⟨#[32]⟩ 0 32 := ⟨rfl, fun j hj => absurd hj (Nat.not_lt_zero _), by decide +kernel⟩
  rw [e, split_one M3 (by decide)] at h1
  have hr : r = [] := by
    have := congrArg List.length h1
    rw [List.length_map, List.length_reverse] at this
    exact List.length_eq_zero_iff.mp (by simpa using this.symm)
  subst hr
  have e2 : ttx x = ⟨#[48]⟩ := by
    have h1' : [(⟨#[48]⟩ : Str)] = [ttx x] := h1
    exact (List.cons.inj h1').1.symm
  have h3 := split_ttx x
  rw [e2, split_one M1 (by decide)] at h3
  replace h3 := (List.cons.inj h3).1
  unfold ntx at h3
  split at h3
  · have e4 : [48] = (itx x.t).cps.toList := congrArg (fun s : Str => s.cps.toList) h3
    rcases itx_cases x.t with ⟨_, h5⟩ | ⟨_, h5⟩
    · rw [h5] at e4
      have := dg_val x.t.natAbs
      rw [← e4] at this
      have v0 : LwI.valD [48] = 0 := by decide
      rw [v0] at this
      exact h.nz (by omega)
    · rw [h5] at e4
      injection e4 with e4 _
      omega
  · have := congrArg Str.length h3
    rw [Str.length_append, Str.length_append] at this
    have l1 : (⟨#[48]⟩ : Str).length = 1 := rfl
    have l2 : (⟨#[47]⟩ : Str).length = 1 := rfl
    have := itx_pos x.t
    omega
noncomputable def spRead : Sp := fun vs H Q _ => ∃ (many : Nat) (ts : List Trm), vs = [.str (stx ts), .int many] ∧ Good many ts ∧ ∀ p H', Same H H' → Poly H' p many ts → Q (.ref p) H'
structure RdI (H : Hp) (l : Addr) (ts : List Trm) (i : Nat) (ys : List V) (H2 : Hp) : Prop where
  s : Same H H2
  e : H2 l = some (.lst ys)
  y : Paired (TrmV H2) ys (ts.take i)
theorem Paired.snoc {α β : Type} {F : α → β → Prop} : ∀ {l₁ : List α} {l₂ : List β} {x : α} {y : β}, Paired F l₁ l₂ → F x y → Paired F (l₁ ++ [x]) (l₂ ++ [y])
  | _, _, _, _, .nil, h => .cons h .nil
  | _, _, _, _, .cons h t, k => .cons h (Paired.snoc t k)
theorem map_upd {H : Hp} {l : Addr} {ys : List V} {o : HO} (e : H l = some (.lst ys)) : ∀ a xs, H a = some (.tup xs) → upd H l o a = some (.tup xs) := fun a xs h => by
  rw [upd_ne (fun z => by rw [z, e] at h; cases h)]
  exact h
section
variable {P : Program} {w : World} {K : PySem.W.Frag} {mg : Str → Option Value} {base : Heap} {f fd : _}
theorem scRead : FnScope ["text", "many", "one"] ["text", "many"] (defScope sRead) := ⟨rfl, rfl, rfl, by decide +kernel, rfl, by decide +kernel, by decide +kernel⟩
theorem ok_read {fT fS fH : Addr} {fdT fdS fdH : FuncData} (F : Fun K "read" "read" sRead f fd) (T : Txt mg) (DT : Df K mg "read_term" sRdTerm ["text", "many"] fT fdT) (DS : Df K mg "is_sum" sSum ["thing"] fS fdS) (DH : Df K mg "shown" sShown ["one"] fH fdH)
    (GT : FnOk P w K mg base CX0 3 fT fdT ["text", "many"] spRdTerm) (GS : FnOk P w K mg base CX0 5 fS fdS ["thing"] spSum) (GH : FnOk P w K mg base CX0 3 fH fdH ["one"] spShown) : FnOk P w K mg base CX0 6 f fd ["text", "many"] spRead := by
  obtain ⟨ts0, hsg⟩ := T.signs
  refine F.ok scRead (fun vs H Q E h => ?_) (fun cdv A outer s H vs Q E hr h => ?_)
  · obtain ⟨many, ts, rfl, _⟩ := h
    rfl
  · obtain ⟨many, ts, rfl, ok, go⟩ := h
    have hr3 : Room 3 _ := hr.mono (by decide)
    refine ⟨_, pss_cons (ps_if (pt_cmpR op_gt (pe_callB call_len_str (by rfl) T.len PySem.boot_len (pa_cons (pv 0) pa_nil)) (pe_glob (v := .int 4000) (by rfl) hsg ⟨_, rfl⟩) (nomark _)) (pss_one ps_never) pss_nil)
      (pss_cons (ps_if (pt_cmpR op_eq (pv 0) pe_str (nomark _)) (pss_one (ps_ret (pe_tupF (pa_cons (pv 1) (pa_cons (pe_tupF pa_nil) pa_nil))))) pss_nil)
      (pss_cons (ps_set (i := 2) scRead.nd rfl (Or.inl rfl) (pe_tupF (pa_cons (pv 1) (pa_cons (pe_callTy call_tuple_of (by rfl) T.tup boot_tuple (pa_cons
        (pe_compF (own := 1) (idx := [1]) (N := ["part", "many"]) rfl rfl rfl (by decide +kernel) (by decide +kernel) (fun _ _ h => h) (has_of rfl) rfl (one_idx rfl ⟨rfl, rfl, rfl, rfl⟩)
          (pi_list (pe_backL (pe_bm PySem.F.plainAttrs_str PySem.F.slot_str_split PySem.F.type_str_split mt_split (pv 0) (pa_cons pe_str pa_nil)) (po_some (pe_un un_neg pe_int))))
          (fun C fp s2 H2 => pg_name (i := 0) (show List.Nodup (["part", "many"] : List Str) by decide +kernel) rfl (Or.inl rfl)) (fun C fp s2 H2 => pe_call GT hr3 rfl DT.m DT.F.kp DT.b .nil pass0 (pa_cons (pv 0) (pa_cons (pv 1) pa_nil)))) pa_nil)) pa_nil))))
      (pss_cons (ps_if (PW.pt (pw_or (pt_not (pt_val (pe_call GS hr rfl DS.m DS.F.kp DS.b .nil pass0 (pa_cons (pv 2) pa_nil)))) (pw_or1 (pt_cmpR op_ne (pe_call GH hr3 rfl DH.m DH.F.kp DH.b .nil pass0 (pa_cons (pv 2) pa_nil)) (pv 0) (nomark _))))) (pss_one ps_never) pss_nil)
      (pss_one (ps_ret (pv 2)))))), ?_⟩
    try dsimp only [cxK]
    have ln := stx_len ok.each ok.m4 ok.few
    refine ⟨_, rfl, _, rfl, Nat.le_trans ln (by decide), _, _, rfl, rfl, _, rfl, iteN (decide_eq_false (by omega)) ?_⟩
    refine ⟨_, rfl, rfl, _, rfl, ?_⟩
    cases ts with
    | nil =>
      refine iteP (decide_eq_true rfl) ⟨_, rfl, (by show 0 ≤ sizeLine; decide), fun q H1 n1 s1 e1 => ⟨(by show 2 ≤ sizeLine; decide), fun p H2 n2 s2 e2 => ?_⟩⟩
      exact go p H2 (s1.trans s2) ⟨q, [], e2, s2 _ _ e1, .nil⟩
    | cons x r =>
      refine iteN (stx_ne (ok.each x (by simp))) ?_
      refine ⟨_, rfl, _, rfl, rfl, _, _, rfl, rfl, rfl, Nat.le_trans (Nat.add_le_add_right ln 2) (by decide), fun a H1 n1 s1 e1 => ?_⟩
      rw [show Txt.split (stx (x :: r)) (Str.ofString " + ") = (x :: r).reverse.map ttx from split_stx x r] at e1
      refine ⟨1, rfl, _, rfl, rfl, a, _, rfl, SqL.of e1, fun a2 H2 n2 s2 e2 => ?_⟩
      rw [← List.map_reverse, ← List.map_reverse, List.reverse_reverse] at e2
      refine ⟨a2, rfl, ⟨_, SqL.of e2⟩, fun l H3 n3 s3 e3 => ?_⟩
      refine comp_listF (K := K) (a := a2) (xs := ((x :: r).map ttx).map V.str) (RdI H2 l (x :: r)) (Nat.lt_of_le_of_lt (show _ ≤ 7 by rw [List.length_map, List.length_map]; exact ok.few) (by decide)) ⟨s3, e3, .nil⟩ (fun i ys H4 h => ⟨SqL.of (h.s _ _ e2), h.e⟩) ?_ ?_
      · rintro i m ys v H4 hv hm hy ⟨s4, e4, hp⟩
        rw [List.getElem?_map, List.getElem?_map] at hv
        obtain ⟨y, hy2, rfl⟩ : ∃ y, (x :: r)[i]? = some y ∧ V.str (ttx y) = v := by
          cases e : (x :: r)[i]? with
          | none => rw [e] at hv; cases hv
          | some y => rw [e] at hv; exact ⟨y, rfl, Option.some.inj hv⟩
        refine ⟨keep1, _, rfl, _, rfl, many, y, rfl, ok.each y (List.mem_of_getElem? hy2), ok.m1, ok.m4, fun u H5 s5 hu => ?_⟩
        have e5 := s5 _ _ e4
        refine comp_next (by rw [List.getElem?_map, List.getElem?_map, hy2]; rfl) hm hy e5 ⟨put_same (s4.trans s5) n3, upd_same, ?_⟩
        rw [List.take_add_one, hy2]
        exact Paired.snoc (Paired.to (fun _ _ h => (h.map fun _ _ e => s5 _ _ e).map (map_upd e5)) hp) (hu.map (map_upd e5))
      · rintro ys H4 hl ⟨s4, e4, hp⟩
        rw [List.length_map, List.length_map, List.take_length] at hp
        refine ⟨l, _, rfl, .inl ⟨SqL.of e4, fun q nq => ⟨(by show 2 ≤ sizeLine; decide), fun p H5 n5 s5 e5 => ?_⟩⟩⟩
        have s45 : Same H4 H5 := (same_upd _ nq).trans s5
        have P5 : Poly H5 p many (x :: r) := ⟨q, ys, e5, s5 _ _ upd_same, Paired.to (fun _ _ h => h.map fun _ _ e => s45 _ _ e) hp⟩
        have s05 : Same H H5 := s1.trans (s2.trans (s4.trans s45))
        refine ⟨_, rfl, _, _, rfl, P5.dec, suOk_ok ok, fun H6 s6 => ⟨_, rfl, ?_⟩⟩
        rw [sumB_ok ok]
        refine iteF ⟨_, rfl, p, many, x :: r, rfl, P5.same s6, ok, fun H7 s7 => ⟨_, rfl, rfl, _, rfl, ?_⟩⟩
        refine iteN (by rw [decide_eq_true rfl]; rfl) ⟨_, rfl, ?_⟩
        exact go p H7 (s05.trans (s6.trans s7)) (P5.same (s6.trans s7))
end
end Lw

namespace Lw
open PySem PySem.Spec PyProof.Rows L2 LwS LwQ
noncomputable def Ent.tm (e : Ent) : Trm := ⟨e.ns, lowT e.t e.b, lowB e.t e.b⟩
theorem ent_tm {H : Hp} {many : Nat} {e : Ent} (h : EntOk H many e) (k7 : e.k ≤ 7) : TmOk many e.tm := by
  have hp := h.pos
  have g1 := LwM.gcd_pos e.t e.b hp
  have gp : 0 < Int.gcd e.t e.b := by omega
  have eT : e.tm.t = e.t / (Int.gcd e.t e.b : Int) := low_posT hp
  have eB : e.tm.b = e.b / (Int.gcd e.t e.b : Int) := low_posB hp
  have sb : e.b.natAbs < 2 ^ 680 := Nat.lt_of_le_of_lt (up_bits h.sb (show 97 * e.k ≤ 679 by omega)) (Nat.pow_lt_pow_right (by decide) (by decide))
  have sb' : e.b.natAbs ≤ 2 ^ 679 := up_bits h.sb (show 97 * e.k ≤ 679 by omega)
  have st : e.t.natAbs < 2 ^ 782 := by
    refine Nat.lt_of_le_of_lt h.st ?_
    refine Nat.lt_of_le_of_lt (Nat.mul_le_mul (Nat.mul_le_mul_right _ k7) sb') ?_
    decide +kernel
  refine ⟨h.len, h.nn, h.deg, ?_, ?_, ?_, ?_, ?_⟩
  · rw [eB]
    exact Int.ediv_pos_of_pos_of_dvd hp (by omega) (Int.gcd_dvd_right ..)
  · rw [eT, eB]
    exact Int.gcd_ediv_gcd_ediv_gcd gp
  · rw [eT]
    intro z
    have := Int.ediv_mul_cancel (Int.gcd_dvd_left e.t e.b)
    rw [z, Int.zero_mul] at this
    exact h.nz this.symm
  · rw [eT]
    exact abs_div st g1
  · rw [eB]
    exact abs_div sb g1
theorem DE.k7 {H : Hp} {d : Addr} {many : Nat} {E : List Ent} (h : DE H d many E) {e : Ent} (he : e ∈ E) : e.k ≤ 7 := Nat.le_trans (mem_le (List.mem_map_of_mem he)) h.sum
theorem DE.good {H : Hp} {d : Addr} {many : Nat} {E E' : List Ent} (h : DE H d many E) (m1 : 1 ≤ many) (m4 : many ≤ 4) (p : E'.Perm E) (u : E'.Pairwise fun e e2 => LwD.lexI e.ns e2.ns = true) : Good many (E'.map Ent.tm) := by
  refine ⟨fun x hx => ?_, by rw [List.length_map, p.length_eq]; exact h.few, m1, m4, List.pairwise_map.mpr u⟩
  obtain ⟨e, he, rfl⟩ := List.mem_map.mp hx
  exact ent_tm (h.each e (p.mem_iff.mp he)) (h.k7 (p.mem_iff.mp he))
noncomputable def ptx (x : Trm) (j : Nat) : Str := Str.join ⟨#[32]⟩ (ntx x.t x.b :: (wl 0 (x.ns.take j)).map wtx)
theorem join_snoc (sep y : Str) : ∀ (x : Str) (l : List Str), Str.join sep (x :: l ++ [y]) = Str.join sep (x :: l) ++ (sep ++ y)
  | x, [] => by show x ++ sep ++ y = x ++ (sep ++ y); exact Str.append_assoc ..
  | x, z :: r => by
    show x ++ sep ++ Str.join sep (z :: r ++ [y]) = x ++ sep ++ Str.join sep (z :: r) ++ (sep ++ y)
    rw [join_snoc sep y z r, Str.append_assoc (x ++ sep)]
theorem ptx_succ {x : Trm} {j : Nat} {n : Int} (h : x.ns[j]? = some n) : ptx x (j + 1) = if 1 ≤ n then ptx x j ++ (⟨#[32]⟩ ++ wtx (j, n)) else ptx x j := by
  have hj := (List.getElem?_eq_some_iff.mp h).1
  have et : x.ns.take (j + 1) = x.ns.take j ++ [n] := by rw [List.take_add_one, h]; rfl
  have ti : (x.ns.take j).length = j := by rw [List.length_take]; omega
  unfold ptx
  rw [et, wl_snoc, ti, Nat.zero_add]
  split
  · rw [List.map_append, ← List.cons_append]
    exact join_snoc ..
  · rw [List.append_nil]
theorem ptx_len {many : Nat} {x : Trm} (h : TmOk many x) (hm : many ≤ 4) (j : Nat) : (ptx x j).length ≤ 469 := by
  have h1 := StrLaws.join_length_le ⟨#[32]⟩ (ntx x.t x.b :: (wl 0 (x.ns.take j)).map wtx)
  have h2 := sum_le (l := (wl 0 (x.ns.take j)).map wtx) (B := 5) fun y hy => by
    obtain ⟨q, hq, rfl⟩ := List.mem_map.mp hy
    have := h.le (List.mem_of_mem_take (wl_mem hq).2.2.2)
    exact wtx_len this.1 this.2
  have h3 := wl_len (x.ns.take j) 0
  have h4 := ntx_len h
  have h5 := h.len
  simp only [List.map_cons, List.sum_cons, List.length_cons, List.length_map, List.length_take] at h1 h2 h3
  have e : (⟨#[32]⟩ : Str).length = 1 := rfl
  rw [e] at h1
  exact Nat.le_trans h1 (by omega)
theorem wtx_small {q : Nat × Int} {c : Nat} (h : q.1 < 4) (hc : c ∈ (wtx q).cps.toList) : c < 200 := by
  unfold wtx at hc
  split at hc
  · have : c = 97 + q.1 := by simpa [ltr] using hc
    omega
  · rw [cps_app, cps_app, List.append_assoc] at hc
    rcases List.mem_append.mp hc with h | h
    · have : c = 97 + q.1 := by simpa [ltr] using h
      omega
    · rcases List.mem_append.mp h with h | h
      · have : c = 94 := by simpa using h
        omega
      · have := itx_chars h; omega
theorem ttx_strOk {many : Nat} {x : Trm} (h : TmOk many x) (hm : many ≤ 4) : PyData.strOk (ttx x) = true := by
  unfold PyData.strOk
  rw [← Array.all_toList]
  refine List.all_eq_true.mpr fun c hc => decide_eq_true ?_
  rcases join_chars hc with h1 | ⟨y, hy, h1⟩
  · have : c = 32 := by simpa using h1
    omega
  · rcases List.mem_cons.mp hy with rfl | hy
    · have := ntx_chars h1; omega
    · obtain ⟨q, hq, rfl⟩ := List.mem_map.mp hy
      have h2 := (wl_mem hq).2.1
      have := wtx_small (by have := h.len; omega) h1
      omega
theorem abcd_at {j c : Nat} (h : (Str.ofString "abcd").cps[j]? = some c) : (⟨#[c]⟩ : Str) = ltr j := by
  have e : (Str.ofString "abcd").cps = #[97, 98, 99, 100] := by decide +kernel
  rw [e] at h
  match j, h with
  | 0, h => cases Option.some.inj h; rfl
  | 1, h => cases Option.some.inj h; rfl
  | 2, h => cases Option.some.inj h; rfl
  | 3, h => cases Option.some.inj h; rfl
  | n + 4, h => simp at h
theorem dec_strs {H : Hp} : ∀ ss : List Str, DecVs H (ss.map V.str) (ss.map PyData.str)
  | [] => .nil
  | x :: r => .cons (.str x) (dec_strs r)
theorem strs_ok {ss : List Str} (h : ∀ y ∈ ss, PyData.strOk y = true) : DataOk (.list (ss.map PyData.str)) := by
  have : ∀ l : List Str, (∀ y ∈ l, PyData.strOk y = true) → PyData.canLayAll0 (l.map PyData.str) = true ∧ PyData.depthAll (l.map PyData.str) ≤ 5 := by
    intro l
    induction l with
    | nil => exact fun _ => ⟨by simp [PyData.canLayAll0], by simp [PyData.depthAll]⟩
    | cons x r ih =>
      intro h
      have h1 := ih fun y hy => h y (List.mem_cons_of_mem _ hy)
      have h2 := h x (by simp)
      exact ⟨by simp [PyData.canLayAll0, PyData.canLay0, h1.1, h2], by simp [PyData.depthAll, PyData.depth]; omega⟩
  have h1 := this ss h
  exact ⟨by simp [PyData.canLay0, h1.1], by simp [PyData.depth]; omega⟩
theorem eqv_strs (ss : List Str) : PyData.eqv (.list (ss.map PyData.str)) (.list []) = ss.isEmpty := by
  cases ss with
  | nil => simp [PyData.eqv, PyData.eqvAll]
  | cons x r => simp [PyData.eqv, PyData.eqvAll]
theorem stx_rev (e : Ent) (r : List Ent) : stx ((e :: r).reverse.map Ent.tm) = Str.join ⟨#[32, 43, 32]⟩ ((e :: r).map fun e => ttx e.tm) := by
  have h : stx ((e :: r).reverse.map Ent.tm) = Str.join ⟨#[32, 43, 32]⟩ (((e :: r).reverse.map Ent.tm).reverse.map ttx) := by
    cases q : (e :: r).reverse.map Ent.tm with
    | nil => simp at q
    | cons x y => rfl
  rw [h, ← List.map_reverse, List.reverse_reverse, List.map_map]
  rfl
noncomputable def spText : Sp := fun vs H Q _ => ∃ (d : Addr) (many : Nat) (E : List Ent), vs = [.ref d] ∧ DE H d many E ∧ 1 ≤ many ∧ many ≤ 4 ∧ ∀ (E' : List Ent) (H' : Hp), Same H H' → E'.Perm E → E'.Pairwise (fun e e2 => LwD.lexI e.ns e2.ns = true) → Q (.str (stx (E'.map Ent.tm))) H'
inductive TxI (H H2 : Hp) (d l sl : Addr) (ys : List V) (E0 : List Ent) (i : Nat) : L2.St → Hp → Prop where
  | mk {u2 u3 u4 u5 u6 u7 u8 : Option V} {H' : Hp} (s : Same H H') (es : H' sl = some (.lst ys)) (kt : ∀ a xs, H2 a = some (.tup xs) → H' a = some (.tup xs)) (e : H' l = some (.lst (((E0.take i).map fun e => ttx e.tm).map V.str))) :
    TxI H H2 d l sl ys E0 i [some (.ref d), some (.ref l), u2, u3, u4, u5, u6, u7, u8] H'
inductive PtI (H : Hp) (d l b : Addr) (x : Trm) (j : Nat) : L2.St → Hp → Prop where
  | mk {u6 u7 u8 : Option V} {H' : Hp} (s : Same H H') : PtI H d l b x j [some (.ref d), some (.ref l), some (.ref b), some (.int x.t), some (.int x.b), some (.str (ptx x j)), u6, u7, u8] H'
section
variable {P : Program} {w : World} {K : PySem.W.Frag} {mg : Str → Option Value} {base : Heap} {f fd : _}
theorem scText : FnScope ["one", "texts", "powers", "top", "bottom", "part", "letter", "power", "some"] ["one"] (defScope sText) := ⟨rfl, rfl, rfl, by decide +kernel, rfl, by decide +kernel, by decide +kernel⟩
theorem ok_text {fL : Addr} {fdL : FuncData} (F : Fun K "_law_text" "_law_text" sText f fd) (T : Txt mg) (DL : Df K mg "_law_low" sLow ["top", "bottom"] fL fdL) : FnOk P w K mg base CX0 2 f fd ["one"] spText := by
  have GL : FnOk P w K mg base CX0 1 fL fdL ["top", "bottom"] spLow := ok_low DL.F T
  refine F.ok scText (fun vs H Q E h => ?_) (fun cdv A outer s H vs Q E hr h => ?_)
  · obtain ⟨d, many, E', rfl, _⟩ := h
    rfl
  · obtain ⟨d, many, EE, rfl, hD, m1, m4, go⟩ := h
    have hu : _ + 1 < cLine := Nat.lt_of_le_of_lt (Nat.add_le_add_left (by decide : 1 ≤ 64) _) hr.units
    refine ⟨_, pss_cons (ps_set (i := 1) scText.nd rfl (Or.inl rfl) (pe_lstF pa_nil))
      (pss_cons (ps_for PassesOwn.never rfl (pi_list (LwD.pe_sortF rfl rfl (by rfl) T.sorted (pa_cons (pv 0) pa_nil) (pk_cons pe_bl pk_nil))) (pg_name (i := 2) scText.nd rfl (Or.inl rfl))
        (pss_cons (ps_asg (pe_call GL hr rfl DL.m DL.F.kp DL.b .nil pass0 (pa_cons (pe_ix ix_tup (pe_dget hu (pv 0) (pv 2) (fun _ _ => rfl)) pe_int (fun _ _ => rfl)) (pa_cons (pe_ix ix_tup (pe_dget hu (pv 0) (pv 2) (fun _ _ => rfl)) pe_int (fun _ _ => rfl)) pa_nil))) (pg_tup rfl (pgs_cons (pg_name (i := 3) scText.nd rfl (Or.inl rfl)) (pgs_cons (pg_name (i := 4) scText.nd rfl (Or.inl rfl)) pgs_nil))))
        (pss_cons (ps_set (i := 5) scText.nd rfl (Or.inl rfl) (pe_callTy call_str_int (by rfl) T.str boot_str (pa_cons (pv 3) pa_nil)))
        (pss_cons (ps_if (pt_cmpR op_gt (pv 4) pe_int (nomark _)) (pss_one (ps_set (i := 5) scText.nd rfl (Or.inl rfl) (pe_op op_add_str (pe_op op_add_str (pv 5) pe_str) (pe_callTy call_str_int (by rfl) T.str boot_str (pa_cons (pv 4) pa_nil))))) pss_nil)
        (pss_cons (ps_for PassesOwn.never rfl (pi_zipS (by rfl) T.zip (pa_cons pe_str (pa_cons (pv 2) pa_nil))) (pg_tup rfl (pgs_cons (pg_name (i := 6) scText.nd rfl (Or.inl rfl)) (pgs_cons (pg_name (i := 7) scText.nd rfl (Or.inl rfl)) pgs_nil)))
          (pss_cons (ps_set (i := 8) scText.nd rfl (Or.inl rfl) (pe_lstF (pa_cons pe_str (pa_cons (pe_op op_add_str pe_str (pv 6)) (pa_cons (pe_op op_add_str (pe_op op_add_str (pe_op op_add_str pe_str (pv 6)) pe_str) (pe_callTy call_str_int (by rfl) T.str boot_str (pa_cons (pv 7) pa_nil))) pa_nil)))))
          (pss_one (ps_set (i := 5) scText.nd rfl (Or.inl rfl) (pe_op op_add_str (pv 5) (pe_ix ix_list (pv 8) (pe_callB (call_min2 rfl) (by rfl) T.min boot_min (pa_cons (pv 7) (pa_cons pe_int pa_nil))) (fun _ _ => rfl)))))))
        (pss_one (ps_expr (pe_bm PySem.F.plainAttrs_list PySem.F.slot_list_append PySem.F.type_list_append mt_append (pv 1) (pa_cons (pv 5) pa_nil)))))))))
      (pss_cons (ps_if (pt_cmpR (op_eqD hr.units) (pv 1) (pe_lstF pa_nil) (nomark _)) (pss_one (ps_ret pe_str)) pss_nil)
      (pss_one (ps_ret (pe_bm PySem.F.plainAttrs_str PySem.F.slot_str_join PySem.F.type_str_join mt_join pe_str (pa_cons (pv 1) pa_nil)))))), ?_⟩
    try dsimp only [cxK]
    refine ⟨(by show 0 ≤ sizeLine; decide), fun l H1 n1 s1 e1 => ?_⟩
    have D1 := hD.same s1
    refine ⟨_, rfl, _, rfl, d, _, rfl, D1.at', by rw [List.length_map]; exact Nat.lt_of_le_of_lt hD.few (by decide), fun p hp => ?_, fun ys zs pz ky pw sl H2 n2 s2 e2 => ⟨sl, rfl, ⟨ys, SqL.of e2⟩, ?_⟩⟩
    · obtain ⟨e, he, rfl⟩ := List.mem_map.mp hp
      exact ⟨e.ns, rfl, fun z => by have := (hD.each e he).len; rw [z] at this; simp at this; omega⟩
    obtain ⟨E0, pE, rfl⟩ := perm_lift pz EE rfl
    have pwE : E0.Pairwise (fun e e2 => LwD.lexI e2.ns e.ns = true) := by
      refine (List.pairwise_map.mp pw).imp fun {a b} h => ?_
      have h' : LwD.lexI (LwD.kInts (LwD.ik b.ns)) (LwD.kInts (LwD.ik a.ns)) = true := h
      rwa [LwD.kInts_ik, LwD.kInts_ik] at h'
    have s12 : Same H H2 := s1.trans s2
    have ls : sl ≠ l := fun z => by rw [z, e1] at n2; cases n2
    have yl : ys.length = E0.length := by rw [ky.1, List.length_map]
    have l7 : E0.length ≤ 7 := by rw [pE.length_eq]; exact hD.few
    have okE : ∀ e ∈ E0, TmOk many e.tm := fun e he => ent_tm (hD.each e (pE.mem_iff.mp he)) (hD.k7 (pE.mem_iff.mp he))
    refine for_list (K := K) (a := sl) (xs := ys) (TxI H H2 d l sl ys E0) (.mk s12 e2 (fun _ _ e => e) (s2 _ _ e1)) (fun i σ H3 _ h => ?_) (fun i y σ H3 hyi h => ?_) (fun σ H3 h => ?_)
    · obtain ⟨_, es, _, _⟩ := h
      exact SqL.of es
    · obtain ⟨s3, es, kt, el⟩ := h
      have hiy : i < ys.length := (List.getElem?_eq_some_iff.mp hyi).1
      have hie : i < E0.length := by omega
      obtain ⟨e, he⟩ : ∃ e, E0[i]? = some e := ⟨E0[i], by simp [hie]⟩
      obtain ⟨b, ns, rfl, hb1, hk⟩ := ky.2 i y e.kv hyi (by rw [List.getElem?_map, he]; rfl)
      have ens : e.ns = ns := ik_inj hk
      subst ens
      have eM : e ∈ E0 := List.mem_of_getElem? he
      have eE : e ∈ EE := pE.mem_iff.mp eM
      have D3 := hD.same s3
      have hE := D3.each e eE
      have ok := okE e eM
      have hb3 : H3 b = some (.tup (e.ns.map V.int)) := kt _ _ (s2 _ _ hb1)
      have g3 := D3.get eE hb3
      have c3 := SqT.of (K := K) hE.at'
      have k7 := hD.k7 eE
      refine ⟨_, rfl, _, rfl, d, _, rfl, g3, e.c, _, _, _, rfl, rfl, c3, rfl, _, rfl, _, rfl, d, _, rfl, g3, e.c, _, _, _, rfl, rfl, c3, rfl, e.t, e.b, rfl, ?_, .inl ?_, fun r H4 n4 s4 e4 => ?_⟩
      · have := hE.pos
        omega
      · exact Nat.lt_of_le_of_lt (up_bits hE.sb (show 97 * e.k ≤ 700 by omega)) (Nat.pow_lt_pow_right (by decide) (by decide))
      refine ⟨r, _, rfl, SqT.of e4, rfl, _, _, rfl, _, _, rfl, rfl, ?_⟩
      have l1 := log_lt ok.st (by decide) (by decide)
      have l2 := log_lt ok.sb (by decide) (by decide)
      have t1 := itx_len (by decide) ok.t10
      have t2 := itx_len (by decide) ok.b10
      have hns : H4 b = some (.tup (e.tm.ns.map V.int)) := s4 _ _ hb3
      have nl : (e.tm.ns.map V.int).length = many := by rw [List.length_map, ok.len]
      refine ⟨_, rfl, _, rfl, l1, ?_⟩
      dsimp only [gName]
      refine seq_join (t := tIfS _ _ _) (PtI H4 d l b e.tm 0) (fun σ H5 h => ?_) (fun go2 => ?_)
      · obtain ⟨s5⟩ := h
        refine ⟨_, rfl, _, b, rfl, (by decide +kernel), ⟨_, SqT.of (s5 _ _ hns)⟩, ?_⟩
        refine for_zipS (w0 := Str.ofString "abcd") (ys := e.tm.ns.map V.int) (PtI H4 d l b e.tm) (by rw [nl]; exact m4) (.mk s5) (fun j σ H6 _ h => ?_) (fun j c v p σ H6 hc hv hp h => ?_) (fun σ H6 h => ?_)
        · obtain ⟨s6⟩ := h
          exact SqT.of (s6 _ _ hns)
        · obtain ⟨s6⟩ := h
          obtain ⟨n, hn, rfl⟩ : ∃ n, e.tm.ns[j]? = some n ∧ V.int n = v := by
            rw [List.getElem?_map] at hv
            cases q : e.tm.ns[j]? with
            | none => rw [q] at hv; cases hv
            | some n => rw [q] at hv; exact ⟨n, rfl, Option.some.inj hv⟩
          have nb := ok.le (List.mem_of_getElem? hn)
          have ec : (⟨#[c]⟩ : Str) = ltr j := abcd_at hc
          rw [ec]
          refine ⟨p, _, rfl, SqT.of upd_same, rfl, _, _, rfl, _, _, rfl, rfl, ?_⟩
          have s7 : Same H6 (upd H6 p (.tup [.str (ltr j), .int n])) := same_upd _ hp
          have li := itx_len (by decide) (small10 nb.1 nb.2)
          have lp := ptx_len ok m4 j
          refine ⟨_, rfl, _, _, rfl, rfl, (by show 1 + 1 ≤ sizeLine; decide), _, rfl, _, _, rfl, rfl, (by show 1 + 1 ≤ sizeLine; decide), _, _, rfl, rfl, (by show 1 + 1 + 1 ≤ sizeLine; decide), _, rfl, n, rfl, log_lt (k := 10) (by omega) (by decide) (by decide), _, _, rfl, rfl, ?_, (by show 3 ≤ sizeLine; decide), fun q H8 n8 s8 e8 => ?_⟩
          · show 1 + 1 + 1 + (itx n).length ≤ sizeLine
            exact Nat.le_trans (show _ ≤ 6 by omega) (by decide)
          have s48 := s6.trans (s7.trans s8)
          have pk : ∃ y : Str, atI ([V.str (Str.ofString ""), V.str (Str.ofString " " ++ ltr j), V.str (Str.ofString " " ++ ltr j ++ Str.ofString "^" ++ itx n)]) (if 2 < n then 2 else n) = some (.str y) ∧ (ptx e.tm j).length + y.length ≤ sizeLine ∧ ptx e.tm j ++ y = ptx e.tm (j + 1) := by
            rw [ptx_succ hn]
            rcases (by omega : n = 0 ∨ n = 1 ∨ 1 < n) with h | h | h
            · subst h
              exact ⟨_, atI_nat (j := 0) rfl, Nat.le_trans (show (ptx e.tm j).length + 0 ≤ 469 by omega) (by decide), by rw [if_neg (by decide)]; exact Str.append_empty _⟩
            · subst h
              exact ⟨_, atI_nat (j := 1) rfl, Nat.le_trans (show (ptx e.tm j).length + 2 ≤ 471 by omega) (by decide), by rw [if_pos (by decide)]; rfl⟩
            · have e2 : (if 2 < n then 2 else n) = ((2 : Nat) : Int) := by split <;> omega
              rw [e2]
              refine ⟨_, atI_nat (j := 2) rfl, ?_, ?_⟩
              · rw [Str.length_append, Str.length_append, Str.length_append]
                exact Nat.le_trans (show (ptx e.tm j).length + (1 + 1 + 1 + (itx n).length) ≤ 480 by omega) (by decide)
              · rw [if_pos (by omega), show wtx (j, n) = ltr j ++ ⟨#[94]⟩ ++ itx n from if_neg (by show ¬ n = 1; omega)]
                rw [Str.append_assoc, Str.append_assoc, Str.append_assoc (ltr j)]
                rfl
          obtain ⟨y, y1, y2, y3⟩ := pk
          refine ⟨_, rfl, _, rfl, _, rfl, n, 2, rfl, q, _, _, _, rfl, rfl, SqL.of e8, y1, _, _, rfl, rfl, y2, ?_⟩
          rw [y3]
          exact .mk s48
        · obtain ⟨s6⟩ := h
          rw [nl, ← ok.len]
          have ep : ptx e.tm e.tm.ns.length = ttx e.tm := by unfold ptx ttx; rw [List.take_length]
          rw [ep]
          have el6 := s6 _ _ (s4 _ _ el)
          have few : (((E0.take i).map fun e => ttx e.tm).map V.str).length < sizeLine := by
            rw [List.length_map, List.length_map, List.length_take]
            exact Nat.lt_of_le_of_lt (show _ ≤ 7 by omega) (by decide)
          refine ⟨_, rfl, .inl ⟨rfl, _, SqL.of el6⟩, _, rfl, l, _, _, rfl, rfl, el6, few, ?_⟩
          refine .mk (put_same (s3.trans (s4.trans s6)) n1) ?_ (fun a xs h => map_upd el6 _ _ (s6 _ _ (s4 _ _ (kt _ _ h)))) ?_
          · rw [upd_ne ls]
            exact s6 _ _ (s4 _ _ es)
          · rw [upd_same, List.take_add_one, he, List.map_append, List.map_append]
            rfl
      · refine ⟨_, rfl, _, _, rfl, rfl, _, rfl, ?_⟩
        have e0 : ptx e.tm 0 = ntx e.tm.t e.tm.b := rfl
        have mk0 : ∀ (y : Str) (v6 v7 v8 : Option V), y = ptx e.tm 0 → PtI H4 d l b e.tm 0 [some (.ref d), some (.ref l), some (.ref b), some (.int e.tm.t), some (.int e.tm.b), some (.str y), v6, v7, v8] H4 := fun y v6 v7 v8 hy => by rw [hy]; exact .mk (Same.refl _)
        by_cases hb : 1 < e.tm.b
        · refine iteP (decide_eq_true hb) ⟨_, rfl, _, _, rfl, rfl, ?_, _, rfl, _, rfl, l2, _, _, rfl, rfl, ?_, go2 _ _ (mk0 _ _ _ _ ?_)⟩
          · show (itx e.tm.t).length + 1 ≤ sizeLine
            exact Nat.le_trans (show _ ≤ 1000 by omega) (by decide)
          · rw [Str.length_append]
            show (itx e.tm.t).length + 1 + (itx e.tm.b).length ≤ sizeLine
            exact Nat.le_trans (show _ ≤ 1000 by omega) (by decide)
          · rw [e0]
            exact (if_neg (show ¬ e.tm.b = 1 by omega)).symm
        · refine iteN (decide_eq_false hb) (go2 _ _ (mk0 _ _ _ _ ?_))
          rw [e0]
          exact (if_pos (show e.tm.b = 1 by have := ok.pos; omega)).symm
    · obtain ⟨s3, es, kt, el⟩ := h
      rw [yl, List.take_length] at el
      refine ⟨_, rfl, (by show 0 ≤ sizeLine; decide), fun z H4 n4 s4 e4 => ?_⟩
      have rv : E0.reverse.Perm EE := (List.reverse_perm _).trans pE
      have up : E0.reverse.Pairwise (fun e e2 => LwD.lexI e.ns e2.ns = true) := List.pairwise_reverse.mpr pwE
      have fin := go E0.reverse
      have okS : ∀ y ∈ E0.map fun e => ttx e.tm, PyData.strOk y = true := fun y hy => by
        obtain ⟨e, he, rfl⟩ := List.mem_map.mp hy
        exact ttx_strOk (okE e he) m4
      refine ⟨_, _, .lst (s4 _ _ el) (dec_strs _), .lst e4 .nil, strs_ok okS, strs_ok (ss := []) (fun y h => by cases h), _, rfl, ?_⟩
      rw [eqv_strs]
      cases E0 with
      | nil => exact iteT (fin H4 (s3.trans s4) rv up)
      | cons e r =>
        refine iteF ⟨rfl, _, rfl, ⟨#[32, 43, 32]⟩, l, _, rfl, rfl, SqL.of (s4 _ _ el), ?_, ?_⟩
        · refine join_ok (B := 469) (fun y hy => ?_) ?_
          · obtain ⟨z, hz, rfl⟩ := List.mem_map.mp hy
            exact ttx_len (okE z hz) m4
          · have e3 : (⟨#[32, 43, 32]⟩ : Str).length = 3 := rfl
            rw [e3, List.length_map]
            omega
        · have := fin H4 (s3.trans s4) rv up
          rw [stx_rev] at this
          exact this
end
end Lw

namespace Lw
open PySem PySem.Spec PyProof.Rows L2 LwS LwQ
theorem tmul_nil (l : Addr) (x : Value) (n : Nat) (od : Option Addr) (sl : Array (Option Value)) (u : Tok) :
    Meets (Builtin.«tuple.__mul__» ⟨[.ref l, .int (0 : Nat) u], []⟩) (fun _ R s => s.heap.get? l = some { cls := .type "tuple", dict := od, data := .seq #[x] n, slots := sl } ∧ R (.ok (.ret (Value.ref s.heap.objs.size))) { s with heap := s.heap.push { cls := Value.type "tuple", data := Data.seq #[] } }) :=
  .of_wp fun prog w A R s h => by
    obtain ⟨hp, g, d, tk, os⟩ := s; obtain ⟨hl, h⟩ := h
    wp_walk
    exact ⟨_, rfl, h⟩
section
variable {X : Cx}
noncomputable def rRepZ : R2 := fun x y H Q => ∃ (l : Addr) (k : Nat) (v : V), x = .ref l ∧ y = .int k ∧ H l = some (.tup [v]) ∧ k ≤ 4 ∧ ∀ p H', Same H H' → H' p = some (.tup (List.replicate k v)) → Q (.ref p) H'
theorem op_repZ : OpR X (binaryOp .Mult) rRepZ := by
  intro pins s σ H x y v u Q I rx ry h
  obtain ⟨l, k, z, rfl, rfl, hH, h2, q⟩ := h
  by_cases k0 : 1 ≤ k
  · exact LwD.op_repT pins s σ H _ _ v u Q I rx ry ⟨l, k, z, rfl, rfl, hH, k0, h2, q⟩
  · have e0 : k = 0 := by omega
    subst e0
    cases rx
    obtain ⟨t, rfl⟩ := ry
    obtain ⟨zl, its, rv, ⟨⟨cl, od, dt, sl⟩, ho, hc, n, hd⟩⟩ := (show ObjOk X.prog X.w H s.heap l (.tup [z]) from I.hok l _ hH)
    replace hc : cl = .type "tuple" := hc
    replace hd : dt = .seq its.toArray n := hd
    obtain ⟨iv, rfl, riv⟩ := vals1 rv
    subst hc hd
    refine wpAny_binaryOp_repeat_ref (T := "tuple") (U := "int") (by decide) ⟨_, ho, rfl⟩ (fun s' => typeIs_int s' _ t) LwD.nofill_tmul F.fills_int_mul F.slot_int_rmul LwD.rep_tup F.slot_int_index.lookup
      (call_meets F.slot_int_rmul (typeIs_int s _ t) F.entry_int_rmul (F.args_int_rmul_2 _ _) (LwD.tmul_r _ t l iv n od sl) ⟨ho, rfl, ⟨_, ho, rfl⟩, ?_⟩)
    refine call_meets F.slot_tuple_mul ⟨_, ho, rfl⟩ F.entry_tuple_mul (F.args_tuple_mul_2 _ _) (tmul_nil l iv n od sl t) ⟨ho, ?_⟩
    have nz : H s.heap.objs.size = none := I.hok.fresh (Nat.le_refl _)
    exact ⟨.ref s.heap.objs.size, _, I.laid (o := .tup []) (t' := s.toks) (fun b u e => Heap.get?_push_of_some _ e) (Nat.le_refl _) ⟨Nat.zero_le _, [], .nil, ⟨_, Heap.get?_push_size _ rfl, rfl, _, rfl⟩⟩, rfl, q _ _ (same_upd _ nz) upd_same⟩
end
noncomputable def spParts : Sp := fun vs H Q _ => ∃ (p : Addr) (many : Nat) (ts : List Trm), vs = [.ref p] ∧ Poly H p many ts ∧ Good many ts ∧ ∀ H', Same H H' → Q (.bl true) H'
inductive PaI (H : Hp) (p : Addr) : L2.St → Hp → Prop where
  | mk {u v x : Option V} {H' : Hp} (s : Same H H') : PaI H p [some (.ref p), u, v, x] H'
section
variable {P : Program} {w : World} {K : PySem.W.Frag} {mg : Str → Option Value} {base : Heap} {f fd : _}
theorem scParts : FnScope ["made", "powers", "number", "one"] ["made"] (defScope sParts) := ⟨rfl, rfl, rfl, by decide +kernel, rfl, by decide +kernel, by decide +kernel⟩
theorem ok_parts (F : Fun K "_law_whole_parts" "_law_whole_parts" sParts f fd) (T : Txt mg) : FnOk P w K mg base CX0 1 f fd ["made"] spParts := by
  refine F.ok scParts (fun vs H Q E h => ?_) (fun cdv A outer s H vs Q E hr h => ?_)
  · obtain ⟨p, many, ts, rfl, _⟩ := h
    rfl
  · obtain ⟨p, many, ts, rfl, hp, ok, go⟩ := h
    refine ⟨_, pss_cons (ps_for PassesOwn.never rfl (pi_tup (pe_ix ix_tup (pv 0) pe_int (fun _ _ => rfl))) (pg_tup rfl (pgs_cons (pg_name (i := 1) scParts.nd rfl (Or.inl rfl)) (pgs_cons (pg_name (i := 2) scParts.nd rfl (Or.inl rfl)) pgs_nil)))
        (pss_one (ps_for PassesOwn.never rfl (pi_tup (pe_op op_catH (pv 1) (pv 2))) (pg_name (i := 3) scParts.nd rfl (Or.inl rfl))
          (pss_one (ps_if (PW.pt (pw_or (pt_not (pt_val (pe_isi isi_int T.isi T.int boot_int (pv 3)))) (pw_or1 (pt_val (pe_isi isi_bool T.isi T.bool boot_bool (pv 3)))))) (pss_one (ps_ret pe_bl)) pss_nil)))))
      (pss_one (ps_ret (pe_not (pe_isi isi_bool T.isi T.bool boot_bool (pe_ix ix_tup (pv 0) pe_int (fun _ _ => rfl)))))), ?_⟩
    try dsimp only [cxK]
    obtain ⟨q, xs, e1, e2, e3⟩ := hp.ex
    refine ⟨_, rfl, p, _, _, _, rfl, rfl, SqT.of e1, rfl, q, rfl, ⟨_, SqT.of e2⟩, ?_⟩
    refine for_tup (K := K) (a := q) (xs := xs) (fun _ => PaI H p) (.mk (Same.refl _)) (fun i σ H2 _ h => ?_) (fun i v σ H2 hv h => ?_) (fun σ H2 h => ?_)
    · obtain ⟨s2⟩ := h
      exact SqT.of (s2 _ _ e2)
    · obtain ⟨s2⟩ := h
      obtain ⟨x, hx, ⟨r, b, c, rfl, t1, t2⟩⟩ := Paired.at e3 hv
      have okx := ok.each x (List.mem_of_getElem? hx)
      refine ⟨r, _, rfl, SqT.of (s2 _ _ t1), rfl, _, _, rfl, _, _, rfl, rfl, ?_⟩
      have z4 : (x.ns.map V.int).length + [V.int x.t, V.int x.b].length ≤ sizeLine := by
        rw [List.length_map, okx.len]
        exact Nat.le_trans (show _ ≤ 6 by have := ok.m4; simp; omega) (by decide)
      refine ⟨_, rfl, _, rfl, b, c, _, _, rfl, rfl, s2 _ _ t2.pw, s2 _ _ t2.nb, z4, fun a2 H3 s3 e4 => ⟨a2, rfl, ⟨_, SqT.of e4⟩, ?_⟩⟩
      have ei : x.ns.map V.int ++ [V.int x.t, V.int x.b] = (x.ns ++ [x.t, x.b]).map V.int := by rw [List.map_append]; rfl
      rw [ei] at e4
      refine for_tup (K := K) (a := a2) (xs := (x.ns ++ [x.t, x.b]).map V.int) (fun _ σ H4 => PaI H p σ H4 ∧ Same H3 H4) ⟨.mk (s2.trans s3), Same.refl _⟩ (fun j σ H4 _ h => ?_) (fun j u σ H4 hu h => ?_) (fun σ H4 h => ?_)
      · exact SqT.of (h.2 _ _ e4)
      · obtain ⟨⟨s4⟩, s5⟩ := h
        rw [List.getElem?_map] at hu
        obtain ⟨n, rfl⟩ : ∃ n, V.int n = u := by
          cases q : (x.ns ++ [x.t, x.b])[j]? with
          | none => rw [q] at hu; cases hu
          | some n => rw [q] at hu; exact ⟨n, Option.some.inj hu⟩
        exact ⟨_, rfl, rfl, .int, .int n, _, rfl, iteF ⟨_, rfl, rfl, .int, .int n, _, rfl, iteF ⟨.mk s4, s5⟩⟩⟩
      · exact h.1
    · obtain ⟨s2⟩ := h
      refine ⟨_, rfl, p, _, _, _, rfl, rfl, SqT.of (s2 _ _ e1), rfl, rfl, .int, .int many, _, rfl, go H2 s2⟩
end
end Lw

namespace Lw
open PySem PySem.Spec PyProof.Rows L2 LwS LwQ
theorem rise_one {E1 E2 : List Ent} (p : E1.Perm E2) (u1 : E1.Pairwise fun e e2 => LwD.lexI e.ns e2.ns = true) (u2 : E2.Pairwise fun e e2 => LwD.lexI e.ns e2.ns = true) : E1 = E2 :=
  List.Perm.eq_of_pairwise (fun a b _ _ h1 h2 => by have := LwD.lexI_as _ _ h1; rw [h2] at this; cases this) u1 u2 p
theorem paired_ix {α β : Type} {F : α → β → Prop} : ∀ {xs : List α} {ys : List β}, xs.length = ys.length → (∀ (i : Nat) x y, xs[i]? = some x → ys[i]? = some y → F x y) → Paired F xs ys
  | [], [], _, _ => .nil
  | [], _ :: _, h, _ => by cases h
  | _ :: _, [], h, _ => by cases h
  | x :: xs, y :: ys, h, k => .cons (k 0 x y rfl rfl) (paired_ix (by simpa using h) fun i a b h1 h2 => k (i + 1) a b h1 h2)
theorem SumE.poly {H : Hp} {p q : Addr} {many : Nat} {xs : List V} {E : List Ent} (h : SumE H p q many xs E) : Poly H p many (E.map Ent.tm) := by
  refine ⟨q, xs, h.at', h.terms, paired_ix (by rw [List.length_map]; exact h.each.1) fun i x y h1 h2 => ?_⟩
  rw [List.getElem?_map] at h2
  cases e : E[i]? with
  | none => rw [e] at h2; cases h2
  | some z =>
    rw [e] at h2
    obtain ⟨r, b, c, e1, e2, e3, e4⟩ := h.each.2 i x z h1 e
    rw [← Option.some.inj h2]
    exact ⟨r, b, c, e1, e2, e3, e4⟩
noncomputable def Ent.pad (k : Nat) (e : Ent) : Ent := { e with ns := e.ns ++ List.replicate k 0 }
theorem sum_zeros : ∀ k : Nat, (List.replicate k (0 : Int)).sum = 0
  | 0 => rfl
  | k + 1 => by rw [List.replicate_succ, List.sum_cons, sum_zeros k]; rfl
theorem EntOk.pad {H : Hp} {many : Nat} {e : Ent} (h : EntOk H many e) (k : Nat) : EntOk H (many + k) (e.pad k) := by
  refine ⟨?_, fun n hn => ?_, ?_, h.at', h.pos, h.nz, h.k1, h.sb, h.st⟩
  · show (e.ns ++ List.replicate k 0).length = _
    rw [List.length_append, List.length_replicate, h.len]
  · rcases List.mem_append.mp hn with hn | hn
    · exact h.nn n hn
    · rw [(List.mem_replicate.mp hn).2]
      exact Int.le_refl _
  · show (e.ns ++ List.replicate k 0).sum ≤ 16
    rw [List.sum_append, sum_zeros, Int.add_zero]
    exact h.deg
theorem lexI_pad (z : List Int) : ∀ {a b : List Int}, a.length = b.length → LwD.lexI a b = true → LwD.lexI (a ++ z) (b ++ z) = true
  | [], [], _, h => by simp [LwD.lexI] at h
  | [], _ :: _, h, _ => by cases h
  | _ :: _, [], h, _ => by cases h
  | x :: xs, y :: ys, l, h => by
    unfold LwD.lexI at h
    show (if x = y then LwD.lexI (xs ++ z) (ys ++ z) else decide (x < y)) = true
    split
    · rename_i e
      rw [if_pos e] at h
      exact lexI_pad z (by simpa using l) h
    · rename_i e
      rw [if_neg e] at h
      exact h
theorem pad_nodup {E : List Ent} (k : Nat) (h : (E.map Ent.ns).Nodup) : ((E.map (Ent.pad k)).map Ent.ns).Nodup := by
  rw [List.map_map]
  have h' := List.pairwise_map.mp h
  refine List.pairwise_map.mpr (h'.imp fun {a b} n z => n ?_)
  exact (List.append_left_inj _).mp z
theorem pad_rise {E : List Ent} {H : Hp} {many k : Nat} (hE : ∀ e ∈ E, EntOk H many e) (u : E.Pairwise fun e e2 => LwD.lexI e.ns e2.ns = true) : (E.map (Ent.pad k)).Pairwise fun e e2 => LwD.lexI e.ns e2.ns = true := by
  refine List.pairwise_map.mpr (List.Pairwise.imp_of_mem (fun {a b} ha hb h => ?_) u)
  exact lexI_pad _ (by rw [(hE a ha).len, (hE b hb).len]) h
theorem pad_stx (k : Nat) (E : List Ent) : stx ((E.map (Ent.pad k)).map Ent.tm) = stx (E.map Ent.tm) := by
  have h : ∀ l : List Ent, ((l.map (Ent.pad k)).map Ent.tm).map ttx = (l.map Ent.tm).map ttx := fun l => by
    rw [List.map_map, List.map_map, List.map_map]
    refine List.map_congr_left fun e _ => ?_
    exact ttx_zeros e.ns _ _ k
  cases E with
  | nil => rfl
  | cons e r =>
    show Str.join _ _ = Str.join _ _
    congr 1
    show ((((e :: r).map (Ent.pad k)).map Ent.tm).reverse).map ttx = (((e :: r).map Ent.tm).reverse).map ttx
    rw [List.map_reverse, List.map_reverse, h]
theorem pad_k (k : Nat) (E : List Ent) : (E.map (Ent.pad k)).map Ent.k = E.map Ent.k := by rw [List.map_map]; rfl
theorem cut63 (ns : List Int) : ∃ ms : List Int, cutV (ns.map V.int) none (some 63) = ms.map V.int ∧ ms.length ≤ 63 := by
  refine ⟨(ns.drop (HT.sIx (ns.map V.int).length 0 none)).take (HT.sIx (ns.map V.int).length (ns.map V.int).length (some 63) - HT.sIx (ns.map V.int).length 0 none), ?_, ?_⟩
  · unfold cutV
    rw [← List.map_drop, ← List.map_take]
  · rw [List.length_take]
    have : HT.sIx (ns.map V.int).length (ns.map V.int).length (some 63) ≤ 63 := by
      have := HT.sIx_nat (ns.map V.int).length (ns.map V.int).length 63
      rw [show ((63 : Nat) : Int) = 63 from rfl] at this
      rw [this]
      exact Nat.min_le_left _ _
    omega
inductive LaI (cl a tp : Addr) (i : Nat) : L2.St → Hp → Prop where
  | mk {v2 v3 v4 v5 v6 v7 v8 v9 : Option V} {H : Hp} (T : Tape cl H tp (400 * (i : Int))) : LaI cl a tp i [some (.ref a), some (.ref tp), v2, v3, v4, v5, v6, v7, v8, v9] H
inductive MoI (H : Hp) (a tp d : Addr) (u2 : Option V) (many : Nat) (tx : Str) (u6 : Option V) : L2.St → Hp → Prop where
  | mk {v7 v8 v9 : Option V} {H' : Hp} (s : Same H H') : MoI H a tp d u2 many tx u6 [some (.ref a), some (.ref tp), u2, some (.int many), some (.ref d), some (.str tx), u6, v7, v8, v9] H'
inductive WdI (H : Hp) (a tp d wd : Addr) (u2 : Option V) (many k : Nat) (tx : Str) (u6 : Option V) (E : List Ent) (i : Nat) : L2.St → Hp → Prop where
  | mk {v9 : Option V} {H' : Hp} (s : Same H H') (e : H' wd = some (.dT (((E.take i).map (Ent.pad k)).map Ent.kv))) : WdI H a tp d wd u2 many k tx u6 E i [some (.ref a), some (.ref tp), u2, some (.int many), some (.ref d), some (.str tx), u6, some (.int ((many : Int) + k)), some (.ref wd), v9] H'
section
variable {P : Program} {w : World} {K : PySem.W.Frag} {mg : Str → Option Value} {base : Heap} {f fd : _}
theorem scLaw : FnScope ["script", "tape", "turn", "many", "one", "text", "told", "more", "wider", "powers"] ["script"] (defScope sLaw) := ⟨rfl, rfl, rfl, by decide +kernel, rfl, by decide +kernel, by decide +kernel⟩
theorem ok_law {fD fF fX fR fH fM fP : Addr} {fdD fdF fdX fdR fdH fdM fdP : FuncData} (F : Fun K "law" "law" sLaw f fd) (T : Txt mg) (DD : Df K mg "_law_draw" sDraw ["tape", "many"] fD fdD) (DF : Df K mg "_law_drawn" sDrawn ["tape", "many"] fF fdF) (DX : Df K mg "_law_text" sText ["one"] fX fdX) (DR : Df K mg "read" sRead ["text", "many"] fR fdR)
    (DH : Df K mg "shown" sShown ["one"] fH fdH) (DM : Df K mg "_law_sum" sLSum ["many", "one"] fM fdM) (DP : Df K mg "_law_whole_parts" sParts ["made"] fP fdP)
    (GD : FnOk P w K mg base CX0 1 fD fdD ["tape", "many"] spDraw) (GF : FnOk P w K mg base CX0 4 fF fdF ["tape", "many"] spFound) (GX : FnOk P w K mg base CX0 2 fX fdX ["one"] spText) (GR : FnOk P w K mg base CX0 6 fR fdR ["text", "many"] spRead)
    (GH : FnOk P w K mg base CX0 3 fH fdH ["one"] spShown) (GM : FnOk P w K mg base CX0 2 fM fdM ["many", "one"] spLSum) (GP : FnOk P w K mg base CX0 1 fP fdP ["made"] spParts) : FnOk P w K mg base CX0 7 f fd ["script"] (spLaw K) := by
  refine F.ok scLaw (fun vs H Q E h => ?_) (fun cdv A outer s H vs Q E hr h => ?_)
  · obtain ⟨a, ns, rfl, _⟩ := h
    rfl
  · obtain ⟨a, ns, rfl, hS, hlen, go⟩ := h
    have hr1 : Room 1 _ := hr.mono (by decide)
    have hr2 : Room 2 _ := hr.mono (by decide)
    have hr3 : Room 3 _ := hr.mono (by decide)
    have hr4 : Room 4 _ := hr.mono (by decide)
    have hu : _ + 1 < cLine := Nat.lt_of_le_of_lt (Nat.add_le_add_left (by decide : 1 ≤ 64) _) hr.units
    refine ⟨_, pss_cons (ps_set (i := 1) scLaw.nd rfl (Or.inl rfl) (pe_lstF (pa_cons (pe_callTy call_listF (by rfl) T.lst boot_list (pa_cons (pe_slice sl_listF (pv 0) po_none (po_some pe_int)) pa_nil)) (pa_cons pe_int (pa_cons pe_int (pa_cons pe_int pa_nil)))))) (pss_cons (ps_for PassesOwn.never rfl (pi_range1 (by rfl) T.rng (pa_cons pe_int pa_nil)) (pg_name (i := 2) scLaw.nd rfl (Or.inl rfl)) (pss_cons (ps_set (i := 3) scLaw.nd rfl (Or.inl rfl) (pe_op op_add pe_int (pe_call GD hr1 rfl DD.m DD.F.kp DD.b .nil pass0 (pa_cons (pv 1) (pa_cons pe_int pa_nil))))) (pss_cons (ps_set (i := 4) scLaw.nd rfl (Or.inl rfl) (LwD.pe_frz (pe_call GF hr4 rfl DF.m DF.F.kp DF.b .nil pass0 (pa_cons (pv 1) (pa_cons (pv 3) pa_nil))))) (pss_cons (ps_set (i := 5) scLaw.nd rfl (Or.inl rfl) (pe_call GX hr2 rfl DX.m DX.F.kp DX.b .nil pass0 (pa_cons (pv 4) pa_nil))) (pss_cons (ps_set (i := 6) scLaw.nd rfl (Or.inl rfl) (pe_call GR hr rfl DR.m DR.F.kp DR.b .nil pass0 (pa_cons (pv 5) (pa_cons (pv 3) pa_nil)))) (pss_cons (ps_if (PW.pt (pw_or (pt_cmpR op_ne (pe_call GH hr3 rfl DH.m DH.F.kp DH.b .nil pass0 (pa_cons (pe_call GM hr2 rfl DM.m DM.F.kp DM.b .nil pass0 (pa_cons (pv 3) (pa_cons (pv 4) pa_nil))) pa_nil)) (pv 5) (nomark _)) (pw_or (pt_cmpR (op_neD hr.units) (pv 6) (pe_call GM hr2 rfl DM.m DM.F.kp DM.b .nil pass0 (pa_cons (pv 3) (pa_cons (pv 4) pa_nil))) (nomark _)) (pw_or1 (pt_not (pt_val (pe_call GP hr1 rfl DP.m DP.F.kp DP.b .nil pass0 (pa_cons (pv 6) pa_nil)))))))) (pss_one (ps_ret pe_bl)) pss_nil) (pss_one (ps_for PassesOwn.never rfl (pi_range2 (by rfl) T.rng (pa_cons (pv 3) (pa_cons pe_int pa_nil))) (pg_name (i := 7) scLaw.nd rfl (Or.inl rfl)) (pss_cons (ps_set (i := 8) scLaw.nd rfl (Or.inl rfl) (pe_dnewT)) (pss_cons (ps_for PassesOwn.never rfl (LwD.pi_keys (pv 4)) (pg_name (i := 9) scLaw.nd rfl (Or.inl rfl)) (pss_one (ps_dput hu (pv 8) (pe_op op_catH (pv 9) (pe_op op_repZ (pe_tupF (pa_cons pe_int pa_nil)) (pe_op op_sub (pv 7) (pv 3)))) (pe_dget hu (pv 4) (pv 9) (fun _ _ => rfl)) rfl))) (pss_one (ps_if (PW.pt (pw_or (pt_cmpR op_ne (pe_call GH hr3 rfl DH.m DH.F.kp DH.b .nil pass0 (pa_cons (pe_call GM hr2 rfl DM.m DM.F.kp DM.b .nil pass0 (pa_cons (pv 7) (pa_cons (pv 8) pa_nil))) pa_nil)) (pv 5) (nomark _)) (pw_or1 (pt_cmpR (op_neD hr.units) (pe_call GR hr rfl DR.m DR.F.kp DR.b .nil pass0 (pa_cons (pv 5) (pa_cons (pv 7) pa_nil))) (pe_call GM hr2 rfl DM.m DM.F.kp DM.b .nil pass0 (pa_cons (pv 7) (pa_cons (pv 8) pa_nil))) (nomark _))))) (pss_one (ps_ret pe_bl)) pss_nil)))))))))))) (pss_one (ps_ret pe_bl))), ?_⟩
    try dsimp only [cxK]
    obtain ⟨cs, em, hm⟩ := cut63 ns
    refine ⟨_, rfl, _, rfl, a, _, rfl, hS, fun p1 H1 n1 s1 e1 => ?_⟩
    refine ⟨p1, _, rfl, .inl (SqL.of e1), fun cl H2 n2 s2 e2 => ⟨(by show 4 ≤ sizeLine; decide), fun tp H3 n3 s3 e3 => ?_⟩⟩
    have T3 : Tape cl H3 tp 0 := ⟨cs, 0, 0, 0, e3, by rw [s3 _ _ e2, em], hm, by decide, by decide⟩
    refine ⟨4, rfl, by decide, by decide, for_range (n := 4) (LaI cl a tp) (.mk (T3.mono (Same.refl _) (by omega))) (fun i σ H4 hi h => ?_) (fun σ H4 h => ?_)⟩
    · obtain ⟨T4⟩ := h
      refine ⟨_, rfl, tp, 4, _, rfl, cl, T4, by omega, by decide, by decide, fun r H5 r0 r1 T5 b5 => ⟨_, _, rfl, rfl, ?_⟩⟩
      obtain ⟨k0, rfl⟩ := Int.eq_ofNat_of_zero_le r0
      have em' : (1 : Int) + (k0 : Int) = ((k0 + 1 : Nat) : Int) := by omega
      dsimp only [gName]
      rw [em']
      have m1 : 1 ≤ k0 + 1 := by omega
      have m4 : k0 + 1 ≤ 4 := by omega
      generalize k0 + 1 = many at m1 m4
      refine ⟨_, rfl, _, rfl, tp, many, _, rfl, m1, m4, cl, T5, by omega, fun d EE H6 nd b6 T6 D6 => ⟨d, _, rfl, D6.at', fun o => ?_⟩⟩
      have td := T6.ne D6.at' (fun _ z => by cases z)
      have T7 := T6.upd (.frz o (.dT (EE.map Ent.kv))) td.1 td.2 (Int.le_refl _)
      have z7 : upd H6 d (.frz o (.dT (EE.map Ent.kv))) d = some (.frz o (.dT (EE.map Ent.kv))) := upd_same
      have D7 : DE (upd H6 d (.frz o (.dT (EE.map Ent.kv)))) d many EE := ⟨.inr ⟨o, upd_same⟩, D6.nd, fun e he => (D6.each e he).map fun a xs q => by
        rw [upd_ne (fun y => by rw [y, D6.at'] at q; cases q)]
        exact q, D6.sum⟩
      generalize upd H6 d (.frz o (.dT (EE.map Ent.kv))) = H7 at T7 D7 z7
      refine ⟨_, rfl, d, many, EE, rfl, D7, m1, m4, fun E1 H8 s8 p1 u1 => ?_⟩
      have G1 := D7.good m1 m4 p1 u1
      refine ⟨_, rfl, _, rfl, many, _, rfl, G1, fun pt H9 s9 P9 => ?_⟩
      have D9 := (D7.same s8).same s9
      refine ⟨_, rfl, _, rfl, d, many, EE, rfl, D9, m1, fun p2 q2 xs2 E2 H10 n10 s10 pm2 u2 S2 => ?_⟩
      have E21 := rise_one (pm2.trans p1.symm) u2 u1
      subst E21
      refine ⟨p2, many, _, rfl, S2.poly, G1, fun H11 s11 => ⟨_, rfl, rfl, _, rfl, iteN (by rw [decide_eq_true rfl]; rfl) ?_⟩⟩
      have s911 := s10.trans s11
      refine ⟨_, rfl, _, rfl, _, rfl, d, many, EE, rfl, D9.same s911, m1, fun p3 q3 xs3 E3 H12 n12 s12 pm3 u3 S3 => ?_⟩
      have E31 := rise_one (pm3.trans pm2.symm) u3 u2
      subst E31
      have s912 := s911.trans s12
      refine ⟨_, _, (P9.same s912).dec, S3.poly.dec, poly_ok _ _, poly_ok _ _, _, rfl, ?_⟩
      rw [SeqAt.eqv_refl _ (poly_ok _ _).1]
      refine iteF ⟨_, rfl, pt, many, _, rfl, P9.same s912, G1, fun H13 s13 => ⟨_, rfl, iteF ?_⟩⟩
      have s713 : Same H7 H13 := s8.trans (s9.trans (s912.trans s13))
      refine ⟨_, rfl, _, _, rfl, ⟨by omega, by omega, by decide, by decide⟩, ?_⟩
      refine for_range (lo := many) (n := ((5 : Int) - many).toNat) (fun _ => MoI H13 a tp d _ many _ _) (.mk (Same.refl _)) (fun k σ H14 hk h => ?_) (fun σ H14 h => ?_)
      · obtain ⟨s14⟩ := h
        intro wd nwd
        have s15 : Same H14 (upd H14 wd (.dT [])) := same_upd _ nwd
        have s714 := s713.trans s14
        have D14 := D7.same s714
        refine ⟨_, rfl, d, o, _, rfl, s15 _ _ (s714 _ _ z7), fun p hp => ?_, fun ks hks => ?_⟩
        · obtain ⟨e, he, rfl⟩ := List.mem_map.mp hp
          exact ⟨e.ns, rfl⟩
        have lk : ks.length = EE.length := by rw [hks.1, List.length_map]
        refine LwD.for_keys (d := d) (o := o) (xs := ks) (WdI H14 a tp d wd _ many k _ _ EE) (.mk s15 upd_same) (fun j σ H16 h => ?_) (fun j x σ H16 hx h => ?_) (fun σ H16 h => ?_)
        · obtain ⟨s16, _⟩ := h
          exact s16 _ _ (s714 _ _ z7)
        · obtain ⟨s16, e16⟩ := h
          have hj : j < EE.length := by rw [← lk]; exact (List.getElem?_eq_some_iff.mp hx).1
          obtain ⟨e, he⟩ : ∃ e, EE[j]? = some e := ⟨EE[j], by simp [hj]⟩
          have eE := List.mem_of_getElem? he
          obtain ⟨b, ns', rfl, hb, hns⟩ := hks.2 j x e.kv hx (by rw [List.getElem?_map, he]; rfl)
          have ens : e.ns = ns' := ik_inj hns
          subst ens
          have hb14 : H14 b = some (.tup (e.ns.map V.int)) := by
            rw [upd_ne (fun y => by rw [y, upd_same] at hb; cases hb)] at hb
            exact hb
          have k4 : k ≤ 4 := by omega
          have ek : (many : Int) + (k : Int) - (many : Int) = (k : Int) := by omega
          have len := (D14.each e eE).len
          refine ⟨_, rfl, _, rfl, d, _, rfl, (D14.same s16).get eE (s16 _ _ hb14), _, rfl, _, rfl, (by show 1 ≤ sizeLine; decide), fun z H17 n17 s17 e17 => ⟨_, rfl, _, rfl, _, _, rfl, rfl, z, k, .int 0, rfl, congrArg V.int ek, e17, k4, fun zz H18 s18 e18 => ?_⟩⟩
          have s618 := s17.trans s18
          refine ⟨b, zz, _, _, rfl, rfl, s618 _ _ (s16 _ _ hb14), e18, ?_, fun kb H19 s19 e19 => ?_⟩
          · rw [List.length_map, List.length_replicate, len]
            exact Nat.le_trans (show many + k ≤ 8 by omega) (by decide)
          have s619 := s618.trans s19
          have e19' : H19 kb = some (.tup ((LwD.ik (e.pad k).ns).map kV)) := by
            rw [e19, LwD.ik_map]
            show _ = some (HO.tup ((e.ns ++ List.replicate k 0).map V.int))
            rw [List.map_append, List.map_replicate]
          have few : ((((EE.take j).map (Ent.pad k)).map Ent.kv)).length < sizeLine := by
            rw [List.length_map, List.length_map, List.length_take]
            exact Nat.lt_of_le_of_lt (show _ ≤ 7 by have := D7.few; omega) (by decide)
          refine ⟨wd, _, rfl, DPut.t (s619 _ _ e16) e19' few, .mk (put_same (s16.trans s619) nwd) ?_⟩
          rw [upd_same, put_out (key_ne ?_), List.take_add_one, he, List.map_append, List.map_append]
          · rfl
          · intro hin
            rw [List.map_map] at hin
            obtain ⟨e2, h2, h3⟩ := List.mem_map.mp hin
            have h4 : e2.ns = e.ns := (List.append_left_inj _).mp h3
            obtain ⟨i2, h5⟩ := List.mem_iff_getElem?.mp h2
            have hi2 : i2 < j := by
              have := (List.getElem?_eq_some_iff.mp h5).1
              rw [List.length_take] at this
              omega
            rw [List.getElem?_take_of_lt hi2] at h5
            have g1 : (EE.map Ent.ns)[i2]? = some e.ns := by rw [List.getElem?_map, h5, ← h4]; rfl
            have g2 : (EE.map Ent.ns)[j]? = some e.ns := by rw [List.getElem?_map, he]; rfl
            have := (List.getElem?_inj (by rw [List.length_map]; omega) D7.nd).mp (g1.trans g2.symm)
            omega
        · obtain ⟨s16, e16⟩ := h
          rw [lk, List.take_length] at e16
          have W16 : DE H16 wd (many + k) (EE.map (Ent.pad k)) := ⟨.inl e16, pad_nodup k D7.nd, fun e he => by
            obtain ⟨e', he', rfl⟩ := List.mem_map.mp he
            exact ((D14.same s16).each e' he').pad k, by rw [pad_k]; exact D7.sum⟩
          have mk1 : 1 ≤ many + k := by omega
          have mk4 : many + k ≤ 4 := by omega
          refine ⟨_, rfl, _, rfl, wd, many + k, _, rfl, W16, mk1, fun p4 q4 xs4 E4 H17 n17 s17 pm4 u4 S4 => ?_⟩
          have uP := pad_rise (k := k) (fun e he => D14.each e (pm3.mem_iff.mp he)) u3
          have E41 := rise_one (pm4.trans (pm3.map (Ent.pad k)).symm) u4 uP
          subst E41
          have G4 := W16.good mk1 mk4 (pm3.map (Ent.pad k)) uP
          refine ⟨p4, many + k, _, rfl, S4.poly, G4, fun H18 s18 => ⟨_, rfl, rfl, _, rfl, iteN (by rw [pad_stx, decide_eq_true rfl]; rfl) ?_⟩⟩
          have s618 := s17.trans s18
          refine ⟨_, rfl, _, rfl, many + k, _, by rw [← pad_stx k]; rfl, G4, fun p5 H19 s19 P5 => ?_⟩
          refine ⟨_, rfl, _, rfl, wd, many + k, _, rfl, W16.same (s618.trans s19), mk1, fun p6 q6 xs6 E6 H20 n20 s20 pm6 u6 S6 => ?_⟩
          have E61 := rise_one (pm6.trans (pm3.map (Ent.pad k)).symm) u6 uP
          subst E61
          refine ⟨_, _, (P5.same s20).dec, S6.poly.dec, poly_ok _ _, poly_ok _ _, _, rfl, ?_⟩
          rw [SeqAt.eqv_refl _ (poly_ok _ _).1]
          exact iteF (.mk (s14.trans (s16.trans (s618.trans (s19.trans s20)))))
      · obtain ⟨s14⟩ := h
        exact .mk (T7.mono (s713.trans s14) (by omega))
    · exact go H4
end
end Lw

namespace Lw
open PySem PySem.Spec PyProof.Rows L2 LwS
theorem len1 {us : List Value} (h : us.length = 1) : ∃ a, us = [a] := by cases us with | nil => cases h | cons a r => have e : r = [] := List.length_eq_zero_iff.mp (by simpa using h); subst e; exact ⟨a, rfl⟩
theorem len2 {us : List Value} (h : us.length = 2) : ∃ a b, us = [a, b] := by cases us with | nil => cases h | cons a r => obtain ⟨b, rfl⟩ := len1 (us := r) (by simpa using h); exact ⟨a, b, rfl⟩
theorem len3 {us : List Value} (h : us.length = 3) : ∃ a b c, us = [a, b, c] := by cases us with | nil => cases h | cons a r => obtain ⟨b, c, rfl⟩ := len2 (us := r) (by simpa using h); exact ⟨a, b, c, rfl⟩
theorem all_mk {l : PySem.W.OpenLaw} {w : World} {K : PySem.W.Frag} {h : Heap} {mg : Str → Option Value} {fa f1 f2 f3 f4 f5 f6 f7 f8 f9 f10 f11 f12 f13 f14 f15 f16 f17 f18 f19 f20 f21 f22 f23 f24 f25 f26 nA lA gA : Addr} (X : K.In h) (G : h.Ns mainGlobals mg) (hfa : mg "law" = some (.ref fa))
    {od1 an1 od2 an2 od3 an3 od4 an4 od5 an5 od6 an6 od7 an7 od8 an8 od9 an9 od10 an10 od11 an11 od12 an12 od13 an13 od14 an14 od15 an15 od16 an16 od17 an17 od18 an18 od19 an19 od20 an20 od21 an21 od22 an22 od23 an23 od24 an24 od25 an25 od26 an26 odN odG : Option Addr} {sl1 sl2 sl3 sl4 sl5 sl6 sl7 sl8 sl9 sl10 sl11 sl12 sl13 sl14 sl15 sl16 sl17 sl18 sl19 sl20 sl21 sl22 sl23 sl24 sl25 sl26 slN slL slG : Array (Option Value)} {nN nL nG : Nat}
    {oc1 kV1 dc1 pm1 cd1 ct1 oc2 kV2 dc2 pm2 cd2 ct2 oc3 kV3 dc3 pm3 cd3 ct3 oc4 kV4 dc4 pm4 cd4 ct4 oc5 kV5 dc5 pm5 cd5 ct5 oc6 kV6 dc6 pm6 cd6 ct6 oc7 kV7 dc7 pm7 cd7 ct7 oc8 kV8 dc8 pm8 cd8 ct8 oc9 kV9 dc9 pm9 cd9 ct9 oc10 kV10 dc10 pm10 cd10 ct10 oc11 kV11 dc11 pm11 cd11 ct11 oc12 kV12 dc12 pm12 cd12 ct12 oc13 kV13 dc13 pm13 cd13 ct13 oc14 kV14 dc14 pm14 cd14 ct14 oc15 kV15 dc15 pm15 cd15 ct15 oc16 kV16 dc16 pm16 cd16 ct16 oc17 kV17 dc17 pm17 cd17 ct17 oc18 kV18 dc18 pm18 cd18 ct18 oc19 kV19 dc19 pm19 cd19 ct19 oc20 kV20 dc20 pm20 cd20 ct20 oc21 kV21 dc21 pm21 cd21 ct21 oc22 kV22 dc22 pm22 cd22 ct22 oc23 kV23 dc23 pm23 cd23 ct23 oc24 kV24 dc24 pm24 cd24 ct24 oc25 kV25 dc25 pm25 cd25 ct25 oc26 kV26 dc26 pm26 cd26 ct26 : Value}
    (a1 : PySem.W.nsIn K mainGlobals "is_whole" = some (some (.ref f1))) (l1 : K.lookup f1 = some ⟨oc1, od1, .func (PySem.W.fnOf "is_whole" "is_whole" (defArgs sWhole) (defBody sWhole) (defScope sWhole) .none kV1 dc1 pm1 an1 cd1 ct1), sl1⟩) (c1 : PySem.W.codeIn K cd1 "is_whole" = true) (k1 : PySem.W.keepIn K (.ref f1) = true)
    (a2 : PySem.W.nsIn K mainGlobals "greatest_divisor" = some (some (.ref f2))) (l2 : K.lookup f2 = some ⟨oc2, od2, .func (PySem.W.fnOf "greatest_divisor" "greatest_divisor" (defArgs sGcd) (defBody sGcd) (defScope sGcd) .none kV2 dc2 pm2 an2 cd2 ct2), sl2⟩) (c2 : PySem.W.codeIn K cd2 "greatest_divisor" = true) (k2 : PySem.W.keepIn K (.ref f2) = true)
    (a3 : PySem.W.nsIn K mainGlobals "is_fraction" = some (some (.ref f3))) (l3 : K.lookup f3 = some ⟨oc3, od3, .func (PySem.W.fnOf "is_fraction" "is_fraction" (defArgs sIsf) (defBody sIsf) (defScope sIsf) .none kV3 dc3 pm3 an3 cd3 ct3), sl3⟩) (c3 : PySem.W.codeIn K cd3 "is_fraction" = true) (k3 : PySem.W.keepIn K (.ref f3) = true)
    (a4 : PySem.W.nsIn K mainGlobals "is_whole_from" = some (some (.ref f4))) (l4 : K.lookup f4 = some ⟨oc4, od4, .func (PySem.W.fnOf "is_whole_from" "is_whole_from" (defArgs sWF) (defBody sWF) (defScope sWF) .none kV4 dc4 pm4 an4 cd4 ct4), sl4⟩) (c4 : PySem.W.codeIn K cd4 "is_whole_from" = true) (k4 : PySem.W.keepIn K (.ref f4) = true)
    (a5 : PySem.W.nsIn K mainGlobals "are_powers" = some (some (.ref f5))) (l5 : K.lookup f5 = some ⟨oc5, od5, .func (PySem.W.fnOf "are_powers" "are_powers" (defArgs sPw) (defBody sPw) (defScope sPw) .none kV5 dc5 pm5 an5 cd5 ct5), sl5⟩) (c5 : PySem.W.codeIn K cd5 "are_powers" = true) (k5 : PySem.W.keepIn K (.ref f5) = true)
    (a6 : PySem.W.nsIn K mainGlobals "is_term" = some (some (.ref f6))) (l6 : K.lookup f6 = some ⟨oc6, od6, .func (PySem.W.fnOf "is_term" "is_term" (defArgs sTerm) (defBody sTerm) (defScope sTerm) .none kV6 dc6 pm6 an6 cd6 ct6), sl6⟩) (c6 : PySem.W.codeIn K cd6 "is_term" = true) (k6 : PySem.W.keepIn K (.ref f6) = true)
    (a7 : PySem.W.nsIn K mainGlobals "is_sum" = some (some (.ref f7))) (l7 : K.lookup f7 = some ⟨oc7, od7, .func (PySem.W.fnOf "is_sum" "is_sum" (defArgs sSum) (defBody sSum) (defScope sSum) .none kV7 dc7 pm7 an7 cd7 ct7), sl7⟩) (c7 : PySem.W.codeIn K cd7 "is_sum" = true) (k7 : PySem.W.keepIn K (.ref f7) = true)
    (a8 : PySem.W.nsIn K mainGlobals "shown_number" = some (some (.ref f8))) (l8 : K.lookup f8 = some ⟨oc8, od8, .func (PySem.W.fnOf "shown_number" "shown_number" (defArgs sShNum) (defBody sShNum) (defScope sShNum) .none kV8 dc8 pm8 an8 cd8 ct8), sl8⟩) (c8 : PySem.W.codeIn K cd8 "shown_number" = true) (k8 : PySem.W.keepIn K (.ref f8) = true)
    (a9 : PySem.W.nsIn K mainGlobals "shown_term" = some (some (.ref f9))) (l9 : K.lookup f9 = some ⟨oc9, od9, .func (PySem.W.fnOf "shown_term" "shown_term" (defArgs sShTerm) (defBody sShTerm) (defScope sShTerm) .none kV9 dc9 pm9 an9 cd9 ct9), sl9⟩) (c9 : PySem.W.codeIn K cd9 "shown_term" = true) (k9 : PySem.W.keepIn K (.ref f9) = true)
    (a10 : PySem.W.nsIn K mainGlobals "shown" = some (some (.ref f10))) (l10 : K.lookup f10 = some ⟨oc10, od10, .func (PySem.W.fnOf "shown" "shown" (defArgs sShown) (defBody sShown) (defScope sShown) .none kV10 dc10 pm10 an10 cd10 ct10), sl10⟩) (c10 : PySem.W.codeIn K cd10 "shown" = true) (k10 : PySem.W.keepIn K (.ref f10) = true)
    (a11 : PySem.W.nsIn K mainGlobals "read_whole" = some (some (.ref f11))) (l11 : K.lookup f11 = some ⟨oc11, od11, .func (PySem.W.fnOf "read_whole" "read_whole" (defArgs sRdWhole) (defBody sRdWhole) (defScope sRdWhole) .none kV11 dc11 pm11 an11 cd11 ct11), sl11⟩) (c11 : PySem.W.codeIn K cd11 "read_whole" = true) (k11 : PySem.W.keepIn K (.ref f11) = true)
    (a12 : PySem.W.nsIn K mainGlobals "read_number" = some (some (.ref f12))) (l12 : K.lookup f12 = some ⟨oc12, od12, .func (PySem.W.fnOf "read_number" "read_number" (defArgs sRdNum) (defBody sRdNum) (defScope sRdNum) .none kV12 dc12 pm12 an12 cd12 ct12), sl12⟩) (c12 : PySem.W.codeIn K cd12 "read_number" = true) (k12 : PySem.W.keepIn K (.ref f12) = true)
    (a13 : PySem.W.nsIn K mainGlobals "read_powers" = some (some (.ref f13))) (l13 : K.lookup f13 = some ⟨oc13, od13, .func (PySem.W.fnOf "read_powers" "read_powers" (defArgs sRdPw) (defBody sRdPw) (defScope sRdPw) .none kV13 dc13 pm13 an13 cd13 ct13), sl13⟩) (c13 : PySem.W.codeIn K cd13 "read_powers" = true) (k13 : PySem.W.keepIn K (.ref f13) = true)
    (a14 : PySem.W.nsIn K mainGlobals "read_term" = some (some (.ref f14))) (l14 : K.lookup f14 = some ⟨oc14, od14, .func (PySem.W.fnOf "read_term" "read_term" (defArgs sRdTerm) (defBody sRdTerm) (defScope sRdTerm) .none kV14 dc14 pm14 an14 cd14 ct14), sl14⟩) (c14 : PySem.W.codeIn K cd14 "read_term" = true) (k14 : PySem.W.keepIn K (.ref f14) = true)
    (a15 : PySem.W.nsIn K mainGlobals "read" = some (some (.ref f15))) (l15 : K.lookup f15 = some ⟨oc15, od15, .func (PySem.W.fnOf "read" "read" (defArgs sRead) (defBody sRead) (defScope sRead) .none kV15 dc15 pm15 an15 cd15 ct15), sl15⟩) (c15 : PySem.W.codeIn K cd15 "read" = true) (k15 : PySem.W.keepIn K (.ref f15) = true)
    (a16 : PySem.W.nsIn K mainGlobals "_law_draw" = some (some (.ref f16))) (l16 : K.lookup f16 = some ⟨oc16, od16, .func (PySem.W.fnOf "_law_draw" "_law_draw" (defArgs sDraw) (defBody sDraw) (defScope sDraw) .none kV16 dc16 pm16 an16 cd16 ct16), sl16⟩) (c16 : PySem.W.codeIn K cd16 "_law_draw" = true) (k16 : PySem.W.keepIn K (.ref f16) = true)
    (a17 : PySem.W.nsIn K mainGlobals "_law_low" = some (some (.ref f17))) (l17 : K.lookup f17 = some ⟨oc17, od17, .func (PySem.W.fnOf "_law_low" "_law_low" (defArgs sLow) (defBody sLow) (defScope sLow) .none kV17 dc17 pm17 an17 cd17 ct17), sl17⟩) (c17 : PySem.W.codeIn K cd17 "_law_low" = true) (k17 : PySem.W.keepIn K (.ref f17) = true)
    (a18 : PySem.W.nsIn K mainGlobals "_law_plus" = some (some (.ref f18))) (l18 : K.lookup f18 = some ⟨oc18, od18, .func (PySem.W.fnOf "_law_plus" "_law_plus" (defArgs sPlus) (defBody sPlus) (defScope sPlus) .none kV18 dc18 pm18 an18 cd18 ct18), sl18⟩) (c18 : PySem.W.codeIn K cd18 "_law_plus" = true) (k18 : PySem.W.keepIn K (.ref f18) = true)
    (a19 : PySem.W.nsIn K mainGlobals "_law_put" = some (some (.ref f19))) (l19 : K.lookup f19 = some ⟨oc19, od19, .func (PySem.W.fnOf "_law_put" "_law_put" (defArgs sPut) (defBody sPut) (defScope sPut) .none kV19 dc19 pm19 an19 cd19 ct19), sl19⟩) (c19 : PySem.W.codeIn K cd19 "_law_put" = true) (k19 : PySem.W.keepIn K (.ref f19) = true)
    (a20 : PySem.W.nsIn K mainGlobals "_law_number" = some (some (.ref f20))) (l20 : K.lookup f20 = some ⟨oc20, od20, .func (PySem.W.fnOf "_law_number" "_law_number" (defArgs sNumber) (defBody sNumber) (defScope sNumber) .none kV20 dc20 pm20 an20 cd20 ct20), sl20⟩) (c20 : PySem.W.codeIn K cd20 "_law_number" = true) (k20 : PySem.W.keepIn K (.ref f20) = true)
    (a21 : PySem.W.nsIn K mainGlobals "_law_fraction" = some (some (.ref f21))) (l21 : K.lookup f21 = some ⟨oc21, od21, .func (PySem.W.fnOf "_law_fraction" "_law_fraction" (defArgs sFraction) (defBody sFraction) (defScope sFraction) .none kV21 dc21 pm21 an21 cd21 ct21), sl21⟩) (c21 : PySem.W.codeIn K cd21 "_law_fraction" = true) (k21 : PySem.W.keepIn K (.ref f21) = true)
    (a22 : PySem.W.nsIn K mainGlobals "_law_sum" = some (some (.ref f22))) (l22 : K.lookup f22 = some ⟨oc22, od22, .func (PySem.W.fnOf "_law_sum" "_law_sum" (defArgs sLSum) (defBody sLSum) (defScope sLSum) .none kV22 dc22 pm22 an22 cd22 ct22), sl22⟩) (c22 : PySem.W.codeIn K cd22 "_law_sum" = true) (k22 : PySem.W.keepIn K (.ref f22) = true)
    (a23 : PySem.W.nsIn K mainGlobals "_law_drawn" = some (some (.ref f23))) (l23 : K.lookup f23 = some ⟨oc23, od23, .func (PySem.W.fnOf "_law_drawn" "_law_drawn" (defArgs sDrawn) (defBody sDrawn) (defScope sDrawn) .none kV23 dc23 pm23 an23 cd23 ct23), sl23⟩) (c23 : PySem.W.codeIn K cd23 "_law_drawn" = true) (k23 : PySem.W.keepIn K (.ref f23) = true)
    (a24 : PySem.W.nsIn K mainGlobals "_law_text" = some (some (.ref f24))) (l24 : K.lookup f24 = some ⟨oc24, od24, .func (PySem.W.fnOf "_law_text" "_law_text" (defArgs sText) (defBody sText) (defScope sText) .none kV24 dc24 pm24 an24 cd24 ct24), sl24⟩) (c24 : PySem.W.codeIn K cd24 "_law_text" = true) (k24 : PySem.W.keepIn K (.ref f24) = true)
    (a25 : PySem.W.nsIn K mainGlobals "_law_whole_parts" = some (some (.ref f25))) (l25 : K.lookup f25 = some ⟨oc25, od25, .func (PySem.W.fnOf "_law_whole_parts" "_law_whole_parts" (defArgs sParts) (defBody sParts) (defScope sParts) .none kV25 dc25 pm25 an25 cd25 ct25), sl25⟩) (c25 : PySem.W.codeIn K cd25 "_law_whole_parts" = true) (k25 : PySem.W.keepIn K (.ref f25) = true)
    (a26 : PySem.W.nsIn K mainGlobals "law" = some (some (.ref f26))) (l26 : K.lookup f26 = some ⟨oc26, od26, .func (PySem.W.fnOf "law" "law" (defArgs sLaw) (defBody sLaw) (defScope sLaw) .none kV26 dc26 pm26 an26 cd26 ct26), sl26⟩) (c26 : PySem.W.codeIn K cd26 "law" = true) (k26 : PySem.W.keepIn K (.ref f26) = true)
    (z1 : PySem.W.nsIn K mainGlobals "isinstance" = some none)
    (z2 : PySem.W.nsIn K mainGlobals "len" = some none)
    (z3 : PySem.W.nsIn K mainGlobals "int" = some none)
    (z4 : PySem.W.nsIn K mainGlobals "bool" = some none)
    (z5 : PySem.W.nsIn K mainGlobals "tuple" = some none)
    (z6 : PySem.W.nsIn K mainGlobals "list" = some none)
    (z7 : PySem.W.nsIn K mainGlobals "str" = some none)
    (z8 : PySem.W.nsIn K mainGlobals "abs" = some none)
    (z9 : PySem.W.nsIn K mainGlobals "range" = some none)
    (z10 : PySem.W.nsIn K mainGlobals "all" = some none)
    (z11 : PySem.W.nsIn K mainGlobals "sum" = some none)
    (z12 : PySem.W.nsIn K mainGlobals "zip" = some none)
    (z13 : PySem.W.nsIn K mainGlobals "sorted" = some none)
    (z14 : PySem.W.nsIn K mainGlobals "min" = some none)
    {tk1 : Tok} (v1 : PySem.W.nsIn K mainGlobals "LONG_BITS" = some (some (.int 8000 tk1)))
    {tk2 : Tok} (v2 : PySem.W.nsIn K mainGlobals "MOST_LETTERS" = some (some (.int 4 tk2)))
    {tk3 : Tok} (v3 : PySem.W.nsIn K mainGlobals "MOST_DEGREE" = some (some (.int 16 tk3)))
    {tk4 : Tok} (v4 : PySem.W.nsIn K mainGlobals "MOST_TERMS" = some (some (.int 500 tk4)))
    {tk5 : Tok} (v5 : PySem.W.nsIn K mainGlobals "MOST_SIGNS" = some (some (.int 4000 tk5)))
    {t0 t1 : Tok} (nN1 : PySem.W.nsIn K mainGlobals "NOUGHT" = some (some (.ref nA))) (nN2 : K.lookup nA = some ⟨.type "tuple", odN, .seq #[.int 0 t0, .int 1 t1] nN, slN⟩)
    {x0 x1 x2 x3 : Tok} (nL1 : PySem.W.nsIn K mainGlobals "LETTERS" = some (some (.ref lA))) (nL2 : K.lookup lA = some ⟨.type "tuple", none, .seq #[.str (Str.ofString "a") x0, .str (Str.ofString "b") x1, .str (Str.ofString "c") x2, .str (Str.ofString "d") x3] nL, slL⟩)
    {y0 y1 y2 y3 y4 y5 y6 y7 y8 y9 : Tok} (nG1 : PySem.W.nsIn K mainGlobals "FIGURES" = some (some (.ref gA))) (nG2 : K.lookup gA = some ⟨.type "tuple", odG, .seq #[.str (Str.ofString "0") y0, .str (Str.ofString "1") y1, .str (Str.ofString "2") y2, .str (Str.ofString "3") y3, .str (Str.ofString "4") y4, .str (Str.ofString "5") y5, .str (Str.ofString "6") y6, .str (Str.ofString "7") y7, .str (Str.ofString "8") y8, .str (Str.ofString "9") y9] nG, slG⟩) :
    ∃ fd : FuncData, (∀ (s : Shared) (v : Value), BindsTo s fd ⟨[v], []⟩ [("script", v)]) ∧ ∀ base : Heap, K.In base → base.Ns mainGlobals mg → FnOk l.prog w K mg base CX0 7 fa fd ["script"] (spLaw K) := by
  have e := hfa.symm.trans (PySem.W.mg_of X G a26)
  cases e
  have T : Txt mg := ⟨PySem.W.mg_none_of X G z1, PySem.W.mg_none_of X G z2, PySem.W.mg_none_of X G z3, PySem.W.mg_none_of X G z4, PySem.W.mg_none_of X G z5, PySem.W.mg_none_of X G z6, PySem.W.mg_none_of X G z7, PySem.W.mg_none_of X G z8, PySem.W.mg_none_of X G z9, ⟨_, PySem.W.mg_of X G v1⟩, PySem.W.mg_none_of X G z10, PySem.W.mg_none_of X G z11, PySem.W.mg_none_of X G z12, PySem.W.mg_none_of X G z13, PySem.W.mg_none_of X G z14, ⟨_, PySem.W.mg_of X G v2⟩, ⟨_, PySem.W.mg_of X G v3⟩, ⟨_, PySem.W.mg_of X G v4⟩, ⟨_, PySem.W.mg_of X G v5⟩⟩
  have N : Ngt K mg := ⟨nA, PySem.W.mg_of X G nN1, fun H => .inr ⟨_, _, _, nN2, rfl, rfl, by show 2 ≤ sizeLine; decide, .cons ⟨_, rfl⟩ (.cons ⟨_, rfl⟩ .nil)⟩⟩
  have L : Ltr K mg := ⟨lA, PySem.W.mg_of X G nL1, fun H => .inr ⟨_, _, _, nL2, rfl, rfl, by show 4 ≤ sizeLine; decide, (.cons ⟨_, rfl⟩ (.cons ⟨_, rfl⟩ (.cons ⟨_, rfl⟩ (.cons ⟨_, rfl⟩ .nil))))⟩, _, nL2, rfl, rfl⟩
  have R : Fig K mg := ⟨gA, PySem.W.mg_of X G nG1, fun H => .inr ⟨_, _, _, nG2, rfl, rfl, by show 10 ≤ sizeLine; decide, (.cons ⟨_, rfl⟩ (.cons ⟨_, rfl⟩ (.cons ⟨_, rfl⟩ (.cons ⟨_, rfl⟩ (.cons ⟨_, rfl⟩ (.cons ⟨_, rfl⟩ (.cons ⟨_, rfl⟩ (.cons ⟨_, rfl⟩ (.cons ⟨_, rfl⟩ (.cons ⟨_, rfl⟩ .nil))))))))))⟩⟩
  have F1 := fun_mk (st := sWhole) l1 c1 k1
  have F2 := fun_mk (st := sGcd) l2 c2 k2
  have F3 := fun_mk (st := sIsf) l3 c3 k3
  have F4 := fun_mk (st := sWF) l4 c4 k4
  have F5 := fun_mk (st := sPw) l5 c5 k5
  have F6 := fun_mk (st := sTerm) l6 c6 k6
  have F7 := fun_mk (st := sSum) l7 c7 k7
  have F8 := fun_mk (st := sShNum) l8 c8 k8
  have F9 := fun_mk (st := sShTerm) l9 c9 k9
  have F10 := fun_mk (st := sShown) l10 c10 k10
  have F11 := fun_mk (st := sRdWhole) l11 c11 k11
  have F12 := fun_mk (st := sRdNum) l12 c12 k12
  have F13 := fun_mk (st := sRdPw) l13 c13 k13
  have F14 := fun_mk (st := sRdTerm) l14 c14 k14
  have F15 := fun_mk (st := sRead) l15 c15 k15
  have F16 := fun_mk (st := sDraw) l16 c16 k16
  have F17 := fun_mk (st := sLow) l17 c17 k17
  have F18 := fun_mk (st := sPlus) l18 c18 k18
  have F19 := fun_mk (st := sPut) l19 c19 k19
  have F20 := fun_mk (st := sNumber) l20 c20 k20
  have F21 := fun_mk (st := sFraction) l21 c21 k21
  have F22 := fun_mk (st := sLSum) l22 c22 k22
  have F23 := fun_mk (st := sDrawn) l23 c23 k23
  have F24 := fun_mk (st := sText) l24 c24 k24
  have F25 := fun_mk (st := sParts) l25 c25 k25
  have F26 := fun_mk (st := sLaw) l26 c26 k26
  have b1 := F1.binds (ps := ["thing"]) fun _ _ _ _ _ _ us hl => by obtain ⟨_, rfl⟩ := len1 hl; rfl
  have D1 : Df K mg "is_whole" sWhole ["thing"] f1 _ := ⟨F1, b1, PySem.W.mg_of X G a1⟩
  have b2 := F2.binds (ps := ["one", "other"]) fun _ _ _ _ _ _ us hl => by obtain ⟨_, _, rfl⟩ := len2 hl; rfl
  have D2 : Df K mg "greatest_divisor" sGcd ["one", "other"] f2 _ := ⟨F2, b2, PySem.W.mg_of X G a2⟩
  have b3 := F3.binds (ps := ["thing"]) fun _ _ _ _ _ _ us hl => by obtain ⟨_, rfl⟩ := len1 hl; rfl
  have D3 : Df K mg "is_fraction" sIsf ["thing"] f3 _ := ⟨F3, b3, PySem.W.mg_of X G a3⟩
  have b4 := F4.binds (ps := ["thing", "low"]) fun _ _ _ _ _ _ us hl => by obtain ⟨_, _, rfl⟩ := len2 hl; rfl
  have D4 : Df K mg "is_whole_from" sWF ["thing", "low"] f4 _ := ⟨F4, b4, PySem.W.mg_of X G a4⟩
  have b5 := F5.binds (ps := ["thing", "many"]) fun _ _ _ _ _ _ us hl => by obtain ⟨_, _, rfl⟩ := len2 hl; rfl
  have D5 : Df K mg "are_powers" sPw ["thing", "many"] f5 _ := ⟨F5, b5, PySem.W.mg_of X G a5⟩
  have b6 := F6.binds (ps := ["thing", "many"]) fun _ _ _ _ _ _ us hl => by obtain ⟨_, _, rfl⟩ := len2 hl; rfl
  have D6 : Df K mg "is_term" sTerm ["thing", "many"] f6 _ := ⟨F6, b6, PySem.W.mg_of X G a6⟩
  have b7 := F7.binds (ps := ["thing"]) fun _ _ _ _ _ _ us hl => by obtain ⟨_, rfl⟩ := len1 hl; rfl
  have D7 : Df K mg "is_sum" sSum ["thing"] f7 _ := ⟨F7, b7, PySem.W.mg_of X G a7⟩
  have b8 := F8.binds (ps := ["number"]) fun _ _ _ _ _ _ us hl => by obtain ⟨_, rfl⟩ := len1 hl; rfl
  have D8 : Df K mg "shown_number" sShNum ["number"] f8 _ := ⟨F8, b8, PySem.W.mg_of X G a8⟩
  have b9 := F9.binds (ps := ["powers", "number"]) fun _ _ _ _ _ _ us hl => by obtain ⟨_, _, rfl⟩ := len2 hl; rfl
  have D9 : Df K mg "shown_term" sShTerm ["powers", "number"] f9 _ := ⟨F9, b9, PySem.W.mg_of X G a9⟩
  have b10 := F10.binds (ps := ["one"]) fun _ _ _ _ _ _ us hl => by obtain ⟨_, rfl⟩ := len1 hl; rfl
  have D10 : Df K mg "shown" sShown ["one"] f10 _ := ⟨F10, b10, PySem.W.mg_of X G a10⟩
  have b11 := F11.binds (ps := ["word"]) fun _ _ _ _ _ _ us hl => by obtain ⟨_, rfl⟩ := len1 hl; rfl
  have D11 : Df K mg "read_whole" sRdWhole ["word"] f11 _ := ⟨F11, b11, PySem.W.mg_of X G a11⟩
  have b12 := F12.binds (ps := ["word"]) fun _ _ _ _ _ _ us hl => by obtain ⟨_, rfl⟩ := len1 hl; rfl
  have D12 : Df K mg "read_number" sRdNum ["word"] f12 _ := ⟨F12, b12, PySem.W.mg_of X G a12⟩
  have b13 := F13.binds (ps := ["words", "many"]) fun _ _ _ _ _ _ us hl => by obtain ⟨_, _, rfl⟩ := len2 hl; rfl
  have D13 : Df K mg "read_powers" sRdPw ["words", "many"] f13 _ := ⟨F13, b13, PySem.W.mg_of X G a13⟩
  have b14 := F14.binds (ps := ["text", "many"]) fun _ _ _ _ _ _ us hl => by obtain ⟨_, _, rfl⟩ := len2 hl; rfl
  have D14 : Df K mg "read_term" sRdTerm ["text", "many"] f14 _ := ⟨F14, b14, PySem.W.mg_of X G a14⟩
  have b15 := F15.binds (ps := ["text", "many"]) fun _ _ _ _ _ _ us hl => by obtain ⟨_, _, rfl⟩ := len2 hl; rfl
  have D15 : Df K mg "read" sRead ["text", "many"] f15 _ := ⟨F15, b15, PySem.W.mg_of X G a15⟩
  have b16 := F16.binds (ps := ["tape", "many"]) fun _ _ _ _ _ _ us hl => by obtain ⟨_, _, rfl⟩ := len2 hl; rfl
  have D16 : Df K mg "_law_draw" sDraw ["tape", "many"] f16 _ := ⟨F16, b16, PySem.W.mg_of X G a16⟩
  have b17 := F17.binds (ps := ["top", "bottom"]) fun _ _ _ _ _ _ us hl => by obtain ⟨_, _, rfl⟩ := len2 hl; rfl
  have D17 : Df K mg "_law_low" sLow ["top", "bottom"] f17 _ := ⟨F17, b17, PySem.W.mg_of X G a17⟩
  have b18 := F18.binds (ps := ["one", "other"]) fun _ _ _ _ _ _ us hl => by obtain ⟨_, _, rfl⟩ := len2 hl; rfl
  have D18 : Df K mg "_law_plus" sPlus ["one", "other"] f18 _ := ⟨F18, b18, PySem.W.mg_of X G a18⟩
  have b19 := F19.binds (ps := ["found", "powers", "number"]) fun _ _ _ _ _ _ us hl => by obtain ⟨_, _, _, rfl⟩ := len3 hl; rfl
  have D19 : Df K mg "_law_put" sPut ["found", "powers", "number"] f19 _ := ⟨F19, b19, PySem.W.mg_of X G a19⟩
  have b20 := F20.binds (ps := ["tape"]) fun _ _ _ _ _ _ us hl => by obtain ⟨_, rfl⟩ := len1 hl; rfl
  have D20 : Df K mg "_law_number" sNumber ["tape"] f20 _ := ⟨F20, b20, PySem.W.mg_of X G a20⟩
  have b21 := F21.binds (ps := ["tape"]) fun _ _ _ _ _ _ us hl => by obtain ⟨_, rfl⟩ := len1 hl; rfl
  have D21 : Df K mg "_law_fraction" sFraction ["tape"] f21 _ := ⟨F21, b21, PySem.W.mg_of X G a21⟩
  have b22 := F22.binds (ps := ["many", "one"]) fun _ _ _ _ _ _ us hl => by obtain ⟨_, _, rfl⟩ := len2 hl; rfl
  have D22 : Df K mg "_law_sum" sLSum ["many", "one"] f22 _ := ⟨F22, b22, PySem.W.mg_of X G a22⟩
  have b23 := F23.binds (ps := ["tape", "many"]) fun _ _ _ _ _ _ us hl => by obtain ⟨_, _, rfl⟩ := len2 hl; rfl
  have D23 : Df K mg "_law_drawn" sDrawn ["tape", "many"] f23 _ := ⟨F23, b23, PySem.W.mg_of X G a23⟩
  have b24 := F24.binds (ps := ["one"]) fun _ _ _ _ _ _ us hl => by obtain ⟨_, rfl⟩ := len1 hl; rfl
  have D24 : Df K mg "_law_text" sText ["one"] f24 _ := ⟨F24, b24, PySem.W.mg_of X G a24⟩
  have b25 := F25.binds (ps := ["made"]) fun _ _ _ _ _ _ us hl => by obtain ⟨_, rfl⟩ := len1 hl; rfl
  have D25 : Df K mg "_law_whole_parts" sParts ["made"] f25 _ := ⟨F25, b25, PySem.W.mg_of X G a25⟩
  refine ⟨PySem.W.fnOf "law" "law" (defArgs sLaw) (defBody sLaw) (defScope sLaw) .none kV26 dc26 pm26 an26 cd26 ct26, fun s v => .of_eq rfl, fun base _ _ => ?_⟩
  have GS := ok_sum (P := l.prog) (w := w) (base := base) F7 T N D4 D5 D3 D1 D2 D6
  have GH := ok_shown (P := l.prog) (w := w) (base := base) F10 T L D8 D9
  have GT := ok_rdterm (P := l.prog) (w := w) (base := base) F14 T L R D11 D12 D13
  have GR := ok_read (P := l.prog) (w := w) (base := base) F15 T D14 D7 D10 GT GS GH
  exact ok_law F26 T D16 D23 D24 D15 D10 D22 D25 (ok_draw F16 T) (ok_found F23 T D16 D19 D21 D18 D17 D20) (ok_text F24 T D17) GR GH (ok_lsum F22 T D17) (ok_parts F25 T)
theorem walk {l : PySem.W.OpenLaw} {q : Program} {loose : List Str} {XP : (Str → Option Value) → Heap → Prop} {YP : World → Heap → Prop} {d : DefRec} {K : Params → PySem.W.Frag} (hn : l.most = some 63) (hdf : d.params.defaults = [])
    (hY : ∀ (w : World) (h : Heap), YP w h → (K w.params).In h)
    (F : ∀ (w : World) (mg : Str → Option Value) (fa : Addr) (h : Heap), (K w.params).In h → h.Ns mainGlobals mg → mg d.name = some (.ref fa) →
      ∃ fd : FuncData, (∀ (s : Shared) (u : Value), BindsTo s fd ⟨[u], []⟩ [("script", u)]) ∧ ∀ base : Heap, (K w.params).In base → base.Ns mainGlobals mg → FnOk l.prog w (K w.params) mg base CX0 7 fa fd ["script"] (spLaw (K w.params))) :
    PySem.W.WalkO q loose XP YP l.row.toRowW d [] (fun f vs => PySem.call f vs) :=
  L2.walk_of (n := 63) (k := 7) (x := "script") (CX := fun _ => CX0) (sp := fun w => spLaw (K w.params)) hn (by decide) hdf ⟨rfl, by decide, by decide⟩ hY F (fun _ _ a ns hl _ hS => ⟨a, ns, rfl, hS, hl, fun _ => rfl⟩) fun _ _ _ _ _ z => z
end Lw

open PySem PySem.W PyProof.Rows
set_option maxRecDepth 100000 in
set_option maxHeartbeats 0 in
theorem PySem.Challenge.cw_lowwater_k07_sums_shown_holds : PySem.Challenge.rw_lowwater_k07_sums_shown.Holds := by
  w_on; o_law; k_head; (case hw => w_witness2)
  k_fill
  refine Lw.walk (l := PySem.Challenge.rw_lowwater_k07_sums_shown) rfl rfl (fun w h Y => PySem.W.kIn_of Y) ?F
  case F =>
    intro w mg fa h KX G hmg
    refine' Lw.all_mk KX G hmg ?a1 ?l1 ?c1 ?k1 ?a2 ?l2 ?c2 ?k2 ?a3 ?l3 ?c3 ?k3 ?a4 ?l4 ?c4 ?k4 ?a5 ?l5 ?c5 ?k5 ?a6 ?l6 ?c6 ?k6 ?a7 ?l7 ?c7 ?k7 ?a8 ?l8 ?c8 ?k8 ?a9 ?l9 ?c9 ?k9 ?a10 ?l10 ?c10 ?k10 ?a11 ?l11 ?c11 ?k11 ?a12 ?l12 ?c12 ?k12 ?a13 ?l13 ?c13 ?k13 ?a14 ?l14 ?c14 ?k14 ?a15 ?l15 ?c15 ?k15 ?a16 ?l16 ?c16 ?k16 ?a17 ?l17 ?c17 ?k17 ?a18 ?l18 ?c18 ?k18 ?a19 ?l19 ?c19 ?k19 ?a20 ?l20 ?c20 ?k20 ?a21 ?l21 ?c21 ?k21 ?a22 ?l22 ?c22 ?k22 ?a23 ?l23 ?c23 ?k23 ?a24 ?l24 ?c24 ?k24 ?a25 ?l25 ?c25 ?k25 ?a26 ?l26 ?c26 ?k26 ?z1 ?z2 ?z3 ?z4 ?z5 ?z6 ?z7 ?z8 ?z9 ?z10 ?z11 ?z12 ?z13 ?z14 ?v1 ?v2 ?v3 ?v4 ?v5 ?nN1 ?nN2 ?nL1 ?nL2 ?nG1 ?nG2
    (case a1 => k_is)
    (case l1 => k_is)
    (case c1 => k_is)
    (case k1 => k_is)
    (case a2 => k_is)
    (case l2 => k_is)
    (case c2 => k_is)
    (case k2 => k_is)
    (case a3 => k_is)
    (case l3 => k_is)
    (case c3 => k_is)
    (case k3 => k_is)
    (case a4 => k_is)
    (case l4 => k_is)
    (case c4 => k_is)
    (case k4 => k_is)
    (case a5 => k_is)
    (case l5 => k_is)
    (case c5 => k_is)
    (case k5 => k_is)
    (case a6 => k_is)
    (case l6 => k_is)
    (case c6 => k_is)
    (case k6 => k_is)
    (case a7 => k_is)
    (case l7 => k_is)
    (case c7 => k_is)
    (case k7 => k_is)
    (case a8 => k_is)
    (case l8 => k_is)
    (case c8 => k_is)
    (case k8 => k_is)
    (case a9 => k_is)
    (case l9 => k_is)
    (case c9 => k_is)
    (case k9 => k_is)
    (case a10 => k_is)
    (case l10 => k_is)
    (case c10 => k_is)
    (case k10 => k_is)
    (case a11 => k_is)
    (case l11 => k_is)
    (case c11 => k_is)
    (case k11 => k_is)
    (case a12 => k_is)
    (case l12 => k_is)
    (case c12 => k_is)
    (case k12 => k_is)
    (case a13 => k_is)
    (case l13 => k_is)
    (case c13 => k_is)
    (case k13 => k_is)
    (case a14 => k_is)
    (case l14 => k_is)
    (case c14 => k_is)
    (case k14 => k_is)
    (case a15 => k_is)
    (case l15 => k_is)
    (case c15 => k_is)
    (case k15 => k_is)
    (case a16 => k_is)
    (case l16 => k_is)
    (case c16 => k_is)
    (case k16 => k_is)
    (case a17 => k_is)
    (case l17 => k_is)
    (case c17 => k_is)
    (case k17 => k_is)
    (case a18 => k_is)
    (case l18 => k_is)
    (case c18 => k_is)
    (case k18 => k_is)
    (case a19 => k_is)
    (case l19 => k_is)
    (case c19 => k_is)
    (case k19 => k_is)
    (case a20 => k_is)
    (case l20 => k_is)
    (case c20 => k_is)
    (case k20 => k_is)
    (case a21 => k_is)
    (case l21 => k_is)
    (case c21 => k_is)
    (case k21 => k_is)
    (case a22 => k_is)
    (case l22 => k_is)
    (case c22 => k_is)
    (case k22 => k_is)
    (case a23 => k_is)
    (case l23 => k_is)
    (case c23 => k_is)
    (case k23 => k_is)
    (case a24 => k_is)
    (case l24 => k_is)
    (case c24 => k_is)
    (case k24 => k_is)
    (case a25 => k_is)
    (case l25 => k_is)
    (case c25 => k_is)
    (case k25 => k_is)
    (case a26 => k_is)
    (case l26 => k_is)
    (case c26 => k_is)
    (case k26 => k_is)
    (case z1 => k_is)
    (case z2 => k_is)
    (case z3 => k_is)
    (case z4 => k_is)
    (case z5 => k_is)
    (case z6 => k_is)
    (case z7 => k_is)
    (case z8 => k_is)
    (case z9 => k_is)
    (case z10 => k_is)
    (case z11 => k_is)
    (case z12 => k_is)
    (case z13 => k_is)
    (case z14 => k_is)
    (case v1 => k_is)
    (case v2 => k_is)
    (case v3 => k_is)
    (case v4 => k_is)
    (case v5 => k_is)
    (case nN1 => k_is)
    (case nN2 => k_is)
    (case nL1 => k_is)
    (case nL2 => k_is)
    (case nG1 => k_is)
    (case nG2 => k_is)

