import PyProof.Rows.All
import Wide.All
import OpenK.AllK
import Wide.FinOn
import Lean
import PyProof.EqAt
import PyProof.EqKinds
import PyProof.TupleCall
import PySem.Challenge.RW_lowwater_k55_numbers_of_a_sum_in_a_stret
set_option Elab.async false
set_option linter.all false
set_option maxRecDepth 100000
namespace L2
open PySem PySem.Spec PyProof.Rows

noncomputable abbrev Key := Sum Int Str
noncomputable def keyIs : Key → Value → Bool
  | .inl k, v => Value.isInt k v
  | .inr x, v => Value.isStrOf x v
noncomputable def keyH (w : World) : Key → Int
  | .inl k => hashInt k
  | .inr x => hashStr w x
theorem keyIs_shape : ∀ {k : Key} {v : Value}, keyIs k v = true → (∃ i t, k = Sum.inl i ∧ v = Value.int i t) ∨ (∃ x t, k = Sum.inr x ∧ v = Value.str x t)
  | .inl i, v, h => by
    obtain ⟨t, e⟩ := Value.isInt_shape (k := i) (v := v) h
    exact .inl ⟨i, t, rfl, e⟩
  | .inr x, v, h => by
    obtain ⟨t, e⟩ := Value.isStrOf_shape (x := x) (v := v) h
    exact .inr ⟨x, t, rfl, e⟩
theorem keyIs_int (i : Int) (t : Tok) : keyIs (.inl i) (.int i t) = true := by simp [keyIs, Value.isInt]
theorem keyIs_str (x : Str) (t : Tok) : keyIs (.inr x) (.str x t) = true := by simp [keyIs, Value.isStrOf]
theorem key_ll (a b : Int) : decide ((Sum.inl a : Key) = Sum.inl b) = (a == b) := by
  by_cases e : a = b
  · subst e; simp
  · have h : ¬ (Sum.inl a : Key) = Sum.inl b := fun q => e (Sum.inl.inj q)
    rw [decide_eq_false h]
    exact (beq_eq_false_iff_ne.mpr e).symm
theorem key_rr (a b : Str) : decide ((Sum.inr a : Key) = Sum.inr b) = decide (a = b) := by
  by_cases e : a = b
  · subst e; simp
  · have h : ¬ (Sum.inr a : Key) = Sum.inr b := fun q => e (Sum.inr.inj q)
    rw [decide_eq_false h, decide_eq_false e]
theorem key_lr (a : Int) (b : Str) : decide ((Sum.inl a : Key) = Sum.inr b) = false := decide_eq_false (fun q => nomatch q)
theorem key_rl (a : Str) (b : Int) : decide ((Sum.inr a : Key) = Sum.inl b) = false := decide_eq_false (fun q => nomatch q)

noncomputable def mixKind (prog : Program) (w : World) : PySem.KeyKind prog w Key where
  is := keyIs
  hash := keyH w
  inj := fun v a b ha hb => by
    rcases keyIs_shape ha with ⟨i, t, rfl, rfl⟩ | ⟨x, t, rfl, rfl⟩
    · rcases keyIs_shape hb with ⟨j, u, rfl, e⟩ | ⟨y, u, rfl, e⟩
      · injection e with e1 _; rw [e1]
      · exact nomatch e
    · rcases keyIs_shape hb with ⟨j, u, rfl, e⟩ | ⟨y, u, rfl, e⟩
      · exact nomatch e
      · injection e with e1 _; rw [e1]
  byValue := fun k v h => by
    rcases keyIs_shape h with ⟨i, t, rfl, rfl⟩ | ⟨x, t, rfl, rfl⟩ <;> rfl
  pyHash := fun hv h => by
    rcases keyIs_shape hv with ⟨i, t, rfl, rfl⟩ | ⟨x, t, rfl, rfl⟩
    · exact wpAny_pyHash_int h
    · exact wpAny_pyHash_str h
  eqBool := fun hu hv h => by
    rcases keyIs_shape hu with ⟨i, t, rfl, rfl⟩ | ⟨x, t, rfl, rfl⟩
    · rcases keyIs_shape hv with ⟨j, u, rfl, rfl⟩ | ⟨y, u, rfl, rfl⟩
      · rw [key_ll] at h; exact wpAny_eqBool_int h
      · rw [key_lr] at h; exact SeqAt.EqAt.int_str i t y u _ _ _ _ h
    · rcases keyIs_shape hv with ⟨j, u, rfl, rfl⟩ | ⟨y, u, rfl, rfl⟩
      · rw [key_rl] at h; exact SeqAt.EqAt.str_int x t j u _ _ _ _ h
      · rw [key_rr] at h; exact wpAny_eqBool_str h
  «strs» := fun k x t v h => by
    rcases keyIs_shape h with ⟨i, u, rfl, e⟩ | ⟨y, u, rfl, e⟩
    · exact nomatch e
    · injection e with e1 _
      subst e1
      cases v <;> rfl

theorem mixKind_int (prog : Program) (w : World) (i : Int) (t : Tok) : (mixKind prog w).is (.inl i) (.int i t) = true := keyIs_int i t
theorem mixKind_str (prog : Program) (w : World) (x : Str) (t : Tok) : (mixKind prog w).is (.inr x) (.str x t) = true := keyIs_str x t
end L2

namespace L2
open PySem PySem.Spec PyProof.Rows

inductive V where
  | non | bl (b : Bool) | int (i : Int) | str (x : Str) | byt (b : Array UInt8) | flt (b : UInt64) | ref (a : Addr) | ty (n : String)
  deriving DecidableEq

noncomputable def RelV : V → Value → Prop
  | .non, u => u = Value.none
  | .bl b, u => u = Value.bool b
  | .int i, u => ∃ t, u = Value.int i t
  | .str x, u => ∃ t, u = Value.str x t
  | .byt b, u => ∃ t, u = Value.bytes b t
  | .flt b, u => ∃ t, u = Value.float b t
  | .ref a, u => u = Value.ref a
  | .ty n, u => u = Value.type n

noncomputable abbrev Vals : List V → List Value → Prop := Paired RelV
theorem Vals.length {xs : List V} {us : List Value} (r : Vals xs us) : xs.length = us.length := Paired.length r
theorem Vals.get : ∀ {xs : List V} {us : List Value} {i : Nat} {x : V}, Vals xs us → xs[i]? = some x → ∃ u, us[i]? = some u ∧ RelV x u
  | _, _, _, _, .nil, e => by simp at e
  | _, _, 0, _, .cons r _, e => by simp at e; subst e; exact ⟨_, rfl, r⟩
  | _, _, i + 1, x, .cons _ t, e => by
    obtain ⟨u, h1, h2⟩ := Vals.get (i := i) (x := x) t (by simpa using e)
    exact ⟨u, by simpa using h1, h2⟩
theorem Vals.set {x : V} {u : Value} (r : RelV x u) : ∀ {xs : List V} {us : List Value} (i : Nat), Vals xs us → Vals (xs.set i x) (us.set i u)
  | _, _, _, .nil => .nil
  | _, _, 0, .cons _ t => .cons r t
  | _, _, i + 1, .cons q t => .cons q (Vals.set r i t)
theorem Vals.append : ∀ {xs ys : List V} {us ws : List Value}, Vals xs us → Vals ys ws → Vals (xs ++ ys) (us ++ ws)
  | _, _, _, _, .nil, s => s
  | _, _, _, _, .cons r t, s => .cons r (Vals.append t s)
theorem Vals.take : ∀ {xs : List V} {us : List Value} (n : Nat), Vals xs us → Vals (xs.take n) (us.take n)
  | _, _, 0, _ => .nil
  | _, _, _ + 1, .nil => .nil
  | _, _, n + 1, .cons r t => .cons r (Vals.take n t)
theorem Vals.drop : ∀ {xs : List V} {us : List Value} (n : Nat), Vals xs us → Vals (xs.drop n) (us.drop n)
  | _, _, 0, r => r
  | _, _, _ + 1, .nil => .nil
  | _, _, n + 1, .cons _ t => Vals.drop n t

noncomputable def RelO : Option V → Option Value → Prop
  | some v, some u => RelV v u
  | none, none => True
  | _, _ => False
noncomputable def KV {κ : Type} : List (κ × V) → List (κ × Value) → Prop := Paired fun (p : κ × V) (q : κ × Value) => p.1 = q.1 ∧ RelV p.2 q.2

noncomputable def kV : Key → V
  | .inl i => .int i
  | .inr x => .str x

inductive HO where
  | lst (xs : List V)
  | tup (xs : List V)
  | dK (kvs : List (Key × V)) | dT (kvs : List (List Key × V))
  | set (S : Int → Bool) (n : Nat)
  | ins (C dx : Addr) (fs : List (Str × V))
  | own (x : Addr)
  | xd (fs : List (Str × V))
  | met (f x : Addr)
  | rng (lo hi : Int)
  | frz (o : Obj) (u : HO)
  | tbl (ps : Array Value)
  | ext (φ : Heap → Prop)

noncomputable abbrev Hp := Addr → Option HO
noncomputable def upd (H : Hp) (a : Addr) (o : HO) : Hp := fun b => if b = a then some o else H b
theorem upd_same {H : Hp} {a : Addr} {o : HO} : upd H a o a = some o := by unfold upd; rw [if_pos rfl]
theorem upd_ne {H : Hp} {a b : Addr} {o : HO} (h : b ≠ a) : upd H a o b = H b := by unfold upd; rw [if_neg h]
theorem ne_of {H : Hp} {a b : Addr} {o u : HO} (h : H a = some o) (h' : H b = some u) (d : o ≠ u) : a ≠ b := by
  intro e; subst e; rw [h] at h'; exact d (Option.some.inj h')
theorem ne_of_none {H : Hp} {a b : Addr} {o : HO} (h : H a = some o) (h' : H b = none) : a ≠ b := by
  intro e; subst e; rw [h] at h'; cases h'

section
variable (P : Program) (w : World)
noncomputable def ObjOk (H : Hp) (h : Heap) (a : Addr) : HO → Prop
  | .lst xs => xs.length ≤ sizeLine ∧ ∃ (its : List Value) (n : Nat), Vals xs its ∧ h.get? a = some { cls := .type "list", data := .seq its.toArray n }
  | .tup xs => xs.length ≤ sizeLine ∧ ∃ its : List Value, Vals xs its ∧ IsTup h a its.toArray
  | .dK kvs => kvs.length ≤ sizeLine ∧ (a == sysModules) = false ∧ ∃ vs, KV kvs vs ∧ h.DictOf (mixKind P w) a vs
  | .dT kvs => kvs.length ≤ sizeLine ∧ (a == sysModules) = false ∧ ∃ xs : List (List Key × Addr × Value),
      Paired (fun (p : List Key × V) (q : List Key × Addr × Value) => p.1 = q.1 ∧ H q.2.1 = some (.tup (p.1.map kV)) ∧ RelV p.2 q.2.2) kvs xs ∧
      ∃ o es ep, h.get? a = some o ∧ o.ExactDict ∧ o.data = .dict es ep ∧ es.toList = xs.map (entryOfKey (tupleKind (mixKind P w))) ∧ (xs.map (·.1)).Nodup
  | .set S n => h.SetOf (intKind P w) a S n
  | .ins C dx fs => H dx = some (.own a) ∧ fs.length ≤ 1000 ∧ dx ≠ a ∧ h.get? a = some (PySem.W.instObj C dx) ∧
      ∃ mA, h.Ns1 dx mA ∧ (∀ f, RelO (fs.lookup f) (mA f)) ∧ PySem.Within mA (fs.map (·.1))
  | .own _ => ∃ o, h.get? a = some o
  | .xd fs => ∃ mA, h.Ns1 a mA ∧ ∀ f, RelO (fs.lookup f) (mA f)
  | .rng lo hi => ∃ t u v, h.get? a = some { cls := .type "range", data := .fields #[.int lo t, .int hi u, .int 1 v] }
  | .frz o u => h.get? a = some o ∧ ObjOk H h a u
  | .tbl ps => h.get? a = some { cls := .none, data := .fields ps }
  | .met f x => h.get? a = some (PySem.W.methodObj (.ref f) (.ref x))
  | .ext φ => φ h ∧ (∃ o, h.get? a = some o) ∧ ∀ h1 h2 : Heap, φ h1 → (∀ o, h1.get? a = some o → h2.get? a = some o) → φ h2
noncomputable def HOk (H : Hp) (h : Heap) : Prop := ∀ a o, H a = some o → ObjOk P w H h a o
end

section
variable {P : Program} {w : World} {H H' : Hp} {h h' : Heap} {a : Addr} {o : HO}
theorem ObjOk.lt (x : ObjOk P w H h a o) : a < h.objs.size := by
  cases o with
  | lst xs => obtain ⟨_, _, _, _, e⟩ := x; exact Heap.lt_size e
  | tup xs => obtain ⟨_, _, _, p⟩ := x; exact p.lt
  | dK kvs => obtain ⟨_, _, _, _, o, _, _, e, _⟩ := x; exact Heap.lt_size e
  | dT kvs => obtain ⟨_, _, _, _, o, _, _, e, _⟩ := x; exact Heap.lt_size e
  | set S n => obtain ⟨o, _, _, _, e, _⟩ := x; exact Heap.lt_size e
  | ins C dx fs => obtain ⟨_, _, _, e, _⟩ := x; exact Heap.lt_size e
  | own y => obtain ⟨_, e⟩ := x; exact Heap.lt_size e
  | xd fs => obtain ⟨_, ⟨_, _, _, e, _⟩, _⟩ := x; exact Heap.lt_size e
  | rng lo hi => obtain ⟨_, _, _, e⟩ := x; exact Heap.lt_size e
  | frz ob u => obtain ⟨e, _⟩ := x; exact Heap.lt_size e
  | tbl ps => exact Heap.lt_size (show h.get? a = some _ from x)
  | met f y => exact Heap.lt_size (show h.get? a = some _ from x)
  | ext φ => obtain ⟨_, ⟨_, e⟩, _⟩ := x; exact Heap.lt_size e
theorem Paired.mapP {α β : Type} {F G : α → β → Prop} : ∀ {l₁ : List α} {l₂ : List β}, Paired F l₁ l₂ → (∀ a b, F a b → G a b) → Paired G l₁ l₂
  | _, _, .nil, _ => .nil
  | _, _, .cons r t, f => .cons (f _ _ r) (Paired.mapP t f)
theorem ObjOk.stay (x : ObjOk P w H h a o) (k : ∀ b u, (b = a ∨ H b = some (.own a)) → h.get? b = some u → h'.get? b = some u)
    (ho : ∀ b, H b = some (.own a) → H' b = some (.own a)) (ht : ∀ b xs, H b = some (.tup xs) → H' b = some (.tup xs)) : ObjOk P w H' h' a o := by
  induction o with
  | lst xs => obtain ⟨z, its, n, r, e⟩ := x; exact ⟨z, its, n, r, k _ _ (.inl rfl) e⟩
  | tup xs => obtain ⟨z, its, r, ob, e, c⟩ := x; exact ⟨z, its, r, ob, k _ _ (.inl rfl) e, c⟩
  | dK kvs => obtain ⟨z, y, vs, r, ob, es, ep, e, c⟩ := x; exact ⟨z, y, vs, r, ob, es, ep, k _ _ (.inl rfl) e, c⟩
  | dT kvs =>
    obtain ⟨z, y, xs, r, ob, es, ep, e, c⟩ := x
    exact ⟨z, y, xs, Paired.mapP r fun p q z => ⟨z.1, ht _ _ z.2.1, z.2.2⟩, ob, es, ep, k _ _ (.inl rfl) e, c⟩
  | set S n => obtain ⟨ob, es, ep, t, e, c⟩ := x; exact ⟨ob, es, ep, t, k _ _ (.inl rfl) e, c⟩
  | ins C dx fs =>
    obtain ⟨d, z, ne, e, mA, ⟨od, es, ep, e2, c⟩, r⟩ := x
    exact ⟨ho _ d, z, ne, k _ _ (.inl rfl) e, mA, ⟨od, es, ep, k _ _ (.inr d) e2, c⟩, r⟩
  | own y => obtain ⟨ob, e⟩ := x; exact ⟨ob, k _ _ (.inl rfl) e⟩
  | xd fs => obtain ⟨mA, ⟨od, es, ep, e, c⟩, r⟩ := x; exact ⟨mA, ⟨od, es, ep, k _ _ (.inl rfl) e, c⟩, r⟩
  | rng lo hi => obtain ⟨t, u, v, e⟩ := x; exact ⟨t, u, v, k _ _ (.inl rfl) e⟩
  | frz ob u ih => obtain ⟨e, q⟩ := x; exact ⟨k _ _ (.inl rfl) e, ih q⟩
  | tbl ps =>
    have e : h.get? a = some { cls := .none, data := .fields ps } := x
    show h'.get? a = some { cls := .none, data := .fields ps }
    exact k a _ (.inl rfl) e
  | met f y =>
    have e : h.get? a = some (PySem.W.methodObj (.ref f) (.ref y)) := x
    show h'.get? a = some (PySem.W.methodObj (.ref f) (.ref y))
    exact k a _ (.inl rfl) e
  | ext φ => obtain ⟨p, ⟨o, e⟩, st⟩ := x; exact ⟨st _ _ p fun o q => k _ _ (.inl rfl) q, ⟨o, k _ _ (.inl rfl) e⟩, st⟩
theorem HOk.lt (x : HOk P w H h) (e : H a = some o) : a < h.objs.size := (x a o e).lt
theorem HOk.fresh (x : HOk P w H h) (e : h.objs.size ≤ a) : H a = none := by
  cases q : H a with
  | none => rfl
  | some u => exact absurd (Nat.lt_of_lt_of_le (x.lt q) e) (Nat.lt_irrefl _)
theorem HOk.kept (x : HOk P w H h) (k : ∀ b u, h.get? b = some u → h'.get? b = some u) : HOk P w H h' := fun a o e =>
  (x a o e).stay (fun b u _ q => k b u q) (fun _ q => q) fun _ _ q => q
theorem HOk.laid (x : HOk P w H h) (k : ∀ b u, h.get? b = some u → h'.get? b = some u) (hp : h.objs.size ≤ a) (new : ObjOk P w (upd H a o) h' a o) : HOk P w (upd H a o) h' := fun b u e => by
  have hn := x.fresh hp
  by_cases hb : b = a
  · subst hb; rw [upd_same] at e; cases e; exact new
  · rw [upd_ne hb] at e
    exact (x b u e).stay (fun c v _ q => k c v q) (fun c q => by rw [upd_ne (ne_of_none q hn)]; exact q) fun c xs q => by rw [upd_ne (ne_of_none q hn)]; exact q
end

noncomputable def Rd (H : Hp) (a : Addr) (u : HO) : Prop := H a = some u ∨ ∃ o, H a = some (.frz o u)
theorem Rd.ok {P : Program} {w : World} {H : Hp} {h : Heap} {a : Addr} {u : HO} (r : Rd H a u) (x : HOk P w H h) : ObjOk P w H h a u := by
  rcases r with r | ⟨o, r⟩
  · exact x a u r
  · obtain ⟨_, q⟩ := x a _ r
    exact q
noncomputable def Mut : Option HO → Prop
  | some (.lst _) => True
  | some (.dK _) => True
  | some (.dT _) => True
  | some (.set _ _) => True
  | some (.ins _ _ _) => True
  | some (.ext _) => True
  | _ => False
section
variable {P : Program} {w : World} {H : Hp} {h h' : Heap} {x e : Addr} {o' : HO}
theorem HOk.write (ok : HOk P w H h) (mu : Mut (H x)) (he : e = x ∨ H e = some (.own x)) (k : ∀ b u, b ≠ e → h.get? b = some u → h'.get? b = some u) (heo : ∃ u, h'.get? e = some u)
    (new : ObjOk P w (upd H x o') h' x o') : HOk P w (upd H x o') h' := fun b u q => by
  have nown : ∀ c y, H c = some (.own y) → c ≠ x := fun c y r z => by subst z; rw [r] at mu; exact mu
  have ntup : ∀ c xs, H c = some (.tup xs) → c ≠ x := fun c xs r z => by subst z; rw [r] at mu; exact mu
  by_cases hb : b = x
  · subst hb; rw [upd_same] at q; cases q; exact new
  · rw [upd_ne hb] at q
    by_cases hbe : b = e
    · have q' : H b = some (.own x) := by
        rcases he with z | z
        · exact absurd (hbe.trans z) hb
        · rw [hbe]; exact z
      rw [q] at q'; cases q'
      obtain ⟨v, hv⟩ := heo
      exact ⟨v, by rw [hbe]; exact hv⟩
    · refine (ok b u q).stay (fun c v hc r => k c v ?_ r) (fun c r => by rw [upd_ne (nown c b r)]; exact r) fun c xs r => by rw [upd_ne (ntup c xs r)]; exact r
      rcases hc with rfl | hc
      · exact hbe
      · rintro rfl
        rcases he with z | z
        · exact nown c b hc z
        · rw [hc] at z; cases z; exact hb rfl
end

structure Un (fs ex : List Addr) (H H' : Hp) (h h' : Heap) : Prop where
  keep : ∀ b o, h.get? b = some o → H b = none → b ∉ fs → b ∉ ex → h'.get? b = some o
  slot : ∀ b o, h.get? b = some o → H b = none → b ∈ fs → b ∉ ex → ∃ sl, h'.get? b = some { o with slots := sl }
  free : ∀ b o, h.get? b = some o → H b = none → b ∉ ex → H' b = none
  there : ∀ b o, h.get? b = some o → b ∉ ex → ∃ o', h'.get? b = some o'
  tups : ∀ b xs, H b = some (.tup xs) → H' b = some (.tup xs)
  frzs : ∀ b o u, H b = some (.frz o u) → H' b = some (.frz o u)
  tbls : ∀ b ps, H b = some (.tbl ps) → ∃ more, H' b = some (.tbl (ps ++ more))
section
variable {fs fs' ex ex' : List Addr} {H H1 H2 : Hp} {h h1 h2 h' : Heap} {a x e : Addr} {o : HO}
theorem Un.any (u : Un fs ex H H1 h h1) {b : Addr} {ob : Obj} (q : h.get? b = some ob) (n : H b = none) (hx : b ∉ ex) : ∃ sl, h1.get? b = some { ob with slots := sl } := by
  by_cases hb : b ∈ fs
  · exact u.slot b ob q n hb hx
  · exact ⟨ob.slots, u.keep b ob q n hb hx⟩
theorem Un.kept (k : ∀ b u, h.get? b = some u → h'.get? b = some u) : Un fs ex H H h h' :=
  ⟨fun b ob q _ _ _ => k b ob q, fun b ob q _ _ _ => ⟨ob.slots, k b ob q⟩, fun _ _ _ n _ => n, fun b ob q _ => ⟨ob, k b ob q⟩, fun _ _ q => q, fun _ _ _ q => q, fun _ ps q => ⟨#[], by rw [q]; simp⟩⟩
theorem Un.refl : Un fs ex H H h h := Un.kept fun _ _ q => q
theorem Un.laid (k : ∀ b u, h.get? b = some u → h'.get? b = some u) (hp : h.objs.size ≤ a) (hn : H a = none) : Un fs ex H (upd H a o) h h' where
  keep := fun b u q _ _ _ => k b u q
  slot := fun b u q _ _ _ => ⟨u.slots, k b u q⟩
  free := fun b u q n _ => by rw [upd_ne (Nat.ne_of_lt (Nat.lt_of_lt_of_le (Heap.lt_size q) hp))]; exact n
  there := fun b u q _ => ⟨u, k b u q⟩
  tups := fun b xs q => by rw [upd_ne (ne_of_none q hn)]; exact q
  frzs := fun b u xs q => by rw [upd_ne (ne_of_none q hn)]; exact q
  tbls := fun b ps q => ⟨#[], by rw [upd_ne (ne_of_none q hn), q]; simp⟩
theorem Un.write (mu : Mut (H x)) (he : e = x ∨ H e = some (.own x)) (k : ∀ b u, b ≠ e → h.get? b = some u → h'.get? b = some u) (heo : ∃ u, h'.get? e = some u) : Un fs ex H (upd H x o) h h' := by
  have hx : ∀ b, H b = none → b ≠ x := fun b n z => by subst z; rw [n] at mu; exact mu
  have hb : ∀ b, H b = none → b ≠ e := fun b n z => by
    subst z
    rcases he with r | r
    · exact hx b n r
    · rw [n] at r; cases r
  have hm : ∀ b u, H b = some u → ¬ Mut (some u) → b ≠ x := fun b u q nm z => by subst z; rw [q] at mu; exact nm mu
  refine ⟨fun b u q n _ _ => k b u (hb b n) q, fun b u q n _ _ => ⟨u.slots, k b u (hb b n) q⟩, fun b u q n _ => by rw [upd_ne (hx b n)]; exact n, fun b u q _ => ?_,
    fun b xs q => by rw [upd_ne (hm b _ q fun z => z)]; exact q, fun b u xs q => by rw [upd_ne (hm b _ q fun z => z)]; exact q, fun b ps q => ⟨#[], by rw [upd_ne (hm b _ q fun z => z), q]; simp⟩⟩
  by_cases hbe : b = e
  · subst hbe; exact heo
  · exact ⟨u, k b u hbe q⟩
end

noncomputable def trk (h : Heap) (H : Hp) : List Addr := (List.range h.objs.size).filter fun a => (H a).isSome
noncomputable def hidT (h : Heap) (H : Hp) : Heap := PySem.W.hideAll h (trk h H)
theorem hidT_size (h : Heap) (H : Hp) : (hidT h H).objs.size = h.objs.size := PySem.W.hideAll_size _ _
theorem hidT_get {h : Heap} {H : Hp} {b : Addr} {o : Obj} (e : h.get? b = some o) (n : H b = none) : (hidT h H).get? b = some o :=
  PySem.W.hideAll_get _ e fun hm => by
    have q : (H b).isSome = true := (List.mem_filter.mp hm).2
    rw [n] at q; simp at q
theorem of_hidT {h : Heap} {H : Hp} {b : Addr} {o : Obj} (e : (hidT h H).get? b = some o) : h.get? b = some o ∧ H b = none := by
  have e' : h.get? b = some o := PySem.W.of_hideAll (trk h H) e
  refine ⟨e', ?_⟩
  cases q : H b with
  | none => rfl
  | some x =>
    have hm : b ∈ trk h H := List.mem_filter.mpr ⟨List.mem_range.mpr (Heap.lt_size e'), by simp [q]⟩
    have z : (hidT h H).get? b = none := PySem.W.hideAll_none (trk h H) hm
    rw [z] at e; cases e

noncomputable def allNews (g h : Heap) (L : Addr) : List (Addr × Obj) := (List.range h.objs.size).filterMap fun a => if a = L ∨ (g.get? a).isSome = true then none else (h.get? a).map fun o => (a, o)
theorem mem_allNews {g h : Heap} {L a : Addr} {o : Obj} (h1 : a ≠ L) (h2 : g.get? a = none) (h3 : h.get? a = some o) : (a, o) ∈ allNews g h L :=
  List.mem_filterMap.mpr ⟨a, List.mem_range.mpr (Heap.lt_size h3), by simp [h1, h2, h3]⟩
theorem of_mem_allNews {g h : Heap} {L : Addr} {p : Addr × Obj} (hp : p ∈ allNews g h L) : p.1 ≠ L ∧ g.get? p.1 = none ∧ h.get? p.1 = some p.2 := by
  obtain ⟨b, _, e⟩ := List.mem_filterMap.mp hp
  split at e
  · cases e
  · rename_i hn
    cases q : h.get? b with
    | none => rw [q] at e; simp at e
    | some u =>
      rw [q] at e
      simp only [Option.map_some, Option.some.injEq] at e
      subst e
      refine ⟨fun z => hn (.inl z), ?_, q⟩
      show g.get? b = none
      cases r : g.get? b with
      | none => rfl
      | some v => exact (hn (.inr (by simp [r]))).elim
theorem news_all {g h : Heap} {L : Addr} : News g L h (allNews g h L) := fun p hp => let ⟨a, b, c⟩ := of_mem_allNews hp; ⟨c, a, b⟩
end L2

namespace L2
open PySem PySem.Spec PyProof.Rows

structure Mod (K : PySem.W.Frag) (mg : Str → Option Value) (base : Heap) : Prop where
  kin : K.In base
  glob : base.Ns mainGlobals mg
  blt : ∃ mb, base.Ns builtinsNs mb ∧ ∀ x : Str, x ≠ "__name__" → mb x = bootBuiltins x
  nolimit : base.NoLimit

structure Cx where
  prog : Program
  w : World
  K : PySem.W.Frag
  mg : Str → Option Value
  base : Heap
  A : Around
  N : List Str
  s₀ : Shared
  H₀ : Hp
  env : Env
  outer : List Env
  stack : List Env
  ex : List Addr
  fn : Str → Bool
  calm : Bool
  pn : List (Addr × Obj)
  xe : Value → Shared → Prop
noncomputable def frs (l : List Env) : List Addr := l.filterMap (·.frame)
noncomputable abbrev Cx.fs (X : Cx) : List Addr := frs X.outer

noncomputable def Vis (sc : Scope) (x : Str) : Prop := sc.names.lookup x = some .local ∨ sc.names.lookup x = some .cell ∨ sc.names.lookup x = some .free
noncomputable def Loc (sc : Scope) (x : Str) : Prop := sc.names.lookup x = some .local ∨ sc.names.lookup x = some .cell
noncomputable def Look (env : Env) (h : Heap) (m : Str → Option Value) (x : Str) (u : Value) : Prop :=
  (env.kindOf x = some .local ∧ m x = some u) ∨ ((env.kindOf x = some .cell ∨ env.kindOf x = some .free) ∧ ∃ c, env.cells.lookup x = some c ∧ h.IsCell c (some u))

structure Cx.Ok (X : Cx) : Prop where
  mod : Mod X.K X.mg X.base
  kind : X.env.scope.kind = .function
  glob : X.env.globals = mainGlobals
  blt : X.env.builtins = builtinsNs
  above : X.s₀.heap.objs.size ≤ X.env.locals
  inj : ∀ x y c, X.env.cells.lookup x = some c → X.env.cells.lookup y = some c → x = y
  has : ∀ x, (X.env.kindOf x = some .cell ∨ X.env.kindOf x = some .free) → ∃ c, X.env.cells.lookup x = some c
  cab : ∀ x c, X.fn x = true → X.env.cells.lookup x = some c → X.s₀.heap.objs.size ≤ c
  hd : X.calm = true → X.A.handled = none
  frames : X.A.frames = some X.stack
  stk : X.stack = X.outer ∨ (X.stack = X.env :: X.outer ∧ X.env.frame = some X.env.locals)
  exf : ∀ b ∈ X.ex, b ≠ X.env.locals ∧ ∀ x c, X.env.cells.lookup x = some c → c ≠ b
  bs : ∀ b o, X.base.get? b = some o → X.s₀.heap.get? b = some o ∧ X.H₀ b = none
  bsz : X.base.objs.size ≤ X.s₀.heap.objs.size
  noex : ∀ b o, X.base.get? b = some o → b ∉ X.ex
  exfs : ∀ b ∈ X.ex, b ∉ X.fs
  funs : X.s₀.heap.FunFrames X.base X.outer
  frf : ∀ b ∈ X.fs, X.H₀ b = none

structure Inv (X : Cx) (pins : List (Addr × Obj)) (σ : List (Option V)) (H : Hp) (s : Shared) : Prop where
  ok : X.Ok
  os : s.os = X.s₀.os
  bare : AllBare s.gens
  base : Un X.fs X.ex X.H₀ H X.s₀.heap s.heap
  loc : ∃ m, s.heap.Ns X.env.locals m ∧ ∀ (i : Nat) (x : Str) (v : V), X.N[i]? = some x → σ[i]? = some (some v) → Vis X.env.scope x → ∃ u, RelV v u ∧ Look X.env s.heap m x u
  cell : ∀ x c, X.env.cells.lookup x = some c → ∃ v, s.heap.IsCell c v
  free : H X.env.locals = none
  freeC : ∀ x c, X.env.cells.lookup x = some c → H c = none
  pin : ∀ p ∈ X.pn ++ pins, s.heap.get? p.1 = some p.2 ∧ H p.1 = none ∧ p.1 ≠ X.env.locals ∧ p.1 ∉ X.fs ∧ ∀ v, p.2.data ≠ .cell v
  hok : HOk X.prog X.w H s.heap
  len : σ.length = X.N.length

section
variable {X : Cx} {pins : List (Addr × Obj)} {σ : List (Option V)} {H H' : Hp} {s : Shared} {h' : Heap}

theorem Cx.Ok.nofr (ok : X.Ok) {b : Addr} {o : Obj} (e : X.base.get? b = some o) : b ∉ X.fs := fun hb => by
  have := (ok.funs.mem hb).1
  rw [e] at this; cases this
theorem Inv.bs (I : Inv X pins σ H s) : ∀ b o, X.base.get? b = some o → s.heap.get? b = some o ∧ H b = none := fun b o e =>
  ⟨I.base.keep b o (I.ok.bs b o e).1 (I.ok.bs b o e).2 (I.ok.nofr e) (I.ok.noex b o e), I.base.free b o (I.ok.bs b o e).1 (I.ok.bs b o e).2 (I.ok.noex b o e)⟩
theorem Inv.bk (I : Inv X pins σ H s) : ∀ b o, X.base.get? b = some o → s.heap.get? b = some o := fun b o e => (I.bs b o e).1
theorem Inv.mod (I : Inv X pins σ H s) : Mod X.K X.mg X.base := I.ok.mod
theorem Inv.kIn (I : Inv X pins σ H s) : X.K.In s.heap := I.ok.mod.kin.keeps I.bk
theorem Inv.fr (I : Inv X pins σ H s) : ∃ m, Fr X.base X.env.locals s.heap m :=
  let ⟨m, hn, _⟩ := I.loc
  ⟨m, hn, I.bk, Nat.le_trans I.ok.bsz I.ok.above⟩
theorem Inv.lt (I : Inv X pins σ H s) : X.env.locals < s.heap.objs.size := let ⟨_, hn, _⟩ := I.loc; hn.lt
theorem Inv.sz (I : Inv X pins σ H s) : X.s₀.heap.objs.size ≤ s.heap.objs.size := Nat.le_trans I.ok.above (Nat.le_of_lt I.lt)
theorem Inv.nofs (I : Inv X pins σ H s) {a : Addr} (h : s.heap.objs.size ≤ a) : a ∉ X.fs := fun hb => by
  obtain ⟨_, o, ho, _⟩ := I.ok.funs.mem hb
  exact absurd (Nat.lt_of_lt_of_le (Heap.lt_size ho) (Nat.le_trans I.sz h)) (Nat.lt_irrefl _)
theorem Inv.cne (I : Inv X pins σ H s) : ∀ x c, X.env.cells.lookup x = some c → c ≠ X.env.locals := fun x c e z => by
  obtain ⟨v, o, ho, hd⟩ := I.cell x c e
  obtain ⟨m, ⟨o', es, ep, ho', hd', _⟩, _⟩ := I.loc
  rw [z, ho'] at ho; cases ho; rw [hd'] at hd; cases hd
theorem Inv.funs (I : Inv X pins σ H s) : s.heap.FunFrames X.base X.outer := by
  have all : ∀ (l : List Env), (∀ b ∈ frs l, b ∈ X.fs) → X.s₀.heap.FunFrames X.base l → s.heap.FunFrames X.base l := by
    intro l
    induction l with
    | nil => intro _ _; trivial
    | cons env r ih =>
      intro hs hl
      obtain ⟨hk, ⟨L, o, hf, hn, ho, hd⟩, hr⟩ := hl
      have hL : L ∈ X.fs := hs L (by unfold frs; rw [List.filterMap_cons, hf]; exact List.mem_cons_self)
      obtain ⟨sl, e⟩ := I.base.slot L o ho (I.ok.frf L hL) hL fun z => I.ok.exfs L z hL
      exact ⟨hk, ⟨L, _, hf, hn, e, hd⟩, ih (fun b hb => hs b (by unfold frs; rw [List.filterMap_cons, hf]; exact List.mem_cons_of_mem _ hb)) hr⟩
  exact all X.outer (fun _ hb => hb) I.ok.funs

theorem Inv.stack (I : Inv X pins σ H s) : s.heap.FunFrames X.base X.stack := by
  rcases I.ok.stk with e | ⟨e, hf⟩
  · rw [e]; exact I.funs
  · rw [e]
    obtain ⟨m, hn, _⟩ := I.loc
    refine .cons (by rw [I.ok.kind]; decide) hf hn ?_ I.funs
    exact Heap.get?_none_of_le (Nat.le_trans I.ok.bsz I.ok.above)
theorem Inv.stkSub (I : Inv X pins σ H s) : ∀ b ∈ frs X.stack, b ∈ X.env.locals :: X.fs := fun b hb => by
  rcases I.ok.stk with e | ⟨e, hf⟩
  · rw [e] at hb; exact List.mem_cons_of_mem _ hb
  · rw [e] at hb
    unfold frs at hb
    rw [List.filterMap_cons, hf] at hb
    exact hb
theorem Inv.stkFree (I : Inv X pins σ H s) : ∀ b ∈ frs X.stack, H b = none := fun b hb => by
  rcases List.mem_cons.mp (I.stkSub b hb) with e | hb
  · rw [e]; exact I.free
  · obtain ⟨_, o, ho, _⟩ := I.ok.funs.mem hb
    exact I.base.free b o ho (I.ok.frf b hb) fun z => I.ok.exfs b z hb

theorem Inv.step {g' : Array GenState} {t' : Nat} {d' : Drawn} {ch : List Addr} (I : Inv X pins σ H s)
    (hch : ∀ b ∈ ch, (b ∈ X.ex ∨ X.s₀.heap.objs.size ≤ b) ∧ b ≠ X.env.locals ∧ (∀ x c, X.env.cells.lookup x = some c → c ≠ b) ∧ ∀ p ∈ X.pn ++ pins, p.1 ≠ b)
    (keep : ∀ b o, b ≠ X.env.locals → b ∉ X.fs → b ∉ ch → s.heap.get? b = some o → H b = none → h'.get? b = some o)
    (slot : ∀ b o, b ≠ X.env.locals → b ∈ X.fs → b ∉ ch → s.heap.get? b = some o → H b = none → ∃ sl, h'.get? b = some { o with slots := sl }) (free : ∀ b o, b ∉ ch → s.heap.get? b = some o → H b = none → H' b = none)
    (there : ∀ b o, b ∉ ch → s.heap.get? b = some o → ∃ o', h'.get? b = some o')
    (tups : ∀ b xs, H b = some (.tup xs) → H' b = some (.tup xs)) (frzs : ∀ b o u, H b = some (.frz o u) → H' b = some (.frz o u)) (tbls : ∀ b ps, H b = some (.tbl ps) → ∃ more, H' b = some (.tbl (ps ++ more)))
    (ns : ∀ m, s.heap.Ns X.env.locals m → h'.Ns X.env.locals m) (hok : HOk X.prog X.w H' h') (hg : AllBare g') :
    Inv X pins σ H' { s with heap := h', gens := g', drawn := d', toks := t' } := by
  have neL : ∀ b o, X.s₀.heap.get? b = some o → b ≠ X.env.locals := fun b o e => Nat.ne_of_lt (Nat.lt_of_lt_of_le (Heap.lt_size e) I.ok.above)
  have neC : ∀ b o, X.s₀.heap.get? b = some o → b ∉ X.ex → b ∉ ch := fun b o e hx hb => by
    rcases (hch b hb).1 with z | z
    · exact hx z
    · exact absurd (Nat.lt_of_lt_of_le (Heap.lt_size e) z) (Nat.lt_irrefl _)
  have cellK : ∀ x c, X.env.cells.lookup x = some c → ∀ v, s.heap.IsCell c v → h'.IsCell c v := fun x c e v ⟨o, ho, hd⟩ => by
    have nch : c ∉ ch := fun z => (hch c z).2.2.1 x c e rfl
    by_cases hc : c ∈ X.fs
    · obtain ⟨sl, q⟩ := slot c o (I.cne x c e) hc nch ho (I.freeC x c e)
      exact ⟨_, q, hd⟩
    · exact ⟨o, keep c o (I.cne x c e) hc nch ho (I.freeC x c e), hd⟩
  refine ⟨I.ok, I.os, hg, ⟨fun b o e n hb hx => ?_, fun b o e n hb hx => ?_, fun b o e n hx => ?_, fun b o e hx => ?_, fun b xs e => tups b xs (I.base.tups b xs e), fun b o xs e => frzs b o xs (I.base.frzs b o xs e), fun b ps e => ?_⟩, ?_, fun x c e => ?_, ?_, fun x c e => ?_, fun p hp => ?_, hok, I.len⟩
  · exact keep b o (neL b o e) hb (neC b o e hx) (I.base.keep b o e n hb hx) (I.base.free b o e n hx)
  · obtain ⟨sl, e1⟩ := I.base.slot b o e n hb hx
    obtain ⟨sl', e2⟩ := slot b _ (neL b o e) hb (neC b o e hx) e1 (I.base.free b o e n hx)
    exact ⟨sl', e2⟩
  · obtain ⟨o', e1⟩ := I.base.there b o e hx
    exact free b o' (neC b o e hx) e1 (I.base.free b o e n hx)
  · obtain ⟨o', e1⟩ := I.base.there b o e hx
    exact there b o' (neC b o e hx) e1
  · obtain ⟨m1, e1⟩ := I.base.tbls b ps e
    obtain ⟨m2, e2⟩ := tbls b _ e1
    exact ⟨m1 ++ m2, by rw [e2, Array.append_assoc]⟩
  · obtain ⟨m, hn, hl⟩ := I.loc
    refine ⟨m, ns m hn, fun i x v e1 e2 e3 => ?_⟩
    obtain ⟨u, r, l⟩ := hl i x v e1 e2 e3
    refine ⟨u, r, ?_⟩
    rcases l with l | ⟨k, c, e, z⟩
    · exact .inl l
    · exact .inr ⟨k, c, e, cellK x c e _ z⟩
  · obtain ⟨v, z⟩ := I.cell x c e
    exact ⟨v, cellK x c e v z⟩
  · obtain ⟨m, ⟨o, _, _, ho, _⟩, _⟩ := I.loc
    exact free _ o (fun z => (hch _ z).2.1 rfl) ho I.free
  · obtain ⟨v, o, ho, hd⟩ := I.cell x c e
    exact free c o (fun z => (hch c z).2.2.1 x c e rfl) ho (I.freeC x c e)
  · obtain ⟨e, n, ne, nf, d⟩ := I.pin p hp
    have nch : p.1 ∉ ch := fun z => (hch p.1 z).2.2.2 p hp rfl
    exact ⟨keep p.1 p.2 ne nf nch e n, free p.1 p.2 nch e n, ne, nf, d⟩
theorem Inv.un {t' : Nat} (I : Inv X pins σ H s) (u : Un X.fs [] H H' s.heap h') (hok : HOk X.prog X.w H' h') : Inv X pins σ H' { s with heap := h', toks := t' } := by
  obtain ⟨m, ⟨o, es, ep, ho, r⟩, _⟩ := id I.loc
  obtain ⟨sl, hL⟩ := u.any ho I.free (by simp)
  exact I.step (g' := s.gens) (d' := s.drawn) (ch := []) (fun _ z => nomatch z) (fun b o _ hb _ e n => u.keep b o e n hb (by simp)) (fun b o _ hb _ e n => u.slot b o e n hb (by simp)) (fun b o _ e n => u.free b o e n (by simp)) (fun b o _ e => u.there b o e (by simp)) u.tups u.frzs u.tbls (fun m' hm => by
    obtain ⟨o', es', ep', ho', r'⟩ := hm
    rw [ho] at ho'; cases ho'
    exact ⟨_, es', ep', hL, r'⟩) hok I.bare
theorem Inv.call {g' : Array GenState} {t' : Nat} {d' : Drawn} {ch : List Addr} (I : Inv X pins σ H s) (u : Un (frs X.stack) ch H H' s.heap h') (hok : HOk X.prog X.w H' h') (hg : AllBare g')
    (hch : ∀ b ∈ ch, (b ∈ X.ex ∨ X.s₀.heap.objs.size ≤ b) ∧ b ≠ X.env.locals ∧ (∀ x c, X.env.cells.lookup x = some c → c ≠ b) ∧ ∀ p ∈ X.pn ++ pins, p.1 ≠ b) :
    Inv X pins σ H' { s with heap := h', gens := g', drawn := d', toks := t' } := by
  obtain ⟨m, ⟨o, es, ep, ho, r⟩, _⟩ := id I.loc
  obtain ⟨sl, hL⟩ := u.any ho I.free fun z => (hch _ z).2.1 rfl
  exact I.step (ch := ch) hch (fun b o hL hb hc e n => u.keep b o e n (fun z => (List.mem_cons.mp (I.stkSub b z)).elim hL hb) hc) (fun b o _ _ hc e n => u.any e n hc) (fun b o hc e n => u.free b o e n hc) (fun b o hc e => u.there b o e hc) u.tups u.frzs u.tbls (fun m' hm => by
    obtain ⟨o', es', ep', ho', r'⟩ := hm
    rw [ho] at ho'; cases ho'
    exact ⟨_, es', ep', hL, r'⟩) hok hg
theorem Inv.turned {t' : Nat} {it : Addr} (I : Inv X pins σ H s) (k : ∀ b o, b ≠ it → s.heap.get? b = some o → h'.get? b = some o) (hn : H it = none) (hL : it ≠ X.env.locals)
    (h1 : it ∈ X.ex ∨ X.s₀.heap.objs.size ≤ it) (h2 : ∀ x c, X.env.cells.lookup x = some c → c ≠ it) (h3 : ∀ p ∈ X.pn ++ pins, p.1 ≠ it) : Inv X pins σ H { s with heap := h', toks := t' } := by
  have nit : ∀ b u, H b = some u → b ≠ it := fun b u e z => by rw [z, hn] at e; cases e
  refine I.step (g' := s.gens) (d' := s.drawn) (ch := [it]) (fun b hb => ?_) (fun b o _ _ hc e _ => k b o (fun z => hc (by simp [z])) e) (fun b o _ _ hc e _ => ⟨o.slots, k b o (fun z => hc (by simp [z])) e⟩) (fun _ _ _ _ n => n)
    (fun b o hc e => ⟨o, k b o (fun z => hc (by simp [z])) e⟩) (fun _ _ e => e) (fun _ _ _ e => e) (fun b ps e => ⟨#[], by rw [e]; simp⟩) (fun m hm => ?_) (fun b u e => ?_) I.bare
  · have e : b = it := by simpa using hb
    subst e
    exact ⟨h1, hL, h2, h3⟩
  · obtain ⟨o, es, ep, ho, r⟩ := hm
    exact ⟨o, es, ep, k _ o (Ne.symm hL) ho, r⟩
  · refine (I.hok b u e).stay (fun c v hc q => k c v ?_ q) (fun _ q => q) fun _ _ q => q
    rcases hc with z | z
    · rw [z]; exact nit b u e
    · exact nit c _ z
theorem Inv.tok (I : Inv X pins σ H s) (t : Nat) : Inv X pins σ H { s with toks := t } := I.un (h' := s.heap) (t' := t) Un.refl I.hok
theorem Inv.kept {t' : Nat} (I : Inv X pins σ H s) (k : ∀ b u, s.heap.get? b = some u → h'.get? b = some u) : Inv X pins σ H { s with heap := h', toks := t' } := I.un (Un.kept k) (I.hok.kept k)
theorem Inv.laid {a : Addr} {o : HO} {t' : Nat} (I : Inv X pins σ H s) (k : ∀ b u, s.heap.get? b = some u → h'.get? b = some u) (hp : s.heap.objs.size ≤ a) (new : ObjOk X.prog X.w (upd H a o) h' a o) :
    Inv X pins σ (upd H a o) { s with heap := h', toks := t' } := I.un (Un.laid k hp (I.hok.fresh hp)) (I.hok.laid k hp new)
theorem Inv.write {x e : Addr} {o : HO} {t' : Nat} (I : Inv X pins σ H s) (mu : Mut (H x)) (he : e = x ∨ H e = some (.own x)) (k : ∀ b u, b ≠ e → s.heap.get? b = some u → h'.get? b = some u) (heo : ∃ u, h'.get? e = some u)
    (new : ObjOk X.prog X.w (upd H x o) h' x o) : Inv X pins σ (upd H x o) { s with heap := h', toks := t' } := I.un (Un.write mu he k heo) (I.hok.write mu he k heo new)
theorem Inv.weak {σ' : List (Option V)} (I : Inv X pins σ H s) (hl : σ'.length = σ.length) (w : ∀ (i : Nat) v, σ'[i]? = some (some v) → σ[i]? = some (some v)) : Inv X pins σ' H s :=
  ⟨I.ok, I.os, I.bare, I.base, let ⟨m, hn, hl'⟩ := I.loc; ⟨m, hn, fun i x v e1 e2 e3 => hl' i x v e1 (w i v e2) e3⟩, I.cell, I.free, I.freeC, I.pin, I.hok, hl.trans I.len⟩
theorem Inv.pins_of {pins' : List (Addr × Obj)} (I : Inv X pins σ H s) (h : ∀ p ∈ pins', s.heap.get? p.1 = some p.2 ∧ H p.1 = none ∧ p.1 ≠ X.env.locals ∧ p.1 ∉ X.fs ∧ ∀ v, p.2.data ≠ .cell v) : Inv X pins' σ H s :=
  ⟨I.ok, I.os, I.bare, I.base, I.loc, I.cell, I.free, I.freeC, fun p hp => (List.mem_append.mp hp).elim (fun z => I.pin p (List.mem_append_left _ z)) (h p), I.hok, I.len⟩

theorem nodup_ix {N : List Str} (hN : N.Nodup) {i j : Nat} {x : Str} (a : N[i]? = some x) (b : N[j]? = some x) : i = j := by
  obtain ⟨h1, e1⟩ := List.getElem?_eq_some_iff.mp a
  obtain ⟨h2, e2⟩ := List.getElem?_eq_some_iff.mp b
  exact (List.getElem_inj hN).mp (e1.trans e2.symm)

theorem store_ok2 {M : Model} {A : Around} {E : Value → Shared → Prop} {i : Nat} {x : Str} {v : V} {u : Value} {Q : Unit → Shared → Prop} (I : Inv X pins σ H s) (hN : X.N.Nodup) (hi : X.N[i]? = some x) (hx : Loc X.env.scope x) (r : RelV v u)
    (h : ∀ s', Inv X pins (σ.set i (some v)) H s' → (∃ a, Heap.SameBut a s.heap s'.heap ∧ (a = X.env.locals ∨ X.env.cells.lookup x = some a)) → Q () s') (hf : X.fn x = true ∨ X.env.scope.names.lookup x = some .local := by first | exact .inl rfl | exact .inr rfl | assumption) : wpAny M A (storeName X.env x u) Q E s := by
  obtain ⟨m, hn, hl⟩ := id I.loc
  have hcls : (X.env.scope.kind == .class || (X.env.scope.kind == .module && X.env.locals != X.env.globals)) = false := by rw [I.ok.kind]; rfl
  have hiσ : i < σ.length := by rw [I.len]; exact (List.getElem?_eq_some_iff.mp hi).1
  have cne := I.cne
  have tracked : ∀ {a : Addr} {h' : Heap}, (∃ o, s.heap.get? a = some o ∧ H a = none) → Heap.SameBut a s.heap h' → HOk X.prog X.w H h' := fun {a h'} ha hs b ob e => by
    obtain ⟨_, _, hfree⟩ := ha
    refine (I.hok b ob e).stay (fun c w' hc q => (hs.2 c ?_).trans q) (fun _ q => q) fun _ _ q => q
    rintro rfl
    rcases hc with rfl | hc
    · rw [hfree] at e; cases e
    · rw [hfree] at hc; cases hc
  rcases hx with hk | hk
  · refine wpAny_storeName_local hk hn (fun h' hn' hs => ?_) hcls
    obtain ⟨oL, _, _, hoL, _⟩ := id hn
    refine h _ ⟨I.ok, I.os, I.bare, ⟨fun b o e n hb hx => ?_, fun b o e n hb hx => ?_, I.base.free, fun b o e hx => ?_, I.base.tups, I.base.frzs, I.base.tbls⟩, ⟨_, hn', fun j y v' e1 e2 e3 => ?_⟩, fun y c e => ?_, I.free, I.freeC, fun p hp => ?_, tracked ⟨oL, hoL, I.free⟩ hs, by simpa using I.len⟩ ⟨_, hs, .inl rfl⟩
    · exact (hs.2 b (Nat.ne_of_lt (Nat.lt_of_lt_of_le (Heap.lt_size e) I.ok.above))).trans (I.base.keep b o e n hb hx)
    · obtain ⟨sl, e1⟩ := I.base.slot b o e n hb hx
      exact ⟨sl, (hs.2 b (Nat.ne_of_lt (Nat.lt_of_lt_of_le (Heap.lt_size e) I.ok.above))).trans e1⟩
    · obtain ⟨o', e1⟩ := I.base.there b o e hx
      exact ⟨o', (hs.2 b (Nat.ne_of_lt (Nat.lt_of_lt_of_le (Heap.lt_size e) I.ok.above))).trans e1⟩
    · by_cases hj : j = i
      · subst hj
        rw [hi] at e1; cases e1
        rw [List.getElem?_set_self hiσ] at e2
        cases e2
        exact ⟨u, r, .inl ⟨hk, by simp⟩⟩
      · rw [List.getElem?_set_ne (Ne.symm hj)] at e2
        obtain ⟨u', r', q⟩ := hl j y v' e1 e2 e3
        refine ⟨u', r', ?_⟩
        rcases q with ⟨k, e⟩ | ⟨k, c, e, z⟩
        · refine .inl ⟨k, ?_⟩
          have : y ≠ x := fun e => hj (nodup_ix hN e1 (e ▸ hi))
          simp [this, e]
        · exact .inr ⟨k, c, e, z.sameBut hs (cne y c e)⟩
    · obtain ⟨w', z⟩ := I.cell y c e
      exact ⟨w', z.sameBut hs (cne y c e)⟩
    · obtain ⟨e, n, ne, nf, d⟩ := I.pin p hp
      exact ⟨(hs.2 p.1 ne).trans e, n, ne, nf, d⟩
  · have hfn : X.fn x = true := by
      rcases hf with z | z
      · exact z
      · rw [z] at hk; cases hk
    obtain ⟨c, hc⟩ := I.ok.has x (.inl hk)
    obtain ⟨w', z⟩ := I.cell x c hc
    refine wpAny_storeName_cell I.ok.kind hk hc z (fun h' hc' hs => ?_)
    obtain ⟨oc, hoc, hocd⟩ := id z
    refine h { s with heap := h' } ⟨I.ok, I.os, I.bare, ⟨fun b o e n hb hx => ?_, fun b o e n hb hx => ?_, I.base.free, fun b o e hx => ?_, I.base.tups, I.base.frzs, I.base.tbls⟩, ⟨m, hn.sameBut hs (Ne.symm (cne x c hc)), fun j y v' e1 e2 e3 => ?_⟩, fun y c' e => ?_, I.free, I.freeC, fun p hp => ?_, tracked ⟨oc, hoc, I.freeC x c hc⟩ hs, by simpa using I.len⟩ ⟨c, hs, .inr hc⟩
    · exact (hs.2 b (Nat.ne_of_lt (Nat.lt_of_lt_of_le (Heap.lt_size e) (I.ok.cab x c hfn hc)))).trans (I.base.keep b o e n hb hx)
    · obtain ⟨sl, e1⟩ := I.base.slot b o e n hb hx
      exact ⟨sl, (hs.2 b (Nat.ne_of_lt (Nat.lt_of_lt_of_le (Heap.lt_size e) (I.ok.cab x c hfn hc)))).trans e1⟩
    · obtain ⟨o', e1⟩ := I.base.there b o e hx
      exact ⟨o', (hs.2 b (Nat.ne_of_lt (Nat.lt_of_lt_of_le (Heap.lt_size e) (I.ok.cab x c hfn hc)))).trans e1⟩
    · by_cases hj : j = i
      · subst hj
        rw [hi] at e1; cases e1
        rw [List.getElem?_set_self hiσ] at e2
        cases e2
        exact ⟨u, r, .inr ⟨.inl hk, c, hc, hc'⟩⟩
      · rw [List.getElem?_set_ne (Ne.symm hj)] at e2
        obtain ⟨u', r', q⟩ := hl j y v' e1 e2 e3
        refine ⟨u', r', ?_⟩
        rcases q with q | ⟨k, c', e, z'⟩
        · exact .inl q
        · refine .inr ⟨k, c', e, z'.sameBut hs ?_⟩
          rintro rfl
          exact hj (nodup_ix hN e1 (I.ok.inj _ _ _ e hc ▸ hi))
    · by_cases hcc : c' = c
      · subst hcc; exact ⟨_, hc'⟩
      · obtain ⟨w2, z2⟩ := I.cell y c' e
        exact ⟨w2, z2.sameBut hs hcc⟩
    · obtain ⟨e, n, ne, nf, d⟩ := I.pin p hp
      refine ⟨(hs.2 p.1 ?_).trans e, n, ne, nf, d⟩
      intro q
      rw [q, hoc] at e
      have q' : oc = p.2 := Option.some.inj e
      exact d w' (by rw [← q']; exact hocd)
theorem store_ok {M : Model} {A : Around} {E : Value → Shared → Prop} {i : Nat} {x : Str} {v : V} {u : Value} {Q : Unit → Shared → Prop} (I : Inv X pins σ H s) (hN : X.N.Nodup) (hi : X.N[i]? = some x) (hx : Loc X.env.scope x) (r : RelV v u)
    (h : ∀ s', Inv X pins (σ.set i (some v)) H s' → Q () s') (hf : X.fn x = true ∨ X.env.scope.names.lookup x = some .local := by first | exact .inl rfl | exact .inr rfl | assumption) : wpAny M A (storeName X.env x u) Q E s :=
  store_ok2 I hN hi hx r (fun s' I' _ => h s' I') hf
theorem Inv.call' {s' : Shared} {ch : List Addr} (I : Inv X pins σ H s) (ho : s'.os = s.os) (u : Un (frs X.stack) ch H H' s.heap s'.heap) (hok : HOk X.prog X.w H' s'.heap) (hg : AllBare s'.gens)
    (hch : ∀ b ∈ ch, (b ∈ X.ex ∨ X.s₀.heap.objs.size ≤ b) ∧ b ≠ X.env.locals ∧ (∀ x c, X.env.cells.lookup x = some c → c ≠ b) ∧ ∀ p ∈ X.pn ++ pins, p.1 ≠ b) : Inv X pins σ H' s' := by
  obtain ⟨h', g', d', t', o'⟩ := s'
  have e : o' = s.os := ho
  subst e
  exact I.call (g' := g') (t' := t') (d' := d') u hok hg hch
end

noncomputable abbrev XK := Value → Option Addr → Hp → Prop
noncomputable abbrev St := List (Option V)
noncomputable abbrev VK := V → Hp → Prop
noncomputable abbrev TE := St → Hp → VK → Prop
noncomputable abbrev TT := St → Hp → (Bool → Hp → Prop) → Prop
noncomputable abbrev TA := St → Hp → (List V → Hp → Prop) → Prop
structure Ends where
  nx : St → Hp → Prop
  rt : VK
  bk : St → Hp → Prop := fun _ _ => False
  ct : St → Hp → Prop := fun _ _ => False
noncomputable abbrev TS := Ends → St → Hp → Prop

noncomputable def EP (X : Cx) (pins : List (Addr × Obj)) (σ : St) (Q : VK) (u : Value) (s' : Shared) : Prop := ∃ v H', Inv X pins σ H' s' ∧ RelV v u ∧ Q v H'
noncomputable def TP (X : Cx) (pins : List (Addr × Obj)) (σ : St) (Q : Bool → Hp → Prop) (b : Bool) (s' : Shared) : Prop := ∃ H', Inv X pins σ H' s' ∧ Q b H'
noncomputable def AP (X : Cx) (pins : List (Addr × Obj)) (σ : St) (Q : List V → Hp → Prop) (us : List Value) (s' : Shared) : Prop := ∃ vs H', Inv X pins σ H' s' ∧ Vals vs us ∧ Q vs H'
noncomputable def SP (X : Cx) (pins : List (Addr × Obj)) (D : Ends) (f : Flow) (s' : Shared) : Prop :=
  match f with
  | .next => ∃ σ' H', Inv X pins σ' H' s' ∧ D.nx σ' H'
  | .brk => ∃ σ' H', Inv X pins σ' H' s' ∧ D.bk σ' H'
  | .cont => ∃ σ' H', Inv X pins σ' H' s' ∧ D.ct σ' H'
  | .ret u => ∃ v σ' H', Inv X pins σ' H' s' ∧ RelV v u ∧ D.rt v H'

noncomputable def PE (X : Cx) (e : Expr) (t : TE) : Prop :=
  ∀ (pins : List (Addr × Obj)) (s : Shared) (σ : St) (H : Hp) (Q : VK), Inv X pins σ H s → t σ H Q → wpAny (model X.prog X.w) X.A (eval e X.env) (EP X pins σ Q) X.xe s
noncomputable def PT (X : Cx) (e : Expr) (t : TT) : Prop :=
  ∀ (pins : List (Addr × Obj)) (s : Shared) (σ : St) (H : Hp) (Q : Bool → Hp → Prop), Inv X pins σ H s → t σ H Q → wpAny (model X.prog X.w) X.A (isTrue e X.env (eval e X.env)) (TP X pins σ Q) X.xe s
noncomputable def PW (X : Cx) (e : Expr) (t : TT) : Prop :=
  ∀ (whole : Sem Value) (pins : List (Addr × Obj)) (s : Shared) (σ : St) (H : Hp) (Q : Bool → Hp → Prop), Inv X pins σ H s → t σ H Q → wpAny (model X.prog X.w) X.A (isTrue e X.env whole) (TP X pins σ Q) X.xe s
theorem PW.pt {X : Cx} {e : Expr} {t : TT} (h : PW X e t) : PT X e t := h _
noncomputable def PA (X : Cx) (es : List Expr) (t : TA) : Prop :=
  ∀ (pos : Pos) (pins : List (Addr × Obj)) (s : Shared) (σ : St) (H : Hp) (Q : List V → Hp → Prop), Inv X pins σ H s → t σ H Q → wpAny (model X.prog X.w) X.A (spliced (backTo pos (starEach es X.env))) (AP X pins σ Q) X.xe s
noncomputable def PS (X : Cx) (st : Stmt) (t : TS) : Prop :=
  ∀ (pins : List (Addr × Obj)) (s : Shared) (σ : St) (H : Hp) (D : Ends), Inv X pins σ H s → t D σ H → wpAny (model X.prog X.w) X.A (exec st X.env) (SP X pins D) X.xe s
noncomputable def PSs (X : Cx) (st : List Stmt) (t : TS) : Prop :=
  ∀ (pins : List (Addr × Obj)) (s : Shared) (σ : St) (H : Hp) (D : Ends), Inv X pins σ H s → t D σ H → wpAny (model X.prog X.w) X.A (execs st X.env) (SP X pins D) X.xe s
theorem thn {α : Type} {t : Sem α} {Q Q' : α → Shared → Prop} {M : Model} {A : Around} {E : Value → Shared → Prop} {s : Shared} (h : wpAny M A t Q E s) (hQ : ∀ a s, Q a s → Q' a s) : wpAny M A t Q' E s := wpAny_mono h hQ fun _ _ x => x
end L2

namespace L2
open PySem PySem.Spec PyProof.Rows
section
variable {X : Cx}

theorem bin {a b : Expr} {ta tb : TE} (ha : PE X a ta) (hb : PE X b tb) {pins : List (Addr × Obj)} {s : Shared} {σ : St} {H : Hp} {R : V → V → Hp → Prop} (I : Inv X pins σ H s) (h : ta σ H fun x H1 => tb σ H1 fun y H2 => R x y H2)
    {α : Type} {Q : α → Shared → Prop} {f : Value → Value → Sem α}
    (hf : ∀ v u s2 x y H2, Inv X pins σ H2 s2 → RelV x v → RelV y u → R x y H2 → wpAny (model X.prog X.w) X.A (f v u) Q X.xe s2) :
    wpAny (model X.prog X.w) X.A (eval a X.env) (fun v s₁ => wpAny (model X.prog X.w) X.A (eval b X.env) (fun u s₂ => wpAny (model X.prog X.w) X.A (f v u) Q X.xe s₂) X.xe s₁) X.xe s := by
  refine thn (ha pins s σ H _ I h) fun v s1 ⟨x, H1, I1, r1, q1⟩ => ?_
  refine thn (hb pins s1 σ H1 _ I1 q1) fun u s2 ⟨y, H2, I2, r2, q2⟩ => ?_
  exact hf v u s2 x y H2 I2 r1 r2 q2

noncomputable def tVar (i : Nat) : TE := fun σ H Q => ∃ v, σ[i]? = some (some v) ∧ Q v H
noncomputable def tC (v : V) : TE := fun _ H Q => Q v H
theorem pe_var {i : Nat} {x : Str} {pos : Pos} (hN : X.N[i]? = some x) (hv : Vis X.env.scope x) (hd : (x == ("__debug__" : Str)) = false := by decide) (hcd : (x == ("__classdict__" : Str)) = false := by decide) : PE X (.Name x pos) (tVar i) := by
  intro pins s σ H Q I h
  obtain ⟨v, e, h⟩ := h
  obtain ⟨m, hn, hl⟩ := I.loc
  obtain ⟨u, r, l⟩ := hl i x v hN e hv
  have fin : EP X pins σ Q u s := ⟨v, H, I, r, h⟩
  rcases l with ⟨hk, hm⟩ | ⟨hk, c, hc, hcell⟩
  · exact wpAny_Name (wpAny_loadName_local I.ok.kind hk hn hm fin) hd
  · rcases hk with hk | hk
    · exact wpAny_Name (wpAny_loadName_cell I.ok.kind hk hc hcell fin) hd
    · exact wpAny_Name (wpAny_loadName_free I.ok.kind hk hc hcell fin hcd) hd
theorem pe_int {i j pos} : PE X (.Constant (.int i) j pos) (tC (.int i)) := fun _ _ _ H _ I h => wpAny_Constant_int ⟨.int i, H, I.tok _, ⟨_, rfl⟩, h⟩
theorem pe_bl {b j pos} : PE X (.Constant (.bool b) j pos) (tC (.bl b)) := fun _ _ _ H _ I h => Constant_bool ⟨.bl b, H, I, rfl, h⟩
theorem pe_non {j pos} : PE X (.Constant .none j pos) (tC .non) := fun _ _ _ H _ I h => Constant_none ⟨.non, H, I, rfl, h⟩

noncomputable def Gl (X : Cx) (x : Str) : Prop := X.env.kindOf x = some .globalImplicit
theorem ld_glob {E : Value → Shared → Prop} {pins : List (Addr × Obj)} {s : Shared} {σ : St} {H : Hp} {x : Str} {u : Value} {pos : Pos} {Q : Value → Shared → Prop} (I : Inv X pins σ H s) (hg : Gl X x) (hm : X.mg x = some u) (h : Q u s)
    (hd : (x == ("__debug__" : Str)) = false := by decide) : wpAny (model X.prog X.w) X.A (eval (.Name x pos) X.env) Q E s :=
  Calls.Name_function_global I.ok.kind hg (Calls.loadGlobal_global (by rw [I.ok.glob]; exact I.mod.glob.keeps I.bk) hm h) hd
theorem ld_blt {E : Value → Shared → Prop} {pins : List (Addr × Obj)} {s : Shared} {σ : St} {H : Hp} {x : Str} {u : Value} {pos : Pos} {Q : Value → Shared → Prop} (I : Inv X pins σ H s) (hg : Gl X x) (hm : X.mg x = none) (hv : bootBuiltins x = some u) (h : Q u s)
    (hn : x ≠ "__name__" := by decide) (hd : (x == ("__debug__" : Str)) = false := by decide) : wpAny (model X.prog X.w) X.A (eval (.Name x pos) X.env) Q E s := by
  obtain ⟨mb, h1, h2⟩ := I.mod.blt
  exact Calls.Name_function_global I.ok.kind hg (Calls.loadGlobal_builtin (by rw [I.ok.glob]; exact I.mod.glob.keeps I.bk) hm (by rw [I.ok.blt]; exact h1.keeps I.bk) ((h2 x hn).trans hv) h) hd
theorem pe_glob {x : Str} {v : V} {u : Value} {pos : Pos} (hg : Gl X x) (hm : X.mg x = some u) (r : RelV v u) (hd : (x == ("__debug__" : Str)) = false := by decide) : PE X (.Name x pos) (tC v) :=
  fun _ _ _ H _ I h => ld_glob I hg hm ⟨v, H, I, r, h⟩ hd
theorem pe_bltn {x : Str} {v : V} {u : Value} {pos : Pos} (hg : Gl X x) (hm : X.mg x = none) (hv : bootBuiltins x = some u) (r : RelV v u) (hn : x ≠ "__name__" := by decide) (hd : (x == ("__debug__" : Str)) = false := by decide) : PE X (.Name x pos) (tC v) :=
  fun _ _ _ H _ I h => ld_blt I hg hm hv ⟨v, H, I, r, h⟩ hn hd

variable {a b : Expr} {ta tb : TE} {pos : Pos}

noncomputable def PC (X : Cx) (op : CmpOp) (a b : Expr) (t : TE) : Prop :=
  ∀ (pins : List (Addr × Obj)) (s : Shared) (σ : St) (H : Hp) (Q : VK), Inv X pins σ H s → t σ H Q →
    wpAny (model X.prog X.w) X.A (eval a X.env) (fun v s₁ => wpAny (model X.prog X.w) X.A (eval b X.env) (fun u s₂ => wpAny (model X.prog X.w) X.A (compareOp op v u) (EP X pins σ Q) X.xe s₂) X.xe s₁) X.xe s
noncomputable def tB (t : TE) : TT := fun σ H Q => t σ H fun x H1 => ∃ c, x = .bl c ∧ Q c H1
theorem pt_val {e : Expr} {t : TE} (h : PE X e t) (he : ∀ whole, isTrue e X.env whole = (do let v ← whole; standAt e.pos; holding [v] (truthy v)) := by intro _; rfl) : PT X e (tB t) := by
  intro pins s σ H Q I hw
  refine isTrue_plain (thn (h pins s σ H _ I hw) fun v s1 ⟨x, H1, I1, r1, q1⟩ => ?_) (he _)
  obtain ⟨d, rfl, q⟩ := q1
  cases r1
  exact wpAny_truthy_bool ⟨H1, I1, q⟩

variable {tA tB' : TT} {rest : List Expr}
noncomputable def tAnd (t u : TT) : TT := fun σ H Q => t σ H fun c H1 => if c = true then u σ H1 Q else Q false H1
noncomputable def tOr (t u : TT) : TT := fun σ H Q => t σ H fun c H1 => if c = true then Q true H1 else u σ H1 Q
noncomputable def tNot (t : TT) : TT := fun σ H Q => t σ H fun c H1 => Q (!c) H1
theorem pw_and1 (ha : PT X a tA) : PW X (.BoolOp .And [a] pos) tA := by
  intro wh pins s σ H Q I h
  refine isTrue_and (thn (ha pins s σ H Q I h) fun c s1 e => ?_)
  cases c with
  | true => exact isTrue_and_nil e
  | false => exact e
theorem pw_or1 (ha : PT X a tA) : PW X (.BoolOp .Or [a] pos) tA := by
  intro wh pins s σ H Q I h
  refine isTrue_or (thn (ha pins s σ H Q I h) fun c s1 e => ?_)
  cases c with
  | false => exact isTrue_or_nil e
  | true => exact e
theorem pw_and (ha : PT X a tA) (hb : PW X (.BoolOp .And (b :: rest) pos) tB') : PW X (.BoolOp .And (a :: b :: rest) pos) (tAnd tA tB') := by
  intro wh pins s σ H Q I h
  refine isTrue_and (thn (ha pins s σ H _ I h) fun c s1 ⟨H1, I1, q1⟩ => ?_)
  cases c with
  | true => exact hb wh pins s1 σ H1 Q I1 q1
  | false => exact ⟨H1, I1, q1⟩
theorem pw_or (ha : PT X a tA) (hb : PW X (.BoolOp .Or (b :: rest) pos) tB') : PW X (.BoolOp .Or (a :: b :: rest) pos) (tOr tA tB') := by
  intro wh pins s σ H Q I h
  refine isTrue_or (thn (ha pins s σ H _ I h) fun c s1 ⟨H1, I1, q1⟩ => ?_)
  cases c with
  | true => exact ⟨H1, I1, q1⟩
  | false => exact hb wh pins s1 σ H1 Q I1 q1
theorem pt_not (ha : PT X a tA) : PT X (.UnaryOp .Not a pos) (tNot tA) := by
  intro pins s σ H Q I h
  exact isTrue_not (ha pins s σ H (fun c H1 => Q (!c) H1) I h)
noncomputable def tAndV (ta tb : TE) : TE := fun σ H Q => ta σ H fun x H1 => ∃ c, x = .bl c ∧ if c = true then tb σ H1 Q else Q (.bl false) H1
theorem pe_one {op} {t : TE} (h : PE X a t) : PE X (.BoolOp op [a] pos) t := fun pins s σ H Q I hw => BoolOp_one (h pins s σ H Q I hw)
theorem pe_and (ha : PE X a ta) (hb : PE X (.BoolOp .And (b :: rest) pos) tb) : PE X (.BoolOp .And (a :: b :: rest) pos) (tAndV ta tb) := by
  intro pins s σ H Q I h
  refine BoolOp_and (thn (ha pins s σ H _ I h) fun v s1 ⟨x, H1, I1, r1, q1⟩ => ?_)
  obtain ⟨c, rfl, q1⟩ := q1
  cases r1
  refine wpAny_truthy_bool ?_
  cases c with
  | true => exact hb pins s1 σ H1 Q I1 q1
  | false => exact ⟨.bl false, H1, I1, rfl, q1⟩
end
end L2

namespace L2
open PySem PySem.Spec PyProof.Rows

noncomputable def SqL (K : PySem.W.Frag) (H : Hp) (a : Addr) (xs : List V) : Prop :=
  Rd H a (.lst xs) ∨
    ∃ (o : Obj) (its : Array Value) (n : Nat), K.lookup a = some o ∧ o.cls = .type "list" ∧ o.dict = none ∧ o.data = .seq its n ∧ its.size ≤ sizeLine ∧ Vals xs its.toList
noncomputable def SqT (K : PySem.W.Frag) (H : Hp) (a : Addr) (xs : List V) : Prop :=
  Rd H a (.tup xs) ∨
    ∃ (o : Obj) (its : Array Value) (n : Nat), K.lookup a = some o ∧ o.cls = .type "tuple" ∧ o.data = .seq its n ∧ its.size ≤ sizeLine ∧ Vals xs its.toList
noncomputable def absV : Value → Option V
  | .none => some .non
  | .bool b => some (.bl b)
  | .int i _ => some (.int i)
  | .str x _ => some (.str x)
  | .bytes b _ => some (.byt b)
  | .float b _ => some (.flt b)
  | .ref a => some (.ref a)
  | .type n => some (.ty n)
  | _ => none
theorem RelV.abs {x : V} {u : Value} (r : RelV x u) : absV u = some x := by
  cases x with
  | non => cases r; rfl
  | bl _ => cases r; rfl
  | int _ => obtain ⟨t, rfl⟩ := r; rfl
  | str _ => obtain ⟨t, rfl⟩ := r; rfl
  | byt _ => obtain ⟨t, rfl⟩ := r; rfl
  | flt _ => obtain ⟨t, rfl⟩ := r; rfl
  | ref _ => cases r; rfl
  | ty _ => cases r; rfl
theorem RelV.inj {x y : V} {u : Value} (r : RelV x u) (q : RelV y u) : x = y := Option.some.inj (r.abs.symm.trans q.abs)
theorem Vals.inj : ∀ {xs ys : List V} {us : List Value}, Vals xs us → Vals ys us → xs = ys
  | _, _, _, .nil, .nil => rfl
  | _, _, _, .cons r t, .cons r' t' => by rw [r.inj r', Vals.inj t t']
section
variable {X : Cx} {pins : List (Addr × Obj)} {σ : St} {H : Hp} {s : Shared} {a : Addr} {xs ys : List V}
theorem SqL.of {K : PySem.W.Frag} (h : H a = some (.lst xs)) : SqL K H a xs := .inl (.inl h)
theorem SqT.of {K : PySem.W.Frag} (h : H a = some (.tup xs)) : SqT K H a xs := .inl (.inl h)
theorem Inv.list (I : Inv X pins σ H s) (h : SqL X.K H a xs) : ∃ its : List Value, Vals xs its ∧ PlainL s.heap a its.toArray ∧ xs.length ≤ sizeLine := by
  rcases h with h | ⟨o, its, n, hk, hc, hd, hs, hz, r⟩
  · obtain ⟨z, its, n, r, e⟩ := h.ok I.hok
    exact ⟨its, r, ⟨_, n, e, rfl, rfl, rfl⟩, z⟩
  · refine ⟨its.toList, r, ⟨o, n, I.kIn a o hk, hc, hd, by simpa using hs⟩, ?_⟩
    have e := r.length
    simp only [Array.length_toList] at e
    omega
theorem Inv.tuple (I : Inv X pins σ H s) (h : SqT X.K H a xs) : ∃ its : List Value, Vals xs its ∧ IsTup s.heap a its.toArray ∧ xs.length ≤ sizeLine := by
  rcases h with h | ⟨o, its, n, hk, hc, hs, hz, r⟩
  · obtain ⟨z, its, r, p⟩ := h.ok I.hok
    exact ⟨its, r, p, z⟩
  · refine ⟨its.toList, r, ⟨o, I.kIn a o hk, hc, n, by simpa using hs⟩, ?_⟩
    have e := r.length
    simp only [Array.length_toList] at e
    omega
theorem Inv.list_inj (I : Inv X pins σ H s) (h : SqL X.K H a xs) (h' : SqL X.K H a ys) : xs = ys := by
  obtain ⟨its, r, ⟨o, n, e, _, _, d⟩, _⟩ := I.list h
  obtain ⟨its', r', ⟨o', n', e', _, _, d'⟩, _⟩ := I.list h'
  rw [e] at e'; cases e'
  rw [d] at d'
  injection d' with d1 _
  have : its = its' := by simpa using congrArg Array.toList d1
  subst this
  exact r.inj r'
theorem Inv.tuple_inj (I : Inv X pins σ H s) (h : SqT X.K H a xs) (h' : SqT X.K H a ys) : xs = ys := by
  obtain ⟨its, r, ⟨o, e, _, n, d⟩, _⟩ := I.tuple h
  obtain ⟨its', r', ⟨o', e', _, n', d'⟩, _⟩ := I.tuple h'
  rw [e] at e'; cases e'
  rw [d] at d'
  injection d' with d1 _
  have : its = its' := by simpa using congrArg Array.toList d1
  subst this
  exact r.inj r'
end

noncomputable abbrev Cx.wish (X : Cx) (E : Value → Shared → Prop) : Cx := { X with xe := E }
noncomputable abbrev Cx.nox (X : Cx) : Cx := X.wish fun _ _ => False
theorem Cx.Ok.wish {X : Cx} (ok : X.Ok) (E : Value → Shared → Prop) : (X.wish E).Ok :=
  ⟨ok.mod, ok.kind, ok.glob, ok.blt, ok.above, ok.inj, ok.has, ok.cab, ok.hd, ok.frames, ok.stk, ok.exf, ok.bs, ok.bsz, ok.noex, ok.exfs, ok.funs, ok.frf⟩
theorem Cx.Ok.unwish {X : Cx} {E : Value → Shared → Prop} (ok : (X.wish E).Ok) : X.Ok :=
  ⟨ok.mod, ok.kind, ok.glob, ok.blt, ok.above, ok.inj, ok.has, ok.cab, ok.hd, ok.frames, ok.stk, ok.exf, ok.bs, ok.bsz, ok.noex, ok.exfs, ok.funs, ok.frf⟩
section
variable {X : Cx} {pins : List (Addr × Obj)} {σ : St} {H : Hp} {s : Shared} {E : Value → Shared → Prop}
theorem Inv.wish (I : Inv X pins σ H s) (E : Value → Shared → Prop) : Inv (X.wish E) pins σ H s := ⟨I.ok.wish E, I.os, I.bare, I.base, I.loc, I.cell, I.free, I.freeC, I.pin, I.hok, I.len⟩
theorem Inv.unwish (I : Inv (X.wish E) pins σ H s) : Inv X pins σ H s := ⟨I.ok.unwish, I.os, I.bare, I.base, I.loc, I.cell, I.free, I.freeC, I.pin, I.hok, I.len⟩
theorem SP.unwish {D : Ends} {f : Flow} {s' : Shared} (h : SP (X.wish E) pins D f s') : SP X pins D f s' := by
  cases f with
  | next => obtain ⟨σ', H', I, q⟩ := h; exact ⟨σ', H', I.unwish, q⟩
  | brk => obtain ⟨σ', H', I, q⟩ := h; exact ⟨σ', H', I.unwish, q⟩
  | cont => obtain ⟨σ', H', I, q⟩ := h; exact ⟨σ', H', I.unwish, q⟩
  | ret u => obtain ⟨v, σ', H', I, r, q⟩ := h; exact ⟨v, σ', H', I.unwish, r, q⟩
theorem PSs.nox {st : List Stmt} {t : TS} (h : PSs X.nox st t) : PSs X st t := fun pins s σ H D I hw =>
  wpAny_mono (h pins s σ H D (I.wish _) hw) (fun _ _ q => q.unwish) fun _ _ z => False.elim z
end

section
variable {X : Cx} {st : Stmt} {rest : List Stmt} {t u : TS} {e : Expr} {te : TE} {pos : Pos}
noncomputable def tNext : TS := fun D σ H => D.nx σ H
noncomputable def tSeq (t u : TS) : TS := fun D σ H => t { D with nx := u D } σ H
theorem pss_nil : PSs X [] tNext := fun _ _ σ H _ I h => wpAny_execs_nil ⟨σ, H, I, h⟩
theorem pss_cons (h1 : PS X st t) (h2 : PSs X rest u) : PSs X (st :: rest) (tSeq t u) := by
  intro pins s σ H D I h
  refine wpAny_execs_cons (thn (h1 pins s σ H { D with nx := u D } I h) fun f s1 q => ?_)
  cases f with
  | next =>
    obtain ⟨σ', H', I', q⟩ := q
    exact h2 pins s1 σ' H' D I' q
  | ret v => exact q
  | brk => exact q
  | cont => exact q
theorem pss_one (h1 : PS X st t) : PSs X [st] t := by
  intro pins s σ H D I h
  refine wpAny_execs_cons (thn (h1 pins s σ H D I h) fun f s1 q => ?_)
  cases f with
  | next => exact wpAny_execs_nil q
  | ret v => exact q
  | brk => exact q
  | cont => exact q
theorem Inv.quiet {pins : List (Addr × Obj)} {σ : St} {H : Hp} {s : Shared} (I : Inv X pins σ H s) : interactive X.env = false := by simp [interactive, I.ok.kind]
noncomputable def tDrop (te : TE) : TS := fun D σ H => te σ H fun _ H1 => D.nx σ H1
theorem ps_expr (he : PE X e te) (hs : swapsWith e none pos.line X.env = pure false := by rfl) : PS X (.Expr e pos) (tDrop te) := by
  intro pins s σ H D I h
  exact wpAny_Expr_any (thn (he pins s σ H _ I h) fun v s1 ⟨x, H1, I1, r1, q1⟩ => ⟨σ, H1, I1, q1⟩) I.quiet hs
noncomputable def tRet (te : TE) : TS := fun D σ H => te σ H D.rt
theorem ps_ret (he : PE X e te) : PS X (.Return (some e) pos) (tRet te) := by
  intro pins s σ H D I h
  exact wpAny_Return_some (thn (he pins s σ H _ I h) fun v s1 ⟨x, H1, I1, r1, q1⟩ => ⟨x, σ, H1, I1, r1, q1⟩)
noncomputable def tIfS (c : TT) (t u : TS) : TS := fun D σ H => c σ H fun b H1 => if b = true then t D σ H1 else u D σ H1
theorem ps_if {c : Expr} {a b : List Stmt} {tc : TT} (hc : PT X c tc) (ha : PSs X a t) (hb : PSs X b u) : PS X (.If c a b pos) (tIfS tc t u) := by
  intro pins s σ H D I h
  refine wpAny_If (thn (hc pins s σ H _ I h) fun d s1 ⟨H1, I1, q1⟩ => ?_)
  cases d with
  | true => exact ha pins s1 σ H1 D I1 q1
  | false => exact hb pins s1 σ H1 D I1 q1
noncomputable def tNever : TS := fun _ _ _ => False
theorem ps_never : PS X st tNever := fun _ _ _ _ _ _ h => h.elim
theorem pss_never {sts : List Stmt} : PSs X sts tNever := fun _ _ _ _ _ _ h => h.elim
end

noncomputable abbrev TG := V → St → Hp → (St → Hp → Prop) → Prop
noncomputable abbrev TGs := List V → St → Hp → (St → Hp → Prop) → Prop
noncomputable def PG (X : Cx) (target : Expr) (t : TG) : Prop :=
  ∀ (pins : List (Addr × Obj)) (s : Shared) (σ : St) (H : Hp) (v : V) (u : Value) (Q : St → Hp → Prop), Inv X pins σ H s → RelV v u → t v σ H Q →
    wpAny (model X.prog X.w) X.A (assign target X.env u) (fun _ s' => ∃ σ' H', Inv X pins σ' H' s' ∧ Q σ' H') X.xe s
noncomputable def PGs (X : Cx) (ts : List Expr) (t : TGs) : Prop :=
  ∀ (pins : List (Addr × Obj)) (s : Shared) (σ : St) (H : Hp) (vs : List V) (us : List Value) (Q : St → Hp → Prop), Inv X pins σ H s → Vals vs us → t vs σ H Q →
    wpAny (model X.prog X.w) X.A (assignInOrder ((assignEach ts X.env).map (·.2)) us) (fun _ s' => ∃ σ' H', Inv X pins σ' H' s' ∧ Q σ' H') X.xe s
noncomputable abbrev TSet := V → V → V → Hp → (Hp → Prop) → Prop
noncomputable def PSet (X : Cx) (t : TSet) : Prop :=
  ∀ (pins : List (Addr × Obj)) (s : Shared) (σ : St) (H : Hp) (o i v : V) (ov iv u : Value) (Q : Hp → Prop), Inv X pins σ H s → RelV o ov → RelV i iv → RelV v u → t o i v H Q →
    wpAny (model X.prog X.w) X.A (setItem ov iv u) (fun _ s' => ∃ H', Inv X pins σ H' s' ∧ Q H') X.xe s
noncomputable abbrev TIp := V → V → Hp → VK → Prop
noncomputable def PIp (X : Cx) (op : Operator) (t : TIp) : Prop :=
  ∀ (pins : List (Addr × Obj)) (s : Shared) (σ : St) (H : Hp) (x y : V) (v u : Value) (Q : VK), Inv X pins σ H s → RelV x v → RelV y u → t x y H Q →
    wpAny (model X.prog X.w) X.A (inplaceOp op v u) (EP X pins σ Q) X.xe s
section
variable {X : Cx} {pos : Pos}
noncomputable def gName (i : Nat) : TG := fun v σ H Q => Q (σ.set i (some v)) H
theorem pg_name {i : Nat} {x : Str} (hN : X.N.Nodup) (hi : X.N[i]? = some x) (hx : Loc X.env.scope x) (hf : X.fn x = true ∨ X.env.scope.names.lookup x = some .local := by first | exact .inl rfl | exact .inr rfl | assumption) : PG X (.Name x pos) (gName i) := by
  intro pins s σ H v u Q I r h
  exact wpAny_assign_Name (store_ok I hN hi hx r (fun s' I' => ⟨_, H, I', h⟩) hf)
noncomputable def gNil : TGs := fun vs σ H Q => vs = [] ∧ Q σ H
noncomputable def gCons (t : TG) (u : TGs) : TGs := fun vs σ H Q => ∃ v r, vs = v :: r ∧ t v σ H fun σ' H' => u r σ' H' Q
theorem pgs_nil : PGs X [] gNil := by
  intro pins s σ H vs us Q I r h
  obtain ⟨e, h⟩ := h
  subst e
  cases r
  exact assignInOrder_nil ⟨σ, H, I, h⟩
theorem pgs_cons {e : Expr} {es : List Expr} {t : TG} {u : TGs} (h1 : PG X e t) (h2 : PGs X es u)
    (hs : (assignEach (e :: es) X.env).map (·.2) = assign e X.env :: (assignEach es X.env).map (·.2) := by rfl) : PGs X (e :: es) (gCons t u) := by
  intro pins s σ H vs us Q I r h
  obtain ⟨v, vr, e1, h⟩ := h
  subst e1
  cases r with
  | cons r rr =>
    rw [hs]
    refine assignInOrder_cons (thn (h1 pins s σ H _ _ _ I r h) fun _ s1 ⟨σ1, H1, I1, q1⟩ => ?_)
    exact h2 pins s1 σ1 H1 _ _ Q I1 rr q1
noncomputable def gTup (K : PySem.W.Frag) (n : Nat) (t : TGs) : TG := fun v σ H Q => ∃ a xs, v = .ref a ∧ SqT K H a xs ∧ xs.length = n ∧ t xs σ H Q
theorem pg_tup {es : List Expr} {k : Nat} {t : TGs} {n : Nat} (hc : X.calm = true) (h : PGs X es t)
    (hn : (assignEach es X.env).length = n := by rfl) (hst : (assignEach es X.env).findIdx? (·.1) = none := by rfl) : PG X (.Tuple es k pos) (gTup X.K n t) := by
  intro pins s σ H v u Q I r hw
  obtain ⟨a, xs, e1, hq, hl, hw⟩ := hw
  subst e1
  cases r
  obtain ⟨its, rv, ht, hz⟩ := I.tuple hq
  refine assign_Tuple_tuple (I.ok.hd hc) ht (by simp [hn, ← hl, rv.length]) hst fun h' hx => ?_
  have I1 : Inv X pins σ H { s with heap := h' } := I.kept (t' := s.toks) fun b o e => hx b o (Nat.ne_of_lt (Heap.lt_size e)) e
  exact h pins _ σ H xs _ Q I1 (by simpa using rv) hw
noncomputable def gSub (to ti : TE) (t : TSet) : TG := fun v σ H Q => to σ H fun o H1 => ti σ H1 fun i H2 => t o i v H2 fun H3 => Q σ H3
theorem pg_sub {o i : Expr} {to ti : TE} {t : TSet} (ho : PE X o to) (hi : PE X i ti) (hs : PSet X t)
    (ha : ∀ v, assign (.Subscript o i pos) X.env v = (do
      let ov ← holding [v] (eval o X.env)
      let iv ← holding [v, ov] (eval i X.env)
      standAt pos
      holding [v, ov, iv] (setItem ov iv v)
      release [v, ov, iv] []) := by intro _; rfl) : PG X (.Subscript o i pos) (gSub to ti t) := by
  intro pins s σ H v u Q I r h
  rw [ha]
  refine wpAny_bind (wpAny_holding (thn (ho pins s σ H _ I h) fun ov s1 ⟨x, H1, I1, r1, q1⟩ => ?_))
  refine wpAny_bind (wpAny_holding (thn (hi pins s1 σ H1 _ I1 q1) fun iv s2 ⟨y, H2, I2, r2, q2⟩ => ?_))
  refine wpAny_bind (wpAny_standAt (wpAny_bind (wpAny_holding (thn (hs pins s2 σ H2 x y v ov iv u _ I2 r1 r2 r q2) fun _ s3 ⟨H3, I3, q3⟩ => ?_))))
  exact wpAny_release ⟨σ, H3, I3, q3⟩
noncomputable def tAsg (te : TE) (g : TG) : TS := fun D σ H => te σ H fun x H1 => g x σ H1 D.nx
theorem ps_asg {tg e : Expr} {te : TE} {g : TG} (he : PE X e te) (hg : PG X tg g) (hs : swapsWithSole [tg] e pos.line X.env = pure false := by rfl) (hw : swappedStores [tg] e X.env = pure none := by rfl)
    (h1 : (assignEach [tg] X.env).map (·.2) = [assign tg X.env] := by rfl) : PS X (.Assign [tg] e pos) (tAsg te g) := by
  intro pins s σ H D I h
  refine wpAny_Assign_stores (thn (he pins s σ H _ I h) fun v s1 ⟨x, H1, I1, r1, q1⟩ => ?_) hs hw
  rw [h1]
  exact thn (hg pins s1 σ H1 x v _ I1 r1 q1) fun _ s2 q => q
theorem ps_set {i : Nat} {x : Str} {e : Expr} {te : TE} {pos' : Pos} (hN : X.N.Nodup) (hi : X.N[i]? = some x) (hx : Loc X.env.scope x) (he : PE X e te) (hs : swapsWith e (some (.Name x pos')) pos.line X.env = pure false := by rfl) (hf : X.fn x = true ∨ X.env.scope.names.lookup x = some .local := by first | exact .inl rfl | exact .inr rfl | assumption) :
    PS X (.Assign [.Name x pos'] e pos) (tAsg te (gName i)) := by
  intro pins s σ H D I h
  refine wpAny_Assign_Name (thn (he pins s σ H _ I h) fun v s1 ⟨y, H1, I1, r1, q1⟩ => ?_) hs
  exact store_ok I1 hN hi hx r1 (fun s2 I2 => ⟨_, H1, I2, q1⟩) hf
noncomputable def tPar (i j : Nat) (ta : TA) : TS := fun D σ H => ta σ H fun vs H1 => ∃ v w, vs = [v, w] ∧ D.nx ((σ.set i (some v)).set j (some w)) H1
theorem ps_par {i j : Nat} {x y : Str} {a b : Expr} {ta : TA} {px py pt : Pos} {kt k2 pt2} (hc : X.calm = true) (hN : X.N.Nodup) (hi : X.N[i]? = some x) (hj : X.N[j]? = some y) (hij : i ≠ j)
    (hx : X.env.scope.names.lookup x = some .local) (hy : X.env.scope.names.lookup y = some .local) (ha : PA X [a, b] ta)
    (hw : swappedStores [.Tuple [.Name x px, .Name y py] kt pt] (.Tuple [a, b] k2 pt2) X.env = pure (some [x, y]))
    (hs : swapsWithSole [.Tuple [.Name x px, .Name y py] kt pt] (.Tuple [a, b] k2 pt2) pos.line X.env = pure false := by rfl) :
    PS X (.Assign [.Tuple [.Name x px, .Name y py] kt pt] (.Tuple [a, b] k2 pt2) pos) (tPar i j ta) := by
  intro pins s σ H D I h
  rw [exec_Assign_arm]
  refine wpAny_bind (wpAny_standAt ?_)
  rw [hs]
  refine wpAny_bind (wpAny_pure ?_)
  rw [if_neg (by decide)]
  refine wpAny_bind (Tuple_ (thn (ha _ pins s σ H _ I h) fun us s1 ⟨vs, H1, I1, r1, q1⟩ => ?_))
  obtain ⟨v, w, e1, q1⟩ := q1
  subst e1
  obtain ⟨u1, u2, rfl, rv, rw'⟩ : ∃ u1 u2, us = [u1, u2] ∧ RelV v u1 ∧ RelV w u2 := by
    cases r1 with
    | cons p q =>
      cases q with
      | cons p' q' =>
        cases q'
        exact ⟨_, _, rfl, p, p'⟩
  refine wpAny_newObj_type ?_ (by show 2 ≤ sizeLine; decide)
  have I2 : Inv X pins σ H1 { s1 with heap := s1.heap.push { cls := .type "tuple", data := .seq [u1, u2].toArray } } := I1.kept (t' := s1.toks) fun b o e => Heap.get?_push_of_some _ e
  rw [hw]
  refine wpAny_bind (wpAny_pure ?_)
  show wpAny (model X.prog X.w) X.A (do rule "assign.swapped-stores"; let items ← unpackItems (.ref s1.heap.objs.size) 2 none; assignInOrder [fun v => bindName X.env y v, fun v => bindName X.env x v] items.reverse; pure Flow.next) _ _ _
  refine wpAny_bind (wpAny_rule (wpAny_bind (unpackItems_tuple (items := #[u1, u2]) (I.ok.hd hc) (IsTup.new s1.heap _) fun h' hx' => ?_)))
  have I3 := I2.kept (h' := h') (t' := s1.toks) fun b o e => hx' b o (Nat.ne_of_lt (Heap.lt_size e)) e
  show wpAny _ _ (assignInOrder [fun v => bindName X.env y v, fun v => bindName X.env x v] [u2, u1] >>= fun _ => pure Flow.next) _ _ _
  refine wpAny_bind (assignInOrder_cons (wpAny_bindName (store_ok I3 hN hj (.inl hy) rw' (fun s2 I4 => ?_) (.inr hy))))
  refine assignInOrder_cons (wpAny_bindName (store_ok I4 hN hi (.inl hx) rv (fun s3 I5 => assignInOrder_nil (wpAny_pure ?_)) (.inr hx)))
  rw [List.set_comm _ _ (Ne.symm hij)] at I5
  exact ⟨_, H1, I5, q1⟩
noncomputable def tAugS (to ti te : TE) (tget : V → V → Hp → VK → Prop) (tip : TIp) (tset : TSet) : TS := fun D σ H => to σ H fun o H1 => ti σ H1 fun i H2 => tget o i H2 fun x H3 => te σ H3 fun y H4 => tip x y H4 fun z H5 => tset o i z H5 fun H6 => D.nx σ H6
noncomputable def PGet (X : Cx) (t : V → V → Hp → VK → Prop) : Prop :=
  ∀ (pins : List (Addr × Obj)) (s : Shared) (σ : St) (H : Hp) (o i : V) (ov iv : Value) (Q : VK), Inv X pins σ H s → RelV o ov → RelV i iv → t o i H Q →
    wpAny (model X.prog X.w) X.A (getItem ov iv) (EP X pins σ Q) X.xe s
theorem ps_augS {o i e : Expr} {to ti te : TE} {tget : V → V → Hp → VK → Prop} {tip : TIp} {tset : TSet} {op : Operator} {tpos : Pos} (ho : PE X o to) (hi : PE X i ti) (hg : PGet X tget) (he : PE X e te) (hp : PIp X op tip) (hs : PSet X tset)
    (ha : ∀ ov iv new, augStore i ov iv new = (do holding [new, ov, iv] (setItem ov iv new); release [new, ov, iv] []; pure .next) := by intros; rfl) : PS X (.AugAssign (.Subscript o i tpos) op e pos) (tAugS to ti te tget tip tset) := by
  intro pins s σ H D I h
  refine wpAny_AugAssign_SubscriptAny (thn (ho pins s σ H _ I h) fun ov s1 ⟨x1, H1, I1, r1, q1⟩ => ?_) ha
  refine thn (hi pins s1 σ H1 _ I1 q1) fun iv s2 ⟨x2, H2, I2, r2, q2⟩ => ?_
  refine thn (hg pins s2 σ H2 x1 x2 ov iv _ I2 r1 r2 q2) fun old s3 ⟨x3, H3, I3, r3, q3⟩ => ?_
  refine thn (he pins s3 σ H3 _ I3 q3) fun v s4 ⟨x4, H4, I4, r4, q4⟩ => ?_
  refine thn (hp pins s4 σ H4 x3 x4 old v _ I4 r3 r4 q4) fun new s5 ⟨x5, H5, I5, r5, q5⟩ => ?_
  exact thn (hs pins s5 σ H5 x1 x2 x5 ov iv new _ I5 r1 r2 r5 q5) fun _ s6 ⟨H6, I6, q6⟩ => ⟨σ, H6, I6, q6⟩
noncomputable def ipI (f : Int → Int → Int) : TIp := fun x y H Q => ∃ i j, x = .int i ∧ y = .int j ∧ Q (.int (f i j)) H
theorem ip_add : PIp X .Add (ipI fun i j => i + j) := by
  intro pins s σ H x y v u Q I r1 r2 h
  obtain ⟨i, j, e1, e2, q⟩ := h
  subst e1; subst e2
  obtain ⟨t, rfl⟩ := r1
  obtain ⟨t', rfl⟩ := r2
  exact iadd_int ⟨.int _, H, I.tok _, ⟨_, rfl⟩, q⟩
end

section
variable {X : Cx} {pos : Pos}
noncomputable def tWhile (c : TT) (tb : TS) : TS := fun D σ H => ∃ W : Nat → St → Hp → Prop, (∃ m, W m σ H) ∧ ∀ m σ H, W m σ H →
  c σ H fun b H1 => if b = true then ∃ N : St → Hp → Prop, (∀ σ' H', N σ' H' → ∃ m', m' < m ∧ W m' σ' H') ∧ tb { D with nx := N, ct := N, bk := D.nx } σ H1 else D.nx σ H1
theorem ps_while {c : Expr} {body : List Stmt} {tc : TT} {tb : TS} (hp : PassesOwn (model X.prog X.w) X.A X.env X.xe) (hc : PT X c tc) (hb : PSs X body tb) : PS X (.While c body [] pos) (tWhile tc tb) := by
  intro pins s σ H D I h
  obtain ⟨W, ⟨m0, w0⟩, turn⟩ := h
  refine wpAny_While (codeAny_whileLoop (fun n s' => ∃ σ' H', Inv X pins σ' H' s' ∧ W n σ' H') ?_ m0 ⟨σ, H, I, w0⟩)
  rintro n s1 ⟨σ1, H1, I1, w1⟩
  refine wpAny_passesOwn hp (thn (hc pins s1 σ1 H1 _ I1 (turn n σ1 H1 w1)) fun b s2 ⟨H2, I2, q2⟩ => ?_)
  cases b with
  | true =>
    obtain ⟨N, hN, q2⟩ := q2
    rw [if_pos rfl]
    refine wpAny_passesOwn hp (thn (hb pins s2 σ1 H2 _ I2 q2) fun f s3 q3 => ?_)
    cases f with
    | next =>
      obtain ⟨σ3, H3, I3, n3⟩ := q3
      obtain ⟨m', hm, w3⟩ := hN σ3 H3 n3
      exact ⟨m', hm, σ3, H3, I3, w3⟩
    | cont =>
      obtain ⟨σ3, H3, I3, n3⟩ := q3
      obtain ⟨m', hm, w3⟩ := hN σ3 H3 n3
      exact ⟨m', hm, σ3, H3, I3, w3⟩
    | brk => exact q3
    | ret v => exact q3
  | false =>
    rw [if_neg Bool.false_ne_true]
    exact wpAny_execs_nil ⟨σ1, H2, I2, q2⟩
end

structure It where
  go : Nat → Hp → Prop
  yld : Nat → Hp → V → Hp → Prop
  stop : Nat → Hp → Prop
noncomputable def FpOk (X : Cx) (pins : List (Addr × Obj)) (H : Hp) (b : Addr) : Prop :=
  H b = none ∧ b ≠ X.env.locals ∧ b ∉ X.fs ∧ (b ∈ X.ex ∨ X.s₀.heap.objs.size ≤ b) ∧ (∀ x c, X.env.cells.lookup x = some c → c ≠ b) ∧ ∀ p ∈ X.pn ++ pins, p.1 ≠ b
theorem Inv.fpOk {X : Cx} {pins : List (Addr × Obj)} {σ : St} {H H' : Hp} {s : Shared} {b : Addr} (I : Inv X pins σ H s) (hb : s.heap.objs.size ≤ b) (hn : H' b = none) : FpOk X pins H' b := by
  refine ⟨hn, Nat.ne_of_gt (Nat.lt_of_lt_of_le I.lt hb), I.nofs hb, .inr (Nat.le_trans I.sz hb), fun x c e z => ?_, fun p hp z => ?_⟩
  · obtain ⟨v, q⟩ := I.cell x c e
    exact absurd (Nat.lt_of_lt_of_le q.lt (by rw [z]; exact hb)) (Nat.lt_irrefl _)
  · exact absurd (Nat.lt_of_lt_of_le (Heap.lt_size (I.pin p hp).1) (by rw [z]; exact hb)) (Nat.lt_irrefl _)
structure Turn (P : Program) (w : World) (K : PySem.W.Frag) (tg : Expr) (J : It) (fp : List Addr) (it : Addr) (tn : Nat → Heap → Prop) : Prop where
  mem : it ∈ fp
  obj : ∀ i h, tn i h → ∀ b ∈ fp, ∃ o, h.get? b = some o ∧ ∀ v, o.data ≠ .cell v
  keep : ∀ i h h', tn i h → (∀ b ∈ fp, ∀ o, h.get? b = some o → h'.get? b = some o) → tn i h'
  item : ∀ (X : Cx), X.prog = P → X.w = w → X.K = K → X.calm = true → ∀ (i : Nat) (pins : List (Addr × Obj)) (s : Shared) (σ : St) (H : Hp) (E : Value → Shared → Prop), Inv X pins σ H s → (∀ b ∈ fp, FpOk X pins H b) → tn i s.heap → J.go i H →
    wpAny (model P w) X.A (pyNext (.ref it)) (fun r s1 => ∃ u, r = some u ∧
      wpAny (model P w) X.A (letOwnedTupleGo tg (.ref it) u) (fun _ s2 => ∃ x H', Inv X pins σ H' s2 ∧ RelV x u ∧ J.yld i H x H' ∧ tn (i + 1) s2.heap ∧ ∀ b ∈ fp, H' b = none) E s1) E s
  done : ∀ (X : Cx), X.prog = P → X.w = w → X.K = K → X.calm = true → ∀ (i : Nat) (pins : List (Addr × Obj)) (s : Shared) (σ : St) (H : Hp) (E : Value → Shared → Prop), Inv X pins σ H s → (∀ b ∈ fp, FpOk X pins H b) → tn i s.heap → J.stop i H →
    wpAny (model P w) X.A (pyNext (.ref it)) (fun r s1 => r = none ∧ Inv X pins σ H s1) E s
  self : ∀ (A : Around) (i : Nat) (s : Shared) (Q : Value → Shared → Prop) (E : Value → Shared → Prop), tn i s.heap → Q (.ref it) s → wpAny (model P w) A (pyIter (.ref it)) Q E s
noncomputable abbrev TI := St → Hp → (It → Hp → Prop) → Prop
noncomputable def PIE (X : Cx) (pins : List (Addr × Obj)) (σ : St) (tg : Expr) (R : It → Hp → Prop) (itv : Value) (s2 : Shared) : Prop :=
  ∃ (it : Addr) (fp : List Addr) (tn : Nat → Heap → Prop) (J : It) (H' : Hp), itv = .ref it ∧ Inv X pins σ H' s2 ∧ Turn X.prog X.w X.K tg J fp it tn ∧ tn 0 s2.heap ∧ (∀ b ∈ fp, FpOk X pins H' b) ∧ R J H'
noncomputable def PI (X : Cx) (tg iter : Expr) (wi : TI) : Prop :=
  ∀ (pins : List (Addr × Obj)) (s : Shared) (σ : St) (H : Hp) (R : It → Hp → Prop), Inv X pins σ H s → wi σ H R →
    wpAny (model X.prog X.w) X.A (eval iter X.env) (fun v s1 => wpAny (model X.prog X.w) X.A (pyIter v) (PIE X pins σ tg R) X.xe s1) X.xe s

theorem go_of {M : Model} {A : Around} {E : Value → Shared → Prop} {s : Shared} {tg : Expr} {it : Addr} {u : Value} {o : Obj} {n : String} {vs : Array Value} {Q : Unit → Shared → Prop} (ho : s.heap.get? it = some o) (hc : o.cls = .type n) (hd : o.data = .fields vs)
    (hn : ["enumerate", "zip", "dict_itemiterator", "dict_reverseitemiterator", "odict_iterator", "itertools.zip_longest", "itertools.pairwise"].contains n = false) (hQ : Q () s) : wpAny M A (letOwnedTupleGo tg (.ref it) u) Q E s := by
  unfold letOwnedTupleGo
  cases tg <;> first
    | exact wpAny_pure hQ
    | (cases u <;> first
        | exact wpAny_pure hQ
        | (refine wpAny_bind (wpAny_load ho ?_)
           rw [hc, hd]
           show wpAny M A (if (["enumerate", "zip", "dict_itemiterator", "dict_reverseitemiterator", "odict_iterator", "itertools.zip_longest", "itertools.pairwise"].contains n && vs[0]? == some (rawInt _)) = true then _ else _) Q E s
           rw [if_neg (by intro h; rw [hn, Bool.false_and] at h; cases h)]
           exact wpAny_pure hQ))

noncomputable def Itl (K : PySem.W.Frag) (a : Addr) : It :=
  ⟨fun i H => ∃ xs x, SqL K H a xs ∧ xs[i]? = some x, fun i H x H' => H' = H ∧ ∀ xs, SqL K H a xs → xs[i]? = some x, fun i H => ∃ xs, SqL K H a xs ∧ xs.length ≤ i⟩
noncomputable def Itt (K : PySem.W.Frag) (a : Addr) : It :=
  ⟨fun i H => ∃ xs x, SqT K H a xs ∧ xs[i]? = some x, fun i H x H' => H' = H ∧ ∀ xs, SqT K H a xs → xs[i]? = some x, fun i H => ∃ xs, SqT K H a xs ∧ xs.length ≤ i⟩
noncomputable def Itr (lo : Int) (n : Nat) : It := ⟨fun i _ => i < n, fun i H x H' => H' = H ∧ x = .int (lo + i), fun i _ => n ≤ i⟩
theorem turn_list {P : Program} {w : World} {K : PySem.W.Frag} {tg : Expr} (a it : Addr) : Turn P w K tg (Itl K a) [it] it (fun i h => h.IsListIter it a i) where
  mem := by simp
  obj := fun i h st b hb => by
    have e : b = it := by simpa using hb
    subst e
    obtain ⟨o, e, c, d⟩ := st
    exact ⟨o, e, fun v z => by rw [d] at z; cases z⟩
  keep := fun i h h' st k => st.at fun o e => k it (by simp) o e
  item := by
    intro X hP hw hK hc i pins s σ H E I hf st hg
    subst hP hw hK
    obtain ⟨xs, x, hq, hx⟩ := hg
    obtain ⟨its, rv, p, hz⟩ := I.list hq
    obtain ⟨u, hu, ru⟩ := rv.get hx
    obtain ⟨f0, f1, f2, f3, f4, f5⟩ := hf it (by simp)
    refine wpAny_pyNext_list_item st p.isList (x := u) (by simpa using hu) fun h' st' sb => ?_
    have I1 : Inv X pins σ H { s with heap := h' } := I.turned (t' := s.toks) (fun b o hb e => (sb.2 b hb).trans e) f0 f1 f3 f4 f5
    obtain ⟨o, e, c, d⟩ := id st'
    exact ⟨u, rfl, go_of (s := { s with heap := h' }) e c d (by decide) ⟨x, H, I1, ru, ⟨rfl, fun ys hy => by rw [I.list_inj hy hq]; exact hx⟩, st', fun b hb => (hf b hb).1⟩⟩
  done := by
    intro X hP hw hK hc i pins s σ H E I hf st hg
    subst hP hw hK
    obtain ⟨xs, hq, hx⟩ := hg
    obtain ⟨its, rv, p, hz⟩ := I.list hq
    obtain ⟨f0, f1, f2, f3, f4, f5⟩ := hf it (by simp)
    have hl := rv.length
    exact wpAny_pyNext_list_end (I.ok.hd hc) st p.isList (by simp; omega) fun h' eb => ⟨rfl, I.turned (t' := s.toks) (fun b o hb e => eb b o hb e) f0 f1 f3 f4 f5⟩
  self := fun _ _ _ _ _ st h => wpAny_pyIter_listiter st h
theorem turn_tuple {P : Program} {w : World} {K : PySem.W.Frag} {tg : Expr} (a it : Addr) : Turn P w K tg (Itt K a) [it] it (fun i h => h.IsTupleIter it a i) where
  mem := by simp
  obj := fun i h st b hb => by
    have e : b = it := by simpa using hb
    subst e
    obtain ⟨o, e, c, d⟩ := st
    exact ⟨o, e, fun v z => by rw [d] at z; cases z⟩
  keep := fun i h h' st k => st.at fun o e => k it (by simp) o e
  item := by
    intro X hP hw hK hc i pins s σ H E I hf st hg
    subst hP hw hK
    obtain ⟨xs, x, hq, hx⟩ := hg
    obtain ⟨its, rv, p, hz⟩ := I.tuple hq
    obtain ⟨u, hu, ru⟩ := rv.get hx
    obtain ⟨f0, f1, f2, f3, f4, f5⟩ := hf it (by simp)
    refine wpAny_pyNext_tuple_item st (show s.heap.IsTuple a its.toArray from p) (x := u) (by simpa using hu) fun h' st' sb => ?_
    have I1 : Inv X pins σ H { s with heap := h' } := I.turned (t' := s.toks) (fun b o hb e => (sb.2 b hb).trans e) f0 f1 f3 f4 f5
    obtain ⟨o, e, c, d⟩ := id st'
    exact ⟨u, rfl, go_of (s := { s with heap := h' }) e c d (by decide) ⟨x, H, I1, ru, ⟨rfl, fun ys hy => by rw [I.tuple_inj hy hq]; exact hx⟩, st', fun b hb => (hf b hb).1⟩⟩
  done := by
    intro X hP hw hK hc i pins s σ H E I hf st hg
    subst hP hw hK
    obtain ⟨xs, hq, hx⟩ := hg
    obtain ⟨its, rv, p, hz⟩ := I.tuple hq
    obtain ⟨f0, f1, f2, f3, f4, f5⟩ := hf it (by simp)
    have hl := rv.length
    exact wpAny_pyNext_tuple_end (I.ok.hd hc) st (show s.heap.IsTuple a its.toArray from p) (by simp; omega) fun h' eb => ⟨rfl, I.turned (t' := s.toks) (fun b o hb e => eb b o hb e) f0 f1 f3 f4 f5⟩
  self := fun _ _ _ _ _ st h => wpAny_pyIter_tupleiter st h
theorem turn_range {P : Program} {w : World} {K : PySem.W.Frag} {tg : Expr} (it : Addr) (lo : Int) (n : Nat) : Turn P w K tg (Itr lo n) [it] it (fun i h => IsRangeIter h it (lo + (i : Nat) * 1) ((n : Int) - (i : Nat)) 1) where
  mem := by simp
  obj := fun i h st b hb => by
    have e : b = it := by simpa using hb
    subst e
    exact ⟨_, st, fun v z => by
      have z' : Data.fields _ = Data.cell v := z
      cases z'⟩
  keep := fun i h h' st k => k it (by simp) _ st
  item := by
    intro X hP hw hK hc i pins s σ H E I hf st hg
    subst hP hw hK
    obtain ⟨f0, f1, f2, f3, f4, f5⟩ := hf it (by simp)
    have W := Walks.range (prog := X.prog) (w := X.w) (I.ok.hd hc) it lo 1 n
    refine W.item i s _ _ hg st fun v h' tk hv st' kk => ?_
    obtain ⟨t, rfl⟩ := hv
    have I1 : Inv X pins σ H { s with heap := h', toks := tk } := I.turned (fun b o hb e => kk b o (by simpa using hb) e) f0 f1 f3 f4 f5
    refine ⟨_, rfl, go_of (s := { s with heap := h', toks := tk }) (n := "range_iterator") st' rfl rfl (by decide) ⟨.int (lo + i), H, I1, ⟨t, ?_⟩, ⟨rfl, rfl⟩, st', fun b hb => (hf b hb).1⟩⟩
    rw [Int.mul_one]
  done := by
    intro X hP hw hK hc i pins s σ H E I hf st hg
    subst hP hw hK
    obtain ⟨f0, f1, f2, f3, f4, f5⟩ := hf it (by simp)
    exact wpAny_pyNext_range_end (I.ok.hd hc) st (by have : n ≤ i := hg; omega) fun h' eb => ⟨rfl, I.turned (t' := s.toks) (fun b o hb e => eb b o hb e) f0 f1 f3 f4 f5⟩
  self := fun _ _ _ _ _ st h => wpAny_pyIter_rangeiter st h
end L2

namespace L2
open PySem PySem.Spec PyProof.Rows
section
variable {X : Cx} {tg : Expr}
noncomputable def iList (K : PySem.W.Frag) (tl : TE) : TI := fun σ H R => tl σ H fun x H1 => ∃ a, x = .ref a ∧ (∃ xs, SqL K H1 a xs) ∧ R (Itl K a) H1
noncomputable def iTup (K : PySem.W.Frag) (tl : TE) : TI := fun σ H R => tl σ H fun x H1 => ∃ a, x = .ref a ∧ (∃ xs, SqT K H1 a xs) ∧ R (Itt K a) H1
theorem pi_list {l : Expr} {tl : TE} (hl : PE X l tl) : PI X tg l (iList X.K tl) := by
  intro pins s σ H R I h
  refine thn (hl pins s σ H _ I h) fun v s1 ⟨x, H1, I1, r1, q1⟩ => ?_
  obtain ⟨a, e, ⟨xs, hq⟩, q⟩ := q1
  subst e
  cases r1
  obtain ⟨its, rv, p, hz⟩ := I1.list hq
  refine wpAny_pyIter_list p.isList ?_
  refine ⟨s1.heap.objs.size, [s1.heap.objs.size], _, _, H1, rfl, I1.kept (t' := s1.toks) fun b o e => Heap.get?_push_of_some _ e, turn_list a _, ⟨_, Heap.get?_push_size _ rfl, rfl, rfl⟩, fun b hb => ?_, q⟩
  have e : b = s1.heap.objs.size := by simpa using hb
  subst e
  exact I1.fpOk (Nat.le_refl _) (I1.hok.fresh (Nat.le_refl _))
theorem pi_tup {l : Expr} {tl : TE} (hl : PE X l tl) : PI X tg l (iTup X.K tl) := by
  intro pins s σ H R I h
  refine thn (hl pins s σ H _ I h) fun v s1 ⟨x, H1, I1, r1, q1⟩ => ?_
  obtain ⟨a, e, ⟨xs, hq⟩, q⟩ := q1
  subst e
  cases r1
  obtain ⟨its, rv, p, hz⟩ := I1.tuple hq
  refine wpAny_pyIter_tuple (show s1.heap.IsTuple a its.toArray from p) ?_
  refine ⟨s1.heap.objs.size, [s1.heap.objs.size], _, _, H1, rfl, I1.kept (t' := s1.toks) fun b o e => Heap.get?_push_of_some _ e, turn_tuple a _, ⟨_, Heap.get?_push_size _ rfl, rfl, rfl⟩, fun b hb => ?_, q⟩
  have e : b = s1.heap.objs.size := by simpa using hb
  subst e
  exact I1.fpOk (Nat.le_refl _) (I1.hok.fresh (Nat.le_refl _))
theorem range_it {pins : List (Addr × Obj)} {σ : St} {H : Hp} {s : Shared} {R : It → Hp → Prop} {E : Value → Shared → Prop} {lo hi : Int} {t u v : Tok} {tk : Nat} (I : Inv X pins σ H s) (h1 : -(2 ^ 62) ≤ lo) (h2 : lo < 2 ^ 62) (h3 : -(2 ^ 62) ≤ hi) (h4 : hi < 2 ^ 62)
    (q : R (Itr lo (hi - lo).toNat) H) : wpAny (model X.prog X.w) X.A (pyIter (.ref s.heap.objs.size)) (PIE X pins σ tg R) E { s with heap := s.heap.push { cls := .type "range", data := .fields #[.int lo t, .int hi u, .int 1 v] }, toks := tk } := by
  refine wpAny_pyIter_range (IsRange.new ..) (small_one h1 h2 h3 h4) ?_
  have I1 : Inv X pins σ H { s with heap := s.heap.push { cls := .type "range", data := .fields #[.int lo t, .int hi u, .int 1 v] }, toks := tk } := I.kept fun b o e => Heap.get?_push_of_some _ e
  refine ⟨(s.heap.push { cls := .type "range", data := .fields #[.int lo t, .int hi u, .int 1 v] }).objs.size, [(s.heap.push { cls := .type "range", data := .fields #[.int lo t, .int hi u, .int 1 v] }).objs.size], _, _, H, rfl,
    I1.kept (t' := tk) fun b o e => Heap.get?_push_of_some _ e, turn_range _ lo (hi - lo).toNat, ?_, fun b hb => ?_, q⟩
  · have e1 : lo + ((0 : Nat) : Int) * 1 = lo := by simp
    have e2 : (((hi - lo).toNat : Nat) : Int) - ((0 : Nat) : Int) = Builtin.Range.rangeSize lo hi 1 := by rw [rangeSize_one]; split <;> omega
    show IsRangeIter _ _ (lo + ((0 : Nat) : Int) * 1) ((((hi - lo).toNat : Nat) : Int) - ((0 : Nat) : Int)) 1
    rw [e1, e2]
    exact Heap.get?_push_size _ rfl
  · have e : b = (s.heap.push { cls := .type "range", data := .fields #[.int lo t, .int hi u, .int 1 v] }).objs.size := by simpa using hb
    subst e
    exact I1.fpOk (Nat.le_refl _) (I1.hok.fresh (Nat.le_refl _))
noncomputable def iRng1 (ta : TA) : TI := fun σ H R => ta σ H fun vs H1 => ∃ j : Int, vs = [.int j] ∧ -(2 ^ 62) ≤ j ∧ j < 2 ^ 62 ∧ R (Itr 0 j.toNat) H1
noncomputable def iRng2 (ta : TA) : TI := fun σ H R => ta σ H fun vs H1 => ∃ i j : Int, vs = [.int i, .int j] ∧ (-(2 ^ 62) ≤ i ∧ i < 2 ^ 62 ∧ -(2 ^ 62) ≤ j ∧ j < 2 ^ 62) ∧ R (Itr i (j - i).toNat) H1
theorem pi_range1 {a : Expr} {ta : TA} {p pos : Pos} (hg : Gl X "range") (hm : X.mg "range" = none) (ha : PA X [a] ta) (hs : starEach [a] X.env = [(false, eval a X.env)] := by rfl) : PI X tg (.Call (.Name "range" p) [a] [] pos) (iRng1 ta) := by
  intro pins s σ H R I h
  refine Call_ (ld_blt I hg hm boot_range (PyProof.Rows.callWith_type1 (thn (ha pos pins s σ H _ I h) fun us s1 ⟨vs, H1, I1, r1, q1⟩ => ?_) hs rfl))
  obtain ⟨j, e, q1, q2, q⟩ := q1
  subst e
  cases r1 with
  | cons r rr =>
    cases rr
    obtain ⟨t, rfl⟩ := r
    exact call_range_1 (range_it I1 (by omega) (by omega) q1 q2 (by simpa using q))
theorem pi_range2 {a b : Expr} {ta : TA} {p pos : Pos} (hg : Gl X "range") (hm : X.mg "range" = none) (ha : PA X [a, b] ta) (hs : starEach [a, b] X.env = [(false, eval a X.env), (false, eval b X.env)] := by rfl) (hs2 : starEach [b] X.env = [(false, eval b X.env)] := by rfl) :
    PI X tg (.Call (.Name "range" p) [a, b] [] pos) (iRng2 ta) := by
  intro pins s σ H R I h
  refine Call_ (ld_blt I hg hm boot_range (PyProof.Rows.callWith_type1 (thn (ha pos pins s σ H _ I h) fun us s1 ⟨vs, H1, I1, r1, q1⟩ => ?_) (by rw [hs, hs2]) (by rw [hs2]; rfl)))
  obtain ⟨i, j, e, ⟨q1, q2, q3, q4⟩, q⟩ := q1
  subst e
  cases r1 with
  | cons r rr =>
    cases rr with
    | cons r' rr =>
      cases rr
      obtain ⟨t, rfl⟩ := r
      obtain ⟨t', rfl⟩ := r'
      exact call_range_2 (range_it I1 q1 q2 q3 q4 q)

noncomputable def tFor (wi : TI) (g : TG) (tb : TS) : TS := fun D σ H => wi σ H fun J H1 => ∃ W : Nat → Nat → St → Hp → Prop, (∃ m, W 0 m σ H1) ∧ ∀ i m σ H, W i m σ H →
  (J.stop i H ∧ D.nx σ H) ∨ (J.go i H ∧ ∃ N : St → Hp → Prop, (∀ σ' H', N σ' H' → ∃ m', m' < m ∧ W (i + 1) m' σ' H') ∧ ∀ x H', J.yld i H x H' → g x σ H' fun σ2 H2 => tb { D with nx := N, ct := N, bk := D.nx } σ2 H2)
noncomputable def pinsAt (fp : List Addr) (h : Heap) : List (Addr × Obj) := fp.filterMap fun b => (h.get? b).map fun o => (b, o)
theorem mem_pinsAt {fp : List Addr} {h : Heap} {b : Addr} {o : Obj} (hb : b ∈ fp) (e : h.get? b = some o) : (b, o) ∈ pinsAt fp h := List.mem_filterMap.mpr ⟨b, hb, by rw [e]; rfl⟩
theorem of_pinsAt {fp : List Addr} {h : Heap} {p : Addr × Obj} (hp : p ∈ pinsAt fp h) : p.1 ∈ fp ∧ h.get? p.1 = some p.2 := by
  obtain ⟨b, hb, e⟩ := List.mem_filterMap.mp hp
  cases q : h.get? b with
  | none => rw [q] at e; cases e
  | some o =>
    rw [q] at e
    have e' : (b, o) = p := Option.some.inj e
    subst e'
    exact ⟨hb, q⟩
theorem Inv.pinned {pins : List (Addr × Obj)} {σ : St} {H : Hp} {s : Shared} {fp : List Addr} (I : Inv X pins σ H s) (hf : ∀ b ∈ fp, FpOk X pins H b) (ho : ∀ b ∈ fp, ∃ o, s.heap.get? b = some o ∧ ∀ v, o.data ≠ .cell v) : Inv X (pins ++ pinsAt fp s.heap) σ H s :=
  I.pins_of fun p hp => (List.mem_append.mp hp).elim (fun z => I.pin p (List.mem_append_right _ z)) fun z => by
    obtain ⟨hb, e⟩ := of_pinsAt z
    obtain ⟨f0, f1, f2, _⟩ := hf p.1 hb
    obtain ⟨o, e', d⟩ := ho p.1 hb
    rw [e] at e'; cases e'
    exact ⟨e, f0, f1, f2, d⟩
theorem Inv.unpinned {pins pl : List (Addr × Obj)} {σ : St} {H : Hp} {s : Shared} (I : Inv X (pins ++ pl) σ H s) : Inv X pins σ H s := I.pins_of fun p hp => I.pin p (List.mem_append_right _ (List.mem_append_left _ hp))
theorem ps_for {iter : Expr} {body : List Stmt} {wi : TI} {g : TG} {tb : TS} {pos : Pos} (hp : PassesOwn (model X.prog X.w) X.A X.env X.xe) (hc : X.calm = true) (hi : PI X tg iter wi) (hg : PG X tg g) (hb : PSs X body tb)
    (hs : ∀ x, foldedSetIterable iter X.env x = pure x := by intro _; rfl) : PS X (.For tg iter body [] pos) (tFor wi g tb) := by
  intro pins s σ H D I h
  refine wpAny_For (thn (hi pins s σ H _ I h) fun v s1 h1 => thn h1 fun itv s2 h2 => ?_) hs
  obtain ⟨it, fp, tn, J, H2, e, I2, T, st2, f2, W, ⟨m0, w0⟩, turn⟩ := h2
  subst e
  -- what stays true of the iterator's objects through the loop
  have stat : ∀ {H' : Hp}, (∀ b ∈ fp, H' b = none) → ∀ b ∈ fp, FpOk X pins H' b := fun hn b hb => ⟨hn b hb, (f2 b hb).2⟩
  refine codeAny_forLoop_any (fun n s' => ∃ i σ' H', Inv X pins σ' H' s' ∧ tn i s'.heap ∧ (∀ b ∈ fp, H' b = none) ∧ W i n σ' H') ?_ m0 ⟨0, σ, H2, I2, st2, fun b hb => (f2 b hb).1, w0⟩
  rintro n s3 ⟨i, σ3, H3, I3, st3, fr3, w3⟩
  rcases turn i n σ3 H3 w3 with ⟨stop, qn⟩ | ⟨go, N, hN, step⟩
  · refine wpAny_passesOwn hp (thn (T.done X rfl rfl rfl hc i pins s3 σ3 H3 X.xe I3 (stat fr3) st3 stop) fun r s4 ⟨hr, I4⟩ => ?_)
    subst hr
    exact wpAny_execs_nil ⟨σ3, H3, I4, qn⟩
  · refine wpAny_passesOwn hp (thn (T.item X rfl rfl rfl hc i pins s3 σ3 H3 X.xe I3 (stat fr3) st3 go) fun r s4 ⟨u, hr, h4⟩ => ?_)
    subst hr
    refine wpAny_passesOwn hp (thn h4 fun _ s5 ⟨x, H5, I5, r5, y5, st5, fr5⟩ => ?_)
    have I5' := I5.pinned (stat fr5) (T.obj _ _ st5)
    refine wpAny_passesOwn hp (thn (hg _ s5 σ3 H5 x u _ I5' r5 (step x H5 y5)) fun _ s6 ⟨σ6, H6, I6, q6⟩ => ?_)
    refine wpAny_passesOwn hp (thn (hb _ s6 σ6 H6 _ I6 q6) fun f s7 q7 => ?_)
    have again : ∀ {σ7 : St} {H7 : Hp}, Inv X (pins ++ pinsAt fp s5.heap) σ7 H7 s7 → N σ7 H7 → ∃ m, m < n ∧ ∃ i σ' H', Inv X pins σ' H' s7 ∧ tn i s7.heap ∧ (∀ b ∈ fp, H' b = none) ∧ W i m σ' H' := fun {σ7 H7} I7 n7 => by
      obtain ⟨m', hm, w7⟩ := hN σ7 H7 n7
      refine ⟨m', hm, i + 1, σ7, H7, I7.unpinned, T.keep _ _ _ st5 fun b hb o e => (I7.pin (b, o) (List.mem_append_right _ (List.mem_append_right _ (mem_pinsAt hb e)))).1, fun b hb => ?_, w7⟩
      obtain ⟨o, e, d⟩ := T.obj _ _ st5 b hb
      exact (I7.pin (b, o) (List.mem_append_right _ (List.mem_append_right _ (mem_pinsAt hb e)))).2.1
    cases f with
    | next => obtain ⟨σ7, H7, I7, n7⟩ := q7; exact again I7 n7
    | cont => obtain ⟨σ7, H7, I7, n7⟩ := q7; exact again I7 n7
    | brk => obtain ⟨σ7, H7, I7, q7⟩ := q7; exact ⟨σ7, H7, I7.unpinned, q7⟩
    | ret v => obtain ⟨x7, σ7, H7, I7, r7, q7⟩ := q7; exact ⟨x7, σ7, H7, I7.unpinned, r7, q7⟩
end

theorem for_list {K : PySem.W.Frag} {a : Addr} {xs : List V} {g : TG} {tb : TS} {D : Ends} {σ : St} {H : Hp} (Pv : Nat → St → Hp → Prop) (h0 : Pv 0 σ H) (hl : ∀ i σ H, i ≤ xs.length → Pv i σ H → SqL K H a xs)
    (hs : ∀ i x σ H, xs[i]? = some x → Pv i σ H → g x σ H fun σ2 H2 => tb { D with nx := Pv (i + 1), ct := Pv (i + 1), bk := D.nx } σ2 H2) (hd : ∀ σ H, Pv xs.length σ H → D.nx σ H) :
    ∃ W : Nat → Nat → St → Hp → Prop, (∃ m, W 0 m σ H) ∧ ∀ i m σ H, W i m σ H →
      ((Itl K a).stop i H ∧ D.nx σ H) ∨ ((Itl K a).go i H ∧ ∃ N : St → Hp → Prop, (∀ σ' H', N σ' H' → ∃ m', m' < m ∧ W (i + 1) m' σ' H') ∧ ∀ x H', (Itl K a).yld i H x H' → g x σ H' fun σ2 H2 => tb { D with nx := N, ct := N, bk := D.nx } σ2 H2) := by
  refine ⟨fun i m σ H => m = xs.length - i ∧ i ≤ xs.length ∧ Pv i σ H, ⟨xs.length, by simp, Nat.zero_le _, h0⟩, ?_⟩
  rintro i m σ H ⟨rfl, hi, p⟩
  have q := hl i σ H hi p
  by_cases hlt : i < xs.length
  · refine .inr ⟨⟨xs, xs[i], q, by simp [hlt]⟩, Pv (i + 1), fun σ' H' p' => ⟨xs.length - (i + 1), by omega, rfl, hlt, p'⟩, fun x H' y => ?_⟩
    obtain ⟨e, y⟩ := y
    subst e
    exact hs i x σ _ (y xs q) p
  · have e : i = xs.length := by omega
    subst e
    exact .inl ⟨⟨xs, q, Nat.le_refl _⟩, hd σ H p⟩
theorem for_tup {K : PySem.W.Frag} {a : Addr} {xs : List V} {g : TG} {tb : TS} {D : Ends} {σ : St} {H : Hp} (Pv : Nat → St → Hp → Prop) (h0 : Pv 0 σ H) (hl : ∀ i σ H, i ≤ xs.length → Pv i σ H → SqT K H a xs)
    (hs : ∀ i x σ H, xs[i]? = some x → Pv i σ H → g x σ H fun σ2 H2 => tb { D with nx := Pv (i + 1), ct := Pv (i + 1), bk := D.nx } σ2 H2) (hd : ∀ σ H, Pv xs.length σ H → D.nx σ H) :
    ∃ W : Nat → Nat → St → Hp → Prop, (∃ m, W 0 m σ H) ∧ ∀ i m σ H, W i m σ H →
      ((Itt K a).stop i H ∧ D.nx σ H) ∨ ((Itt K a).go i H ∧ ∃ N : St → Hp → Prop, (∀ σ' H', N σ' H' → ∃ m', m' < m ∧ W (i + 1) m' σ' H') ∧ ∀ x H', (Itt K a).yld i H x H' → g x σ H' fun σ2 H2 => tb { D with nx := N, ct := N, bk := D.nx } σ2 H2) := by
  refine ⟨fun i m σ H => m = xs.length - i ∧ i ≤ xs.length ∧ Pv i σ H, ⟨xs.length, by simp, Nat.zero_le _, h0⟩, ?_⟩
  rintro i m σ H ⟨rfl, hi, p⟩
  have q := hl i σ H hi p
  by_cases hlt : i < xs.length
  · refine .inr ⟨⟨xs, xs[i], q, by simp [hlt]⟩, Pv (i + 1), fun σ' H' p' => ⟨xs.length - (i + 1), by omega, rfl, hlt, p'⟩, fun x H' y => ?_⟩
    obtain ⟨e, y⟩ := y
    subst e
    exact hs i x σ _ (y xs q) p
  · have e : i = xs.length := by omega
    subst e
    exact .inl ⟨⟨xs, q, Nat.le_refl _⟩, hd σ H p⟩
theorem for_range {lo : Int} {n : Nat} {g : TG} {tb : TS} {D : Ends} {σ : St} {H : Hp} (Pv : Nat → St → Hp → Prop) (h0 : Pv 0 σ H)
    (hs : ∀ i σ H, i < n → Pv i σ H → g (.int (lo + i)) σ H fun σ2 H2 => tb { D with nx := Pv (i + 1), ct := Pv (i + 1), bk := D.nx } σ2 H2) (hd : ∀ σ H, Pv n σ H → D.nx σ H) :
    ∃ W : Nat → Nat → St → Hp → Prop, (∃ m, W 0 m σ H) ∧ ∀ i m σ H, W i m σ H →
      ((Itr lo n).stop i H ∧ D.nx σ H) ∨ ((Itr lo n).go i H ∧ ∃ N : St → Hp → Prop, (∀ σ' H', N σ' H' → ∃ m', m' < m ∧ W (i + 1) m' σ' H') ∧ ∀ x H', (Itr lo n).yld i H x H' → g x σ H' fun σ2 H2 => tb { D with nx := N, ct := N, bk := D.nx } σ2 H2) := by
  refine ⟨fun i m σ H => m = n - i ∧ i ≤ n ∧ Pv i σ H, ⟨n, by simp, Nat.zero_le _, h0⟩, ?_⟩
  rintro i m σ H ⟨rfl, hi, p⟩
  by_cases hlt : i < n
  · refine .inr ⟨hlt, Pv (i + 1), fun σ' H' p' => ⟨n - (i + 1), by omega, rfl, hlt, p'⟩, fun x H' y => ?_⟩
    obtain ⟨e, y⟩ := y
    subst e y
    exact hs i σ _ hlt p
  · have e : i = n := by omega
    subst e
    exact .inl ⟨Nat.le_refl _, hd σ H p⟩
theorem while_by {c : TT} {tb : TS} {D : Ends} {σ : St} {H : Hp} (Pv : St → Hp → Prop) (μ : St → Hp → Nat) (h0 : Pv σ H)
    (hs : ∀ σ H, Pv σ H → c σ H fun b H1 => if b = true then tb { D with nx := fun σ' H' => Pv σ' H' ∧ μ σ' H' < μ σ H, ct := fun σ' H' => Pv σ' H' ∧ μ σ' H' < μ σ H, bk := D.nx } σ H1 else D.nx σ H1)
    (mono : ∀ σ H Q Q', (∀ b H1, Q b H1 → Q' b H1) → c σ H Q → c σ H Q') : tWhile c tb D σ H := by
  refine ⟨fun m σ H => m = μ σ H ∧ Pv σ H, ⟨_, rfl, h0⟩, ?_⟩
  rintro m σ H ⟨rfl, p⟩
  refine mono σ H _ _ (fun b H1 q => ?_) (hs σ H p)
  cases b with
  | true => exact ⟨_, fun σ' H' ⟨p', l⟩ => ⟨_, l, rfl, p'⟩, q⟩
  | false => exact q
end L2

namespace L2
open PySem PySem.Spec PyProof.Rows

noncomputable abbrev R2 := V → V → Hp → VK → Prop
noncomputable def OpR (X : Cx) (f : Value → Value → Sem Value) (r : R2) : Prop :=
  ∀ (pins : List (Addr × Obj)) (s : Shared) (σ : St) (H : Hp) (x y : V) (v u : Value) (Q : VK), Inv X pins σ H s → RelV x v → RelV y u → r x y H Q →
    wpAny (model X.prog X.w) X.A (f v u) (EP X pins σ Q) X.xe s
noncomputable def UnR (X : Cx) (f : Value → Sem Value) (r : V → Hp → VK → Prop) : Prop :=
  ∀ (pins : List (Addr × Obj)) (s : Shared) (σ : St) (H : Hp) (x : V) (v : Value) (Q : VK), Inv X pins σ H s → RelV x v → r x H Q →
    wpAny (model X.prog X.w) X.A (f v) (EP X pins σ Q) X.xe s
noncomputable def CallR (X : Cx) (f : Value) (r : List V → Hp → VK → Prop) : Prop :=
  ∀ (pins : List (Addr × Obj)) (s : Shared) (σ : St) (H : Hp) (xs : List V) (us : List Value) (Q : VK), Inv X pins σ H s → Vals xs us → r xs H Q →
    wpAny (model X.prog X.w) X.A (call f us) (EP X pins σ Q) X.xe s

noncomputable def tOp (r : R2) (ta tb : TE) : TE := fun σ H Q => ta σ H fun x H1 => tb σ H1 fun y H2 => r x y H2 Q
noncomputable def tUn (r : V → Hp → VK → Prop) (ta : TE) : TE := fun σ H Q => ta σ H fun x H1 => r x H1 Q
noncomputable def rI (C : Int → Int → Prop) (g : Int → Int → V) : R2 := fun x y H Q => ∃ i j, x = .int i ∧ y = .int j ∧ C i j ∧ Q (g i j) H
noncomputable def rI0 (g : Int → Int → V) : R2 := fun x y H Q => ∃ i j, x = .int i ∧ y = .int j ∧ Q (g i j) H
noncomputable def rU (g : Int → V) : V → Hp → VK → Prop := fun x H Q => ∃ i, x = .int i ∧ Q (g i) H

section
variable {X : Cx} {a b c : Expr} {ta tb tc : TE} {pos : Pos}

theorem binT (ha : PE X a ta) (hb : PE X b tb) {pins : List (Addr × Obj)} {s : Shared} {σ : St} {H : Hp} {R : V → V → Hp → Prop} (I : Inv X pins σ H s)
    (h : ta σ H fun x H1 => tb σ H1 fun y H2 => R x y H2) {Q : Value → Shared → Prop} {f : Value → Value → Sem Value}
    (hf : ∀ v u s2 x y H2, Inv X pins σ H2 s2 → RelV x v → RelV y u → R x y H2 → wpAny (model X.prog X.w) X.A (f v u) Q X.xe s2) :
    wpAny (model X.prog X.w) X.A (eval a X.env) (fun v s₁ => wpAny (model X.prog X.w) X.A (eval b X.env) (fun u s₂ => wpAny (model X.prog X.w) X.A (f v u) Q X.xe s₂) X.xe s₁) X.xe s := by
  refine thn (ha pins s σ H _ I h) fun v s1 ⟨x, H1, I1, r1, q1⟩ => ?_
  refine thn (hb pins s1 σ H1 _ I1 q1) fun u s2 ⟨y, H2, I2, r2, q2⟩ => ?_
  exact hf v u s2 x y H2 I2 r1 r2 q2

theorem pe_op {op : Operator} {r : R2} (ho : OpR X (binaryOp op) r) (ha : PE X a ta) (hb : PE X b tb) : PE X (.BinOp a op b pos) (tOp r ta tb) := by
  intro pins s σ H Q I h
  exact wpAny_BinOp (binT ha hb I h fun v u s2 x y H2 I2 rx ry q => ho pins s2 σ H2 x y v u Q I2 rx ry q)
theorem pe_un {op : UnaryOp} {r : V → Hp → VK → Prop} (ho : UnR X (unaryOp op) r) (ha : PE X a ta) : PE X (.UnaryOp op a pos) (tUn r ta) := by
  intro pins s σ H Q I h
  exact UnaryOp_ (thn (ha pins s σ H _ I h) fun v s1 ⟨x, H1, I1, r1, q1⟩ => ho pins s1 σ H1 x v Q I1 r1 q1)

theorem opI {f : Value → Value → Sem Value} {C : Int → Int → Prop} {g : Int → Int → Int}
    (rule : ∀ (i j : Int) (t u : Tok) (s : Shared) (Q : Value → Shared → Prop) (E : Value → Shared → Prop), C i j → Q (.int (g i j) s.toks) { s with toks := s.toks + 1 } → wpAny (model X.prog X.w) X.A (f (.int i t) (.int j u)) Q E s) :
    OpR X f (rI C fun i j => .int (g i j)) := by
  intro pins s σ H x y v u Q I rx ry h
  obtain ⟨i, j, rfl, rfl, hc, q⟩ := h
  obtain ⟨t, rfl⟩ := rx
  obtain ⟨t', rfl⟩ := ry
  exact rule i j t t' s _ _ hc ⟨.int (g i j), H, I.tok _, ⟨_, rfl⟩, q⟩
theorem opI0 {f : Value → Value → Sem Value} {g : Int → Int → Int}
    (rule : ∀ (i j : Int) (t u : Tok) (s : Shared) (Q : Value → Shared → Prop) (E : Value → Shared → Prop), Q (.int (g i j) s.toks) { s with toks := s.toks + 1 } → wpAny (model X.prog X.w) X.A (f (.int i t) (.int j u)) Q E s) :
    OpR X f (rI0 fun i j => .int (g i j)) := by
  intro pins s σ H x y v u Q I rx ry h
  obtain ⟨i, j, rfl, rfl, q⟩ := h
  obtain ⟨t, rfl⟩ := rx
  obtain ⟨t', rfl⟩ := ry
  exact rule i j t t' s _ _ ⟨.int (g i j), H, I.tok _, ⟨_, rfl⟩, q⟩
theorem opB0 {f : Value → Value → Sem Value} {g : Int → Int → Bool}
    (rule : ∀ (i j : Int) (t u : Tok) (s : Shared) (Q : Value → Shared → Prop) (E : Value → Shared → Prop), Q (.bool (g i j)) s → wpAny (model X.prog X.w) X.A (f (.int i t) (.int j u)) Q E s) :
    OpR X f (rI0 fun i j => .bl (g i j)) := by
  intro pins s σ H x y v u Q I rx ry h
  obtain ⟨i, j, rfl, rfl, q⟩ := h
  obtain ⟨t, rfl⟩ := rx
  obtain ⟨t', rfl⟩ := ry
  exact rule i j t t' s _ _ ⟨.bl (g i j), H, I, rfl, q⟩

noncomputable def CDiv (i j : Int) : Prop := 0 < j ∧ j < 1073741824
noncomputable def CPow (i j : Int) : Prop := 0 ≤ j ∧ j ≤ 1000000 ∧ i.natAbs < 2 ^ 64
noncomputable def CMul (i j : Int) : Prop := (-(2 ^ 64) < i ∧ i < 2 ^ 64) ∨ (-(2 ^ 64) < j ∧ j < 2 ^ 64)
theorem CMul.ok {i j : Int} (h : CMul i j) : IntMulOk i j := by
  rcases h with ⟨h1, h2⟩ | ⟨h1, h2⟩
  · exact .of_left (intBits_le_64 h1 h2)
  · exact .of_right (intBits_le_64 h1 h2)

theorem op_add : OpR X (binaryOp .Add) (rI0 fun i j => .int (i + j)) := opI0 fun _ _ _ _ _ _ _ q => add_int q
theorem op_sub : OpR X (binaryOp .Sub) (rI0 fun i j => .int (i - j)) := opI0 fun _ _ _ _ _ _ _ q => sub_int q
theorem op_mul : OpR X (binaryOp .Mult) (rI CMul fun i j => .int (i * j)) := opI fun _ _ _ _ _ _ _ hc q => mul_int q hc.ok
theorem op_fdiv : OpR X (binaryOp .FloorDiv) (rI CDiv fun i j => .int (i / j)) := opI fun i j _ _ _ _ _ hc q => by
  have h1 : (0 : Int) < j := hc.1
  have h2 : j < 1073741824 := hc.2
  exact floordiv_int (by omega) (by rw [Int.fdiv_eq_ediv_of_nonneg i (by omega)]; exact q) (.inl (PyProof.noPylong_small (by omega)))
theorem op_mod : OpR X (binaryOp .Mod) (rI (fun _ j => 0 < j) fun i j => .int (i % j)) := opI fun i j _ _ _ _ _ hc q => by
  have h1 : (0 : Int) < j := hc
  exact mod_int' (by omega) (by rw [Int.fmod_eq_emod_of_nonneg i (by omega)]; exact q)
theorem op_pow : OpR X (binaryOp .Pow) (rI CPow fun i j => .int (i ^ j.toNat)) := opI fun _ _ _ _ _ _ _ hc q => pow_int_small hc.1 hc.2.1 hc.2.2 q


theorem unI {f : Value → Sem Value} {g : Int → Int}
    (rule : ∀ (i : Int) (t : Tok) (s : Shared) (Q : Value → Shared → Prop) (E : Value → Shared → Prop), Q (.int (g i) s.toks) { s with toks := s.toks + 1 } → wpAny (model X.prog X.w) X.A (f (.int i t)) Q E s) :
    UnR X f (rU fun i => .int (g i)) := by
  intro pins s σ H x v Q I rx h
  obtain ⟨i, rfl, q⟩ := h
  obtain ⟨t, rfl⟩ := rx
  exact rule i t s _ _ ⟨.int (g i), H, I.tok _, ⟨_, rfl⟩, q⟩
theorem un_neg : UnR X (unaryOp .USub) (rU fun i => .int (-i)) := unI fun _ _ _ _ _ q => neg_int q

end

noncomputable def scal : V → V → Bool
  | .non, .non => true | .non, .int _ => true | .int _, .non => true | .non, .bl _ => true | .bl _, .non => true | .non, .str _ => true | .str _, .non => true
  | .int _, .int _ => true | .bl _, .bl _ => true | .str _, .str _ => true | .byt _, .byt _ => true
  | .int _, .str _ => true | .str _, .int _ => true | .bl _, .str _ => true | .str _, .bl _ => true
  | _, _ => false
noncomputable def rEq : R2 := fun x y H Q => scal x y = true ∧ Q (.bl (decide (x = y))) H
noncomputable def rNe : R2 := fun x y H Q => scal x y = true ∧ Q (.bl (!decide (x = y))) H

theorem dec_int {i j : Int} : decide (V.int i = V.int j) = (i == j) := by
  rw [Bool.eq_iff_iff]
  simp
theorem dec_bl {i j : Bool} : decide (V.bl i = V.bl j) = (i == j) := by
  rw [Bool.eq_iff_iff]
  simp
theorem dec_str {i j : Str} : decide (V.str i = V.str j) = (i == j) := by
  rw [Bool.eq_iff_iff]
  simp
theorem dec_byt {i j : Array UInt8} : decide (V.byt i = V.byt j) = (i.toList == j.toList) := by
  rw [Bool.eq_iff_iff]
  cases i
  cases j
  simp

section
variable {X : Cx} {a b c : Expr} {ta tb tc : TE} {pos : Pos}
theorem fin_bl {pins : List (Addr × Obj)} {σ : St} {H : Hp} {s : Shared} {Q : VK} {k k' : Bool} (I : Inv X pins σ H s) (q : Q (.bl k) H) (e : k = k') : EP X pins σ Q (.bool k') s := by
  subst e
  exact ⟨.bl k, H, I, rfl, q⟩
theorem op_eq : OpR X (compareOp .Eq) rEq := by
  intro pins s σ H x y v u Q I rx ry h
  obtain ⟨hs, q⟩ := h
  cases x with
  | non =>
    cases rx
    cases y with
    | non => cases ry; exact PySem.EqNone.eq_none_none (fin_bl I q (by simp))
    | bl j => cases ry; exact PySem.EqNone.eq_none_bool (fin_bl I q (by simp))
    | int j => obtain ⟨t', rfl⟩ := ry; exact PySem.EqNone.eq_none_int (fin_bl I q (by simp))
    | str j => obtain ⟨t', rfl⟩ := ry; exact PySem.EqNone.eq_none_str (fin_bl I q (by simp))
    | _ => exact absurd (show false = true from hs) Bool.false_ne_true
  | bl i =>
    cases rx
    cases y with
    | non => cases ry; exact PySem.EqNone.eq_bool_none (fin_bl I q (by simp))
    | bl j => cases ry; exact eq_bool (fin_bl I q dec_bl)
    | str j => obtain ⟨t', rfl⟩ := ry; exact PySem.EqMixed.eq_bool_str (fin_bl I q (by simp))
    | _ => exact absurd (show false = true from hs) Bool.false_ne_true
  | int i =>
    obtain ⟨t, rfl⟩ := rx
    cases y with
    | non => cases ry; exact PySem.EqNone.eq_int_none (fin_bl I q (by simp))
    | int j => obtain ⟨t', rfl⟩ := ry; exact eq_int (fin_bl I q dec_int)
    | str j => obtain ⟨t', rfl⟩ := ry; exact PySem.EqMixed.eq_int_str (fin_bl I q (by simp))
    | _ => exact absurd (show false = true from hs) Bool.false_ne_true
  | str i =>
    obtain ⟨t, rfl⟩ := rx
    cases y with
    | non => cases ry; exact PySem.EqNone.eq_str_none (fin_bl I q (by simp))
    | bl j => cases ry; exact PySem.EqMixed.eq_str_bool (fin_bl I q (by simp))
    | int j => obtain ⟨t', rfl⟩ := ry; exact PySem.EqMixed.eq_str_int (fin_bl I q (by simp))
    | str j => obtain ⟨t', rfl⟩ := ry; exact eq_str (fin_bl I q dec_str)
    | _ => exact absurd (show false = true from hs) Bool.false_ne_true
  | byt i =>
    obtain ⟨t, rfl⟩ := rx
    cases y with
    | byt j => obtain ⟨t', rfl⟩ := ry; exact PySem.W.eq_bytes (fin_bl I q dec_byt)
    | _ => exact absurd (show false = true from hs) Bool.false_ne_true
  | _ => cases y <;> exact absurd (show false = true from hs) Bool.false_ne_true
theorem op_ne : OpR X (compareOp .NotEq) rNe := by
  intro pins s σ H x y v u Q I rx ry h
  obtain ⟨hs, q⟩ := h
  cases x with
  | non =>
    cases rx
    cases y with
    | non => cases ry; exact PySem.EqNone.ne_none_none (fin_bl I q (by simp))
    | bl j => cases ry; exact PySem.EqNone.ne_none_bool (fin_bl I q (by simp))
    | int j => obtain ⟨t', rfl⟩ := ry; exact PySem.EqNone.ne_none_int (fin_bl I q (by simp))
    | str j => obtain ⟨t', rfl⟩ := ry; exact PySem.EqNone.ne_none_str (fin_bl I q (by simp))
    | _ => exact absurd (show false = true from hs) Bool.false_ne_true
  | bl i =>
    cases rx
    cases y with
    | non => cases ry; exact PySem.EqNone.ne_bool_none (fin_bl I q (by simp))
    | bl j => cases ry; exact ne_bool (fin_bl I q (congrArg not dec_bl))
    | str j => obtain ⟨t', rfl⟩ := ry; exact PySem.EqMixed.ne_bool_str (fin_bl I q (by simp))
    | _ => exact absurd (show false = true from hs) Bool.false_ne_true
  | int i =>
    obtain ⟨t, rfl⟩ := rx
    cases y with
    | non => cases ry; exact PySem.EqNone.ne_int_none (fin_bl I q (by simp))
    | int j => obtain ⟨t', rfl⟩ := ry; exact ne_int (fin_bl I q (congrArg not dec_int))
    | str j => obtain ⟨t', rfl⟩ := ry; exact PySem.EqMixed.ne_int_str (fin_bl I q (by simp))
    | _ => exact absurd (show false = true from hs) Bool.false_ne_true
  | str i =>
    obtain ⟨t, rfl⟩ := rx
    cases y with
    | non => cases ry; exact PySem.EqNone.ne_str_none (fin_bl I q (by simp))
    | bl j => cases ry; exact PySem.EqMixed.ne_str_bool (fin_bl I q (by simp))
    | int j => obtain ⟨t', rfl⟩ := ry; exact PySem.EqMixed.ne_str_int (fin_bl I q (by simp))
    | str j => obtain ⟨t', rfl⟩ := ry; exact ne_str (fin_bl I q (congrArg not dec_str))
    | _ => exact absurd (show false = true from hs) Bool.false_ne_true
  | byt i =>
    obtain ⟨t, rfl⟩ := rx
    cases y with
    | byt j => obtain ⟨t', rfl⟩ := ry; exact PySem.W.ne_bytes (fin_bl I q (congrArg not dec_byt))
    | _ => exact absurd (show false = true from hs) Bool.false_ne_true
  | _ => cases y <;> exact absurd (show false = true from hs) Bool.false_ne_true

theorem op_lt : OpR X (compareOp .Lt) (rI0 fun i j => .bl (decide (i < j))) := opB0 fun _ _ _ _ _ _ _ q => lt_int q
theorem op_le : OpR X (compareOp .LtE) (rI0 fun i j => .bl (decide (i ≤ j))) := opB0 fun _ _ _ _ _ _ _ q => le_int q
theorem op_gt : OpR X (compareOp .Gt) (rI0 fun i j => .bl (decide (j < i))) := opB0 fun _ _ _ _ _ _ _ q => gt_int q
theorem op_ge : OpR X (compareOp .GtE) (rI0 fun i j => .bl (decide (j ≤ i))) := opB0 fun _ _ _ _ _ _ _ q => ge_int q

theorem op_isN : OpR X (compareOp .Is) (fun x y H Q => y = .non ∧ Q (.bl (decide (x = .non))) H) := by
  intro pins s σ H x y v u Q I rx ry h
  obtain ⟨rfl, q⟩ := h
  cases ry
  refine is_none_gen (fin_bl I q ?_)
  cases x <;> first
    | (cases rx; rfl)
    | (obtain ⟨t, rfl⟩ := rx; rfl)
theorem op_notN : OpR X (compareOp .IsNot) (fun x y H Q => y = .non ∧ Q (.bl (!decide (x = .non))) H) := by
  intro pins s σ H x y v u Q I rx ry h
  obtain ⟨rfl, q⟩ := h
  cases ry
  refine isnot_none_gen (fin_bl I q ?_)
  cases x <;> first
    | (cases rx; rfl)
    | (obtain ⟨t, rfl⟩ := rx; rfl)



theorem nomark (b : Expr) {op : CmpOp} (h : op ≠ .In := by decide) (h2 : op ≠ .NotIn := by decide) : behindInMarks op b = false := by
  have e1 : (op == CmpOp.In) = false := by cases op <;> first | rfl | exact absurd rfl h
  have e2 : (op == CmpOp.NotIn) = false := by cases op <;> first | rfl | exact absurd rfl h2
  cases b <;> simp [behindInMarks, e1, e2]
theorem pe_cmpR {op : CmpOp} {r : R2} (ho : OpR X (compareOp op) r) (ha : PE X a ta) (hb : PE X b tb) (hm : behindInMarks op b = false) : PE X (.Compare a [op] [b] pos) (tOp r ta tb) := by
  intro pins s σ H Q I h
  exact wpAny_Compare1 (binT ha hb I h fun v u s2 x y H2 I2 rx ry q => ho pins s2 σ H2 x y v u Q I2 rx ry q) hm
noncomputable def tTest (t : TE) : TT := fun σ H Q => t σ H fun x H' => ∃ k, x = .bl k ∧ Q k H'
theorem pt_cmpR {op : CmpOp} {r : R2} (ho : OpR X (compareOp op) r) (ha : PE X a ta) (hb : PE X b tb) (hm : behindInMarks op b = false) : PT X (.Compare a [op] [b] pos) (tTest (tOp r ta tb)) := by
  intro pins s σ H Q I h
  refine wpAny_isTrue_Compare1 (thn (ha pins s σ H _ I h) fun v s1 ⟨x, H1, I1, r1, q1⟩ => thn (hb pins s1 σ H1 _ I1 q1) fun u s2 ⟨y, H2, I2, r2, q2⟩ =>
    thn (ho pins s2 σ H2 x y v u _ I2 r1 r2 q2) fun c s3 ⟨z, H3, I3, r3, k, e, q3⟩ => ?_) hm
  subst e
  cases r3
  exact wpAny_truthy_bool ⟨H3, I3, q3⟩

theorem line63 : (sizeLine : Nat) < 2 ^ 63 := by rw [sizeLine_eq]; decide



theorem vals1 {x : V} {us : List Value} (r : Vals [x] us) : ∃ u, us = [u] ∧ RelV x u := by
  cases r with
  | cons r1 r2 => cases r2; exact ⟨_, rfl, r1⟩
theorem vals2 {x y : V} {us : List Value} (r : Vals [x, y] us) : ∃ u w', us = [u, w'] ∧ RelV x u ∧ RelV y w' := by
  cases r with
  | cons r1 r2 =>
    cases r2 with
    | cons r3 r4 => cases r4; exact ⟨_, _, rfl, r1, r3⟩
theorem call_abs : CallR X (.builtin "abs") (fun xs H Q => ∃ i, xs = [.int i] ∧ Q (.int (if i < 0 then -i else i)) H) := by
  intro pins s σ H xs us Q I r h
  obtain ⟨i, rfl, q⟩ := h
  obtain ⟨u, rfl, t, rfl⟩ := vals1 r
  exact call_abs_int fun u tk => ⟨.int (if i < 0 then -i else i), H, I.tok _, ⟨_, rfl⟩, q⟩
end
end L2

namespace L2
open PySem PySem.Spec PyProof.Rows

structure ObjM (h : Heap) (x dx C : Addr) (mA : Str → Option Value) : Prop where
  obj : h.get? x = some (PySem.W.instObj C dx)
  ns : h.Ns1 dx mA
  ne : dx ≠ x

theorem lookIn_ns {h : Heap} {dx : Addr} {mA : Str → Option Value} (n : h.Ns1 dx mA) : ∃ od, h.get? dx = some od ∧ ∀ name, PySem.W.lookIn name od = some (mA name) := by
  obtain ⟨o, es, ep, ho, hd, hk, _, hm⟩ := n
  refine ⟨o, ho, fun name => ?_⟩
  have e := hm name
  unfold nsFind findBy at e
  rw [← Array.find?_toList] at e
  unfold PySem.W.lookIn
  rw [hd]
  dsimp only
  split
  · rename_i y q
    rw [q] at e
    exact congrArg some e
  · rename_i q
    rw [q] at e
    have a : es.toList.any (·.refKey) = false := by
      rw [List.any_eq_false]
      intro y hy
      obtain ⟨z, t, hkey⟩ := hk y (Array.mem_toList_iff.mp hy)
      simp [DictEntry.refKey, hkey]
    have a' : ¬ es.toList.any (·.refKey) = true := by rw [a]; exact Bool.false_ne_true
    rw [if_neg a']
    exact congrArg some e

theorem ObjM.look {h : Heap} {x dx C : Addr} {mA : Str → Option Value} (I : ObjM h x dx C mA) : ∃ od, PySem.W.InstAt h x (PySem.W.instObj C dx) C (some od) ∧ ∀ name, PySem.W.lookIn name od = some (mA name) :=
  let ⟨od, ho, hl⟩ := lookIn_ns I.ns
  ⟨od, ⟨I.obj, rfl, rfl, ho⟩, hl⟩

section
variable {prog : Program} {w : World} {A : Around} {E : Value → Shared → Prop} {s : Shared} {K : PySem.W.Frag} {x dx C f : Addr} {mA : Str → Option Value} {name : Str} {v : Value}





end


theorem RelO.some_of {v : V} {o : Option Value} (r : RelO (some v) o) : ∃ u, o = some u ∧ RelV v u := by
  cases o with
  | none => exact (show False from r).elim
  | some u => exact ⟨u, rfl, r⟩

section
variable {P : Program} {w : World} {H H' : Hp} {h h' : Heap} {a C dx : Addr} {fs fs' : List (Str × V)}
theorem ins_get (hok : HOk P w H h) (e : H a = some (.ins C dx fs)) : ∃ mA, ObjM h a dx C mA ∧ (∀ f, RelO (fs.lookup f) (mA f)) ∧ PySem.Within mA (fs.map (·.1)) ∧ fs.length ≤ 1000 ∧ H dx = some (.own a) := by
  obtain ⟨d, z, ne, ob, mA, n, r, q⟩ := (show ObjOk P w H h a (.ins C dx fs) from hok a _ e)
  exact ⟨mA, ⟨ob, n, ne⟩, r, q, z, d⟩
end

structure Cls (K : PySem.W.Frag) (C : Addr) : Prop where
  pg : PySem.W.plainGet K C Str.empty = true
  hd : PySem.W.hasDictIn K C = true
  po : PySem.W.plainOver K C = true
  sa : PySem.W.findIn K (.ref C) "__setattr__" = some (some (.builtin "object.__setattr__"))
theorem Cls.get {K : PySem.W.Frag} {C : Addr} (c : Cls K C) (f : Str) : PySem.W.plainGet K C f = true := c.pg
structure Con (K : PySem.W.Frag) (C : Addr) (f : Str) (v : V) (u : Value) : Prop where
  at_ : PySem.W.findIn K (.ref C) f = some (some u)
  rel : RelV v u
  get : PySem.W.specialIn K u "__get__" = some none
  cp : PySem.W.copiedNames.contains f = false
structure Meth (K : PySem.W.Frag) (C : Addr) (m : Str) (f : Addr) : Prop where
  at_ : PySem.W.findIn K (.ref C) m = some (some (.ref f))
  fn : PySem.W.isFn K (.ref f) = true
  kp : PySem.W.keepIn K (.ref f) = true

section
variable {X : Cx} {pins : List (Addr × Obj)} {σ : St} {H : Hp} {s : Shared} {a C dx : Addr} {fs : List (Str × V)} {f : Str} {v : V} {A : Around} {E : Value → Shared → Prop}






end


section
variable {X : Cx} {o e value : Expr} {f : Str} {pos pos' tpos : Pos} {ta tv : TE}

end

section
variable {X : Cx} {pins : List (Addr × Obj)} {σ : St} {H : Hp} {s : Shared} {A : Around} {E : Value → Shared → Prop} {Q : Value → Shared → Prop} {c : Value} {b : Bool}
inductive TyOf (K : PySem.W.Frag) (H : Hp) : V → Value → Prop where
  | non : TyOf K H .non (.type "NoneType")
  | bl (x : Bool) : TyOf K H (.bl x) (.type "bool")
  | int (i : Int) : TyOf K H (.int i) (.type "int")
  | str (x : Str) : TyOf K H (.str x) (.type "str")
  | flt (x : UInt64) : TyOf K H (.flt x) (.type "float")
  | lst {a : Addr} {xs : List V} (e : H a = some (.lst xs)) : TyOf K H (.ref a) (.type "list")
  | frz {a : Addr} {o : Obj} {xs : List V} (e : H a = some (.frz o (.lst xs))) : TyOf K H (.ref a) (.type "list")
  | tup {a : Addr} {xs : List V} (e : H a = some (.tup xs)) : TyOf K H (.ref a) (.type "tuple")
  | dK {a : Addr} {kvs : List (Key × V)} (e : H a = some (.dK kvs)) : TyOf K H (.ref a) (.type "dict")
  | dT {a : Addr} {kvs : List (List Key × V)} (e : H a = some (.dT kvs)) : TyOf K H (.ref a) (.type "dict")
  | ins {a C dx : Addr} {fs : List (Str × V)} (e : H a = some (.ins C dx fs)) (cl : Cls K C) (ha : PySem.W.findIn K (.ref C) "__class__" = some (some (.builtin "object.__class__")))
      (hn : PySem.W.specialIn K (.builtin "object.__class__") "__get__" = some (some (.builtin "getset_descriptor.__get__"))) (htk : PySem.W.takesIn K (.builtin "object.__class__") = some true)
      (hm : PySem.W.mroIn K C (.type "object") = some true) : TyOf K H (.ref a) (.ref C)
theorem isinst_ok {x : V} {u t : Value} (I : Inv X pins σ H s) (rx : RelV x u) (ty : TyOf X.K H x t) (e : PySem.W.kitOne X.K t c = some b) (h : ∀ tk, Q (.bool b) { s with toks := tk }) :
    wpAny (model X.prog X.w) A (call (.builtin "isinstance") [u, c]) Q E s := by
  cases ty with
  | non => cases (show u = Value.none from rx); exact PySem.W.kia_one PySem.W.kitx_none I.kIn True.intro e (fun z => nomatch z) h
  | bl y => cases (show u = Value.bool y from rx); exact PySem.W.kia_one PySem.W.kitx_bool I.kIn True.intro e (fun z => nomatch z) h
  | int i => obtain ⟨t, q⟩ := (show ∃ t, u = Value.int i t from rx); cases q; exact PySem.W.kia_one PySem.W.kitx_int I.kIn True.intro e (fun z => nomatch z) h
  | str y => obtain ⟨t, q⟩ := (show ∃ t, u = Value.str y t from rx); cases q; exact PySem.W.kia_one PySem.W.kitx_str I.kIn True.intro e (fun z => nomatch z) h
  | flt y => obtain ⟨t, q⟩ := (show ∃ t, u = Value.float y t from rx); cases q; exact PySem.W.kia_one PySem.W.kitx_float I.kIn True.intro e (fun z => nomatch z) h
  | @lst a xs ea =>
    cases (show u = Value.ref a from rx)
    obtain ⟨_, _, n, _, h1⟩ := (show ObjOk X.prog X.w H s.heap a (.lst xs) from I.hok a _ ea)
    exact PySem.W.kia_one PySem.W.kitx_list I.kIn ⟨_, h1, rfl⟩ e (fun z => nomatch z) h
  | @frz a ob xs ea =>
    cases (show u = Value.ref a from rx)
    obtain ⟨_, _, _, n, _, h1⟩ := (show ObjOk X.prog X.w H s.heap a (.frz ob (.lst xs)) from I.hok a _ ea)
    exact PySem.W.kia_one PySem.W.kitx_list I.kIn ⟨_, h1, rfl⟩ e (fun z => nomatch z) h
  | @tup a xs ea =>
    cases (show u = Value.ref a from rx)
    obtain ⟨_, _, _, p⟩ := (show ObjOk X.prog X.w H s.heap a (.tup xs) from I.hok a _ ea)
    obtain ⟨o, h1, h2, _⟩ := p
    exact PySem.W.kia_one PySem.W.kitx_tuple I.kIn ⟨o, h1, h2⟩ e (fun z => nomatch z) h
  | @dK a kvs ea =>
    cases (show u = Value.ref a from rx)
    obtain ⟨_, _, vs, _, p⟩ := (show ObjOk X.prog X.w H s.heap a (.dK kvs) from I.hok a _ ea)
    obtain ⟨o, es, ep, h1, h2, _⟩ := p
    exact PySem.W.kia_one PySem.W.kitx_dict I.kIn ⟨o, h1, h2.1⟩ e (fun z => nomatch z) h
  | @dT a kvs ea =>
    cases (show u = Value.ref a from rx)
    obtain ⟨_, _, xs, _, o, es, ep, h1, h2, _⟩ := (show ObjOk X.prog X.w H s.heap a (.dT kvs) from I.hok a _ ea)
    exact PySem.W.kia_one PySem.W.kitx_dict I.kIn ⟨o, h1, h2.1⟩ e (fun z => nomatch z) h
  | @ins a C dx fs ea cl ha hn htk hm =>
    cases (show u = Value.ref a from rx)
    obtain ⟨mA, O, _⟩ := ins_get I.hok ea
    obtain ⟨od, J, _⟩ := O.look
    exact PySem.W.kia_one (PySem.W.kitx_own (cl.get _) cl.hd ha hn htk hm) I.kIn J e (fun z => nomatch z) h
end
end L2

namespace L2
open PySem PySem.Spec PyProof.Rows

structure Room (k : Nat) (A : Around) : Prop where
  hd : A.handled = none
  dp : A.depth + 3 * k + 5 < recursionLimit
  un : A.units + 16 * k + 200 < cLine
theorem Room.mono {j k : Nat} {A : Around} (r : Room k A) (h : j ≤ k) : Room j A := ⟨r.hd, by have := r.dp; omega, by have := r.un; omega⟩
theorem Room.deeper {k : Nat} {A : Around} (r : Room (k + 1) A) (env : Env) : Room k (A.deeper env) :=
  ⟨r.hd, by have := r.dp; show A.depth + 1 + 3 * k + 5 < _; omega, by have := r.un; show A.units + 3 + 16 * k + 200 < _; omega⟩
theorem Room.depth {k : Nat} {A : Around} (r : Room k A) : A.depth < recursionLimit := by have := r.dp; omega
theorem Room.units {k : Nat} {A : Around} (r : Room k A) : A.units + 64 < cLine := by have := r.un; omega
theorem Room.units0 {k : Nat} {A : Around} (r : Room k A) : A.units < cLine := by have := r.un; omega

noncomputable def tNil : TA := fun _ H Q => Q [] H
noncomputable def tCons (ta : TE) (tr : TA) : TA := fun σ H Q => ta σ H fun x H1 => tr σ H1 fun xs H2 => Q (x :: xs) H2
section
variable {X : Cx} {e : Expr} {es : List Expr} {te : TE} {t : TA} {pos : Pos}
theorem pa_nil : PA X [] tNil := fun _ _ _ _ H Q I h => Calls.spliced_nil ⟨[], H, I, .nil, h⟩
theorem pa_cons (ha : PE X e te) (hr : PA X es t) (hs : starEach (e :: es) X.env = (false, eval e X.env) :: starEach es X.env := by rfl) : PA X (e :: es) (tCons te t) := by
  intro pos pins s σ H Q I h
  rw [hs]
  show wpAny _ _ (spliced ((false, eval e X.env) :: backTo pos (starEach es X.env))) _ _ s
  refine Calls.spliced_cons (thn (ha pins s σ H _ I h) fun u s1 ⟨x, H1, I1, r1, q1⟩ => ?_)
  exact thn (hr pos pins s1 σ H1 _ I1 q1) fun us s2 ⟨xs, H2, I2, r2, q2⟩ => ⟨x :: xs, H2, I2, .cons r1 r2, q2⟩

noncomputable def tTup (t : TA) : TE := fun σ H Q => t σ H fun xs H1 => xs.length ≤ sizeLine ∧ ∀ p, H1 p = none → Q (.ref p) (upd H1 p (.tup xs))
theorem pe_tup {x1} (h : PA X es t) : PE X (.Tuple es x1 pos) (tTup t) := by
  intro pins s σ H Q I hq
  refine wpAny_Tuple_spliced (thn (h pos pins s σ H _ I hq) fun us s1 ⟨xs, H1, I1, r, z, q⟩ => ⟨by rw [← r.length]; exact z, ?_⟩)
  have hf : H1 s1.heap.objs.size = none := I1.hok.fresh (Nat.le_refl _)
  refine ⟨.ref s1.heap.objs.size, upd H1 s1.heap.objs.size (.tup xs), I1.laid (t' := s1.toks) (fun b u e => Heap.get?_push_of_some _ e) (Nat.le_refl _) ?_, rfl, q _ hf⟩
  exact ⟨z, us, r, ⟨_, Heap.get?_push_size _ rfl, rfl, _, rfl⟩⟩
end

noncomputable abbrev Sp := List V → Hp → VK → XK → Prop
noncomputable abbrev CXT := List Env → Hp → Shared → XK → Value → Shared → Prop

structure Env0 (P : Program) (w : World) (K : PySem.W.Frag) (mg : Str → Option Value) (base : Heap) (A : Around) (outer : List Env) (s : Shared) (H : Hp) : Prop where
  frames : A.frames = some outer
  mod : Mod K mg base
  bs : ∀ b o, base.get? b = some o → s.heap.get? b = some o ∧ H b = none
  bsz : base.objs.size ≤ s.heap.objs.size
  funs : s.heap.FunFrames base outer
  frf : ∀ b ∈ frs outer, H b = none
  hok : HOk P w H s.heap
  bare : AllBare s.gens
noncomputable def CE (outer : List Env) (P : Program) (w : World) (H : Hp) (s : Shared) (Q : VK) (u : Value) (s' : Shared) : Prop :=
  ∃ v H', s'.os = s.os ∧ AllBare s'.gens ∧ Un (frs outer) [] H H' s.heap s'.heap ∧ HOk P w H' s'.heap ∧ RelV v u ∧ Q v H'
noncomputable def CR (CX : CXT) (outer : List Env) (P : Program) (w : World) (H : Hp) (s : Shared) (Q : VK) (E : XK) (r : Result) (s' : Shared) : Prop :=
  match r with
  | .ok (.ret u) => CE outer P w H s Q u s'
  | .ok _ => False
  | .error e => CX outer H s E e s'
structure FnOk (P : Program) (w : World) (K : PySem.W.Frag) (mg : Str → Option Value) (base : Heap) (CX : CXT) (k : Nat) (f : Addr) (fd : FuncData) (ps : List Str) (sp : Sp) : Prop where
  len : ∀ vs H Q E, sp vs H Q E → vs.length = ps.length
  run : ∀ (A : Around) (outer : List Env) (s : Shared) (H : Hp) (args : Args) (us : List Value) (vs : List V) (Q : VK) (E : XK), Room k A → Env0 P w K mg base A outer s H → BindsTo s fd args (ps.zip us) → Vals vs us → sp vs H Q E →
    codeAny (model P w) A (.call (.ref f) args) (CR CX outer P w H s Q E) s


section
variable {X : Cx} {pins : List (Addr × Obj)} {σ : St} {H : Hp} {s s' : Shared}
theorem Inv.env0 (I : Inv X pins σ H s) : Env0 X.prog X.w X.K X.mg X.base X.A X.stack s H :=
  ⟨I.ok.frames, I.ok.mod, I.bs, Nat.le_trans I.ok.bsz I.sz, I.stack, I.stkFree, I.hok, I.bare⟩
theorem Inv.after {Q : VK} {u : Value} (I : Inv X pins σ H s) (h : CE X.stack X.prog X.w H s Q u s') : EP X pins σ Q u s' := by
  obtain ⟨v, H', os, bare, un, hok, r, q⟩ := h
  obtain ⟨hh, g, d, t, os'⟩ := s'
  obtain rfl : os' = s.os := os
  exact ⟨v, H', I.call (h' := hh) (g' := g) (d' := d) (t' := t) (ch := []) un hok bare (fun b z => absurd z (by simp)), r, q⟩
end

noncomputable def tCall (sp : Sp) (dvs : List V) (E : XK) (t : TA) : TE := fun σ H Q => t σ H fun vs H1 => sp (vs ++ dvs) H1 Q E

noncomputable def Binds (K : PySem.W.Frag) (fd : FuncData) (ps : List Str) (ds : List Value) : Prop :=
  ∀ (s : Shared) (us : List Value), K.In s.heap → (us ++ ds).length = ps.length → BindsTo s fd ⟨us, []⟩ (ps.zip (us ++ ds))
theorem Binds.all {K : PySem.W.Frag} {fd : FuncData} {ps : List Str} (h : ∀ us : List Value, us.length = ps.length → bindArgs fd ⟨us, []⟩ = pure (ps.zip us)) : Binds K fd ps [] := fun s us _ hl => by
  rw [List.append_nil] at hl ⊢
  exact .of_eq (h us hl)

noncomputable def Passes (CX : CXT) (X : Cx) (E : XK) : Prop := ∀ (pins : List (Addr × Obj)) (σ : St) (H : Hp) (s : Shared) (e : Value) (s' : Shared), Inv X pins σ H s → CX X.stack H s E e s' → X.xe e s'

section
variable {X : Cx} {CX : CXT} {k : Nat} {f C : Addr} {fd : FuncData} {ps : List Str} {sp : Sp} {dvs : List V} {ds : List Value} {E : XK} {x m : Str} {p pos apos : Pos} {e o : Expr} {es : List Expr} {ta : TE} {t : TA}

theorem run_fn {pins : List (Addr × Obj)} {σ : St} {H : Hp} {s : Shared} {Q : VK} {us : List Value} {vs : List V} (F : FnOk X.prog X.w X.K X.mg X.base CX k f fd ps sp) (hr : Room k X.A) (hb : Binds X.K fd ps ds) (hd : Vals dvs ds) (hx : Passes CX X E)
    (I : Inv X pins σ H s) (r : Vals vs us) (h : sp (vs ++ dvs) H Q E) : wpAny (model X.prog X.w) X.A (call (.ref f) us) (EP X pins σ Q) X.xe s := by
  have r2 : Vals (vs ++ dvs) (us ++ ds) := r.append hd
  have hl : (us ++ ds).length = ps.length := by rw [← r2.length]; exact F.len _ _ _ _ h
  refine wpAny_call (codeAny_mono (F.run X.A X.stack s H ⟨us, []⟩ (us ++ ds) (vs ++ dvs) Q E hr I.env0 (hb s us I.kIn hl) r2 h) fun r s' hq => ?_)
  cases r with
  | error e => exact hx pins σ H s e s' I hq
  | ok fl =>
    cases fl with
    | ret u => exact I.after hq
    | next => exact False.elim hq
    | brk => exact False.elim hq
    | cont => exact False.elim hq

theorem pe_call (F : FnOk X.prog X.w X.K X.mg X.base CX k f fd ps sp) (hr : Room k X.A) (hg : Gl X x) (hm : X.mg x = some (.ref f)) (hk : PySem.W.keepIn X.K (.ref f) = true) (hb : Binds X.K fd ps ds) (hd : Vals dvs ds) (hx : Passes CX X E)
    (ha : PA X (e :: es) t) (hdb : (x == ("__debug__" : Str)) = false := by decide) (he : starEach (e :: es) X.env = (false, eval e X.env) :: starEach es X.env := by rfl) (hpl : (backTo pos (starEach es X.env)).any (·.1) = false := by rfl) :
    PE X (.Call (.Name x p) (e :: es) [] pos) (tCall sp dvs E t) := by
  intro pins s σ H Q I h
  refine wpAny_Call_Name_kw (ld_glob I hg hm ?_ hdb)
  refine PySem.W.callWith_K (h₀ := X.base) I.ok.mod.kin hk (thn (ha pos pins s σ H _ I h) fun us s1 ⟨vs, H1, I1, r, q⟩ => ⟨I1.kIn, ?_⟩) he hpl
  exact run_fn F hr hb hd hx I1 r q


structure Mk (K : PySem.W.Frag) (C f : Addr) : Prop where
  makes : PySem.W.makesIn K C = true
  init : PySem.W.findIn K (.ref C) "__init__" = some (some (.ref f))
  fn : PySem.W.isFn K (.ref f) = true
  kp : PySem.W.keepIn K (.ref C) = true

end

noncomputable def PK (X : Cx) (kws : List Keyword) (t : TA) : Prop :=
  ∀ (pos : Pos) (pins : List (Addr × Obj)) (s : Shared) (σ : St) (H : Hp) (Q : List V → Hp → Prop), Inv X pins σ H s → t σ H Q → wpAny (model X.prog X.w) X.A (evalAll ((backToKw pos (keywordEach kws X.env)).map (·.2))) (AP X pins σ Q) X.xe s
section
variable {X : Cx} {CX : CXT} {k : Nat} {f C : Addr} {fd : FuncData} {ps ks : List Str} {sp : Sp} {E : XK} {x m : Str} {p pos apos kpos : Pos} {e o : Expr} {es : List Expr} {kws : List Keyword} {te ta : TE} {t tk : TA} {nm : Option Str}
theorem pk_nil : PK X [] tNil := fun _ _ _ _ H Q I h => wpAny_evalAll_nil ⟨[], H, I, .nil, h⟩
theorem pk_cons (ha : PE X e te) (hr : PK X kws t) : PK X (⟨nm, e, kpos⟩ :: kws) (tCons te t) := by
  intro pos pins s σ H Q I h
  show wpAny _ _ (evalAll ((do let v ← eval e X.env; standAt pos; pure v) :: (backToKw pos (keywordEach kws X.env)).map (·.2))) _ _ s
  refine wpAny_evalAll_cons (wpAny_bind (thn (ha pins s σ H _ I h) fun u s1 ⟨x, H1, I1, r1, q1⟩ => wpAny_bind (wpAny_standAt (wpAny_pure ?_))))
  exact thn (hr pos pins s1 σ H1 _ I1 q1) fun us s2 ⟨xs, H2, I2, r2, q2⟩ => ⟨x :: xs, H2, I2, .cons r1 r2, q2⟩

structure KBinds (K : PySem.W.Frag) (fd : FuncData) (ps ks : List Str) (g : List Value → List Value → List Value) (gV : List V → List V → List V) : Prop where
  to : ∀ (s : Shared) (us ws : List Value), K.In s.heap → (g us ws).length = ps.length → BindsTo s fd ⟨us, ks.zip ws⟩ (ps.zip (g us ws))
  rel : ∀ {vs : List V} {us : List Value} {zs : List V} {ws : List Value}, Vals vs us → Vals zs ws → Vals (gV vs zs) (g us ws)
variable {g : List Value → List Value → List Value} {gV : List V → List V → List V}
end

structure FnScope (N P : List Str) (sc : Scope) : Prop where
  kind : sc.kind = .function
  co : sc.isCoroutine = false
  gen : sc.isGenerator = false
  nd : N.Nodup
  pre : N.take P.length = P
  par : ∀ x ∈ P, sc.names.lookup x = some .local ∨ sc.names.lookup x = some .cell
  nofree : ∀ y ∈ sc.names, y.2 ≠ .free

theorem bindL_out {kindOf : Str → Option NameKind} {x : Str} : ∀ {binds : List (Str × Value)} {m : Str → Option Value}, (∀ v, (x, v) ∉ binds) → bindL kindOf binds m x = m x
  | [], _, _ => rfl
  | (n, v) :: r, m, h => by
    unfold bindL
    rw [bindL_out fun w hw => h w (List.mem_cons_of_mem _ hw)]
    split
    · have : x ≠ n := by rintro rfl; exact h v List.mem_cons_self
      simp [this]
    · rfl
theorem bindC_out {kindOf : Str → Option NameKind} {x : Str} : ∀ {binds : List (Str × Value)} {m : Str → Option Value}, (∀ v, (x, v) ∉ binds) → bindC kindOf binds m x = m x
  | [], _, _ => rfl
  | (n, v) :: r, m, h => by
    unfold bindC
    rw [bindC_out fun w hw => h w (List.mem_cons_of_mem _ hw)]
    split
    · rfl
    · have : x ≠ n := by rintro rfl; exact h v List.mem_cons_self
      simp [this]
theorem bindL_get {kindOf : Str → Option NameKind} {x : Str} {v : Value} : ∀ {P : List Str} {vs : List Value} {i : Nat} {m : Str → Option Value}, P.Nodup → P[i]? = some x → vs[i]? = some v → kindOf x = some .local →
    bindL kindOf (P.zip vs) m x = some v
  | [], _, _, _, _, h, _, _ => by simp at h
  | _ :: _, [], _, _, _, _, h, _ => by simp at h
  | p :: P, w :: vs, 0, m, nd, h1, h2, hk => by
    simp at h1 h2; subst h1; subst h2
    show bindL kindOf ((p, w) :: P.zip vs) m p = _
    unfold bindL
    rw [bindL_out fun v hv => (List.nodup_cons.mp nd).1 (List.of_mem_zip hv).1, if_pos hk]
    simp
  | p :: P, w :: vs, i + 1, m, nd, h1, h2, hk => by
    show bindL kindOf ((p, w) :: P.zip vs) m x = _
    unfold bindL
    exact bindL_get (i := i) (List.nodup_cons.mp nd).2 (by simpa using h1) (by simpa using h2) hk
theorem bindC_get {kindOf : Str → Option NameKind} {x : Str} {v : Value} : ∀ {P : List Str} {vs : List Value} {i : Nat} {m : Str → Option Value}, P.Nodup → P[i]? = some x → vs[i]? = some v → kindOf x ≠ some .local →
    bindC kindOf (P.zip vs) m x = some v
  | [], _, _, _, _, h, _, _ => by simp at h
  | _ :: _, [], _, _, _, _, h, _ => by simp at h
  | p :: P, w :: vs, 0, m, nd, h1, h2, hk => by
    simp at h1 h2; subst h1; subst h2
    show bindC kindOf ((p, w) :: P.zip vs) m p = _
    unfold bindC
    rw [bindC_out fun v hv => (List.nodup_cons.mp nd).1 (List.of_mem_zip hv).1, if_neg hk]
    simp
  | p :: P, w :: vs, i + 1, m, nd, h1, h2, hk => by
    show bindC kindOf ((p, w) :: P.zip vs) m x = _
    unfold bindC
    exact bindC_get (i := i) (List.nodup_cons.mp nd).2 (by simpa using h1) (by simpa using h2) hk

noncomputable def start (N : List Str) (vs : List V) : St := vs.map some ++ List.replicate (N.length - vs.length) none

noncomputable def cxOf (CX : CXT) (P : Program) (w : World) (K : PySem.W.Frag) (mg : Str → Option Value) (base : Heap) (N : List Str) (qual : Str) (scope : Scope) (f : Addr) (cd : Value) (A : Around) (outer : List Env) (s : Shared) (H : Hp) (E : XK) : Cx where
  prog := P
  w := w
  K := K
  mg := mg
  base := base
  A := A.deeper (envOfC qual scope s.heap.objs.size f cd)
  N := N
  s₀ := s
  H₀ := H
  env := envOfC qual scope s.heap.objs.size f cd
  outer := outer
  stack := envOfC qual scope s.heap.objs.size f cd :: outer
  ex := []
  calm := true
  fn := fun _ => true
  pn := []
  xe := fun e s' => wpAny (model P w) (A.deeper (envOfC qual scope s.heap.objs.size f cd)) (leaving (envOfC qual scope s.heap.objs.size f cd) e) (fun _ s'' => CX outer H s E e s'') (fun e' s'' => CX outer H s E e' s'') s'

theorem cell_has {sc : Scope} {n : Nat} {x : Str} (h : sc.names.lookup x = some .cell) : ∃ c, (cellsFrom n sc.names []).lookup x = some c := by
  have q := PySem.W.cellsFrom_some sc.names n [] (.inl h)
  exact Option.isSome_iff_exists.mp q

theorem inv_start {CX : CXT} {P : Program} {w : World} {K : PySem.W.Frag} {mg : Str → Option Value} {base : Heap} {N ps : List Str} {qual : Str} {scope : Scope} {f : Addr} {cd : Value} {A : Around} {outer : List Env} {s s1 : Shared} {H : Hp} {E : XK} {us : List Value} {vs : List V}
    (S : FnScope N ps scope) (hd : A.handled = none) (e0 : Env0 P w K mg base A outer s H) (hl : vs.length = ps.length) (r : Vals vs us)
    (x : InCallC s s.heap.objs.size (bindL (envOfC qual scope s.heap.objs.size f cd).kindOf (ps.zip us) fun _ => none) (cellsFrom (s.heap.objs.size + 1) scope.names []) (bindC (envOfC qual scope s.heap.objs.size f cd).kindOf (ps.zip us) fun _ => none) s1) :
    Inv (cxOf CX P w K mg base N qual scope f cd A outer s H E) [] (start N vs) H s1 := by
  have hpl : ps.length ≤ N.length := by have := congrArg List.length S.pre; rw [List.length_take] at this; omega
  obtain ⟨h1, tk, rfl, hk⟩ := x.done
  have noA : ∀ b : Addr, b ∉ (cxOf CX P w K mg base N qual scope f cd A outer s H E).ex := fun b z => absurd (show b ∈ ([] : List Addr) from z) (by simp)
  refine ⟨⟨e0.mod, S.kind, rfl, rfl, Nat.le_refl _, fun y z c h1 h2 => ?_, fun y hy => ?_, fun y c _ h => ?_, fun _ => hd, Around.frames_deeper e0.frames, .inr ⟨rfl, rfl⟩, fun b z => absurd z (noA b), e0.bs, e0.bsz, fun b _ _ => noA b, fun b z => absurd z (noA b), e0.funs, e0.frf⟩,
    rfl, e0.bare, Un.kept hk, ⟨_, x.toInCall.ns, fun i y v h1 h2 h3 => ?_⟩, fun y c h => ⟨_, x.cell y c h⟩, e0.hok.fresh (Nat.le_refl _), fun y c h => ?_, fun p hp => absurd (show p ∈ ([] : List (Addr × Obj)) from hp) (by simp), e0.hok.kept hk, ?_⟩
  · exact name_of_addr x.apart (PySem.mem_of_lookup h1) (PySem.mem_of_lookup h2)
  · have hy : scope.names.lookup y = some .cell ∨ scope.names.lookup y = some .free := hy
    rcases hy with hy | hy
    · exact cell_has hy
    · exact absurd rfl (S.nofree _ (PySem.mem_of_lookup hy))
  · exact Nat.le_of_lt (x.above y c (PySem.mem_of_lookup h))
  · have hi : i < vs.length := by
      unfold start at h2
      by_cases hi : i < vs.length
      · exact hi
      · rw [List.getElem?_append_right (by simpa using hi)] at h2
        rw [List.getElem?_replicate] at h2
        split at h2 <;> cases h2
    have ha : vs[i]? = some v := by
      unfold start at h2
      rw [List.getElem?_append_left (by simpa using hi), List.getElem?_map] at h2
      cases e : vs[i]? with
      | none => rw [e] at h2; cases h2
      | some a => rw [e] at h2; cases h2; rfl
    obtain ⟨u, hu, rv⟩ := r.get ha
    have hp : ps[i]? = some y := by
      rw [← S.pre, List.getElem?_take_of_lt (by omega)]; exact h1
    have ndP : ps.Nodup := by rw [← S.pre]; exact S.nd.sublist (List.take_sublist _ _)
    refine ⟨u, rv, ?_⟩
    rcases S.par y (List.mem_of_getElem? hp) with k | k
    · exact .inl ⟨k, bindL_get ndP hp hu k⟩
    · obtain ⟨c, e⟩ := cell_has (n := s.heap.objs.size + 1) k
      refine .inr ⟨.inl k, c, e, ?_⟩
      have q := x.cell y c e
      rw [bindC_get ndP hp hu (by show scope.names.lookup y ≠ _; rw [k]; decide)] at q
      exact q
  · exact e0.hok.fresh (Nat.le_of_lt (x.above y c (PySem.mem_of_lookup h)))
  · unfold start
    show _ = N.length
    rw [List.length_append, List.length_map, List.length_replicate]
    omega

theorem fn_of {CX : CXT} {P : Program} {w : World} {K : PySem.W.Frag} {mg : Str → Option Value} {base : Heap} {k : Nat} {f : Addr} {name qual : Str} {params : Arguments} {body : List Stmt} {scope : Scope} {dV kV doc pm cdv ct oc : Value} {an od : Option Addr}
    {osl : Array (Option Value)} {N ps : List Str} {sp : Sp} (lk : K.lookup f = some ⟨oc, od, .func (PySem.W.fnOf name qual params body scope dV kV doc pm an cdv ct), osl⟩) (hcd : PySem.W.codeIn K cdv qual = true) (S : FnScope N ps scope)
    (len : ∀ vs H Q E, sp vs H Q E → vs.length = ps.length)
    (hbody : ∀ (A : Around) (outer : List Env) (s : Shared) (H : Hp) (vs : List V) (Q : VK) (E : XK), Room k (A.deeper (envOfC qual scope s.heap.objs.size f cdv)) → sp vs H Q E →
      ∃ t, PSs (cxOf CX P w K mg base N qual scope f cdv A outer s H E) body t ∧ t { nx := fun _ H' => Q .non H', rt := Q } (start N vs) H) :
    FnOk P w K mg base CX (k + 1) f (PySem.W.fnOf name qual params body scope dV kV doc pm an cdv ct) ps sp := by
  refine ⟨len, fun A outer s H args us vs Q E hr e0 hb r hsp => ?_⟩
  have hl := len _ _ _ _ hsp
  have KX : K.In s.heap := e0.mod.kin.keeps fun b o e => (e0.bs b o e).1
  have lim : s.heap.NoLimit := e0.mod.nolimit.keeps fun b o e => (e0.bs b o e).1
  have hkind : ∀ y ∈ ps.zip us, scope.names.lookup y.1 = some .local ∨ (scope.names.lookup y.1 = some .cell ∧ ((cellsFrom (s.heap.objs.size + 1) scope.names []).lookup y.1).isSome = true) := fun ⟨n, v⟩ hy => by
    rcases S.par n (List.of_mem_zip hy).1 with q | q
    · exact .inl q
    · exact .inr ⟨q, PySem.W.cellsFrom_some _ _ _ (.inl q)⟩
  refine codeAny_call_function hr.depth (KX _ _ lk) rfl S.co S.gen rfl (PySem.W.codeRec_of KX hcd) (hb _ _ _ _ ?_)
  refine wpAny_newFunctionEnv_cells S.kind hkind fun env he s1 x => ?_
  subst he
  refine ⟨lim.keeps x.toInCall.keep, codeAny_func ?_⟩
  obtain ⟨t, ht, hq⟩ := hbody A outer s H vs Q E (hr.deeper _) hsp
  have I : Inv (cxOf CX P w K mg base N qual scope f cdv A outer s H E) [] (start N vs) H s1 := inv_start S hr.hd e0 hl r x
  refine wpAny_mono (ht [] s1 (start N vs) H _ I hq) (fun fl s' hs => ?_) fun e s' hs => hs
  have fin : ∀ {σ' : St} {H' : Hp} {v : V} {u : Value}, Inv (cxOf CX P w K mg base N qual scope f cdv A outer s H E) [] σ' H' s' → RelV v u → Q v H' → CE outer P w H s Q u s' :=
    fun {σ' H' v u} J rv q => ⟨v, H', J.os, J.bare, J.base, J.hok, rv, q⟩
  cases fl with
  | ret u =>
    obtain ⟨v, σ', H', J, rv, q⟩ := hs
    exact fin J rv q
  | next =>
    obtain ⟨σ', H', J, q⟩ := hs
    exact fin (v := V.non) (u := Value.none) J rfl q
  | brk =>
    obtain ⟨_, _, _, q⟩ := hs
    exact False.elim q
  | cont =>
    obtain ⟨_, _, _, q⟩ := hs
    exact False.elim q
end L2

namespace L2
open PySem PySem.Spec PyProof.Rows
section
variable {X : Cx} {x : Str} {p pos : Pos} {e : Expr} {es : List Expr} {t : TA} {id T : String} {r : List V → Hp → VK → Prop}

noncomputable def tCB (r : List V → Hp → VK → Prop) (t : TA) : TE := fun σ H Q => t σ H fun vs H1 => r vs H1 Q
theorem pe_callB (hc : CallR X (.builtin id) r) (hg : Gl X x) (hm : X.mg x = none) (hv : bootBuiltins x = some (.builtin id)) (ha : PA X (e :: es) t) (hn : x ≠ "__name__" := by decide) (hdb : (x == ("__debug__" : Str)) = false := by decide)
    (he : starEach (e :: es) X.env = (false, eval e X.env) :: starEach es X.env := by rfl) (hpl : (backTo pos (starEach es X.env)).any (·.1) = false := by rfl) : PE X (.Call (.Name x p) (e :: es) [] pos) (tCB r t) := by
  intro pins s σ H Q I h
  refine wpAny_Call_Name_kw (ld_blt I hg hm hv ?_ hn hdb)
  exact PyProof.Rows.callWith_builtin1 (thn (ha pos pins s σ H _ I h) fun us s1 ⟨vs, H1, I1, r1, q1⟩ => hc pins s1 σ H1 vs us Q I1 r1 q1) he hpl
theorem pe_callTy (hc : CallR X (.type T) r) (hg : Gl X x) (hm : X.mg x = none) (hv : bootBuiltins x = some (.type T)) (ha : PA X (e :: es) t) (hn : x ≠ "__name__" := by decide) (hdb : (x == ("__debug__" : Str)) = false := by decide)
    (he : starEach (e :: es) X.env = (false, eval e X.env) :: starEach es X.env := by rfl) (hpl : (backTo pos (starEach es X.env)).any (·.1) = false := by rfl) : PE X (.Call (.Name x p) (e :: es) [] pos) (tCB r t) := by
  intro pins s σ H Q I h
  refine wpAny_Call_Name_kw (ld_blt I hg hm hv ?_ hn hdb)
  exact PyProof.Rows.callWith_type1 (thn (ha pos pins s σ H _ I h) fun us s1 ⟨vs, H1, I1, r1, q1⟩ => hc pins s1 σ H1 vs us Q I1 r1 q1) he hpl
end
end L2

namespace HT
open PySem PyProof.Rows



section
open PySem.SeqAt
open PySem.AutoSeq1 (wpAny_loadPart')
open PySem.MeetsSeq PySem.MeetsSeq2 PySem.MeetsSeq3

end

section
variable {prog : Program} {w : World} {A : Around} {E : Value → Shared → Prop} {s : Shared}



noncomputable def sIx (n d : Nat) : Option Int → Nat
  | none => d
  | some v => if v < 0 then (v + (n : Int)).toNat else min v.toNat n
theorem sIx_none (n d : Nat) : sIx n d none = d := rfl
theorem sIx_nat (n d k : Nat) : sIx n d (some (k : Int)) = min k n := by
  show (if (k : Int) < 0 then ((k : Int) + (n : Int)).toNat else min (k : Int).toNat n) = min k n
  rw [if_neg (by omega), Int.toNat_natCast]

end
end HT

namespace L2
open PySem PySem.Spec PyProof.Rows

noncomputable abbrev TO := St → Hp → (Option Int → Hp → Prop) → Prop
noncomputable def PO (X : Cx) (e : Option Expr) (t : TO) : Prop :=
  ∀ (pins : List (Addr × Obj)) (s : Shared) (σ : St) (H : Hp) (Q : Option Int → Hp → Prop), Inv X pins σ H s → t σ H Q →
    wpAny (model X.prog X.w) X.A (evalPart e X.env) (fun u s' => ∃ o H', Inv X pins σ H' s' ∧ IsPart u o ∧ Q o H') X.xe s
noncomputable def tNoPart : TO := fun _ H Q => Q none H
noncomputable def tPart (t : TE) : TO := fun σ H Q => t σ H fun x H1 => ∃ i, x = .int i ∧ Q (some i) H1

theorem intsAre_of {ns : List Int} : ∀ {us : List Value}, Vals (ns.map V.int) us → IntsAre us ns := by
  induction ns with
  | nil => intro us r; rw [List.map_nil] at r; cases r; exact .nil
  | cons n ns ih =>
    intro us r
    rw [List.map_cons] at r
    cases r with
    | cons r1 r2 =>
      obtain ⟨t, e⟩ := r1
      subst e
      exact .cons n t (ih r2)

section
variable {X : Cx} {e : Expr} {te : TE} {lo hi : Option Expr} {tl th : TO} {pos p2 : Pos}

theorem po_none : PO X none tNoPart := by
  intro pins s σ H Q I h
  rw [evalPart_none]
  exact wpAny_pure ⟨none, H, I, .none, h⟩
theorem po_some (h : PE X e te) : PO X (some e) (tPart te) := by
  intro pins s σ H Q I hw
  rw [evalPart_some]
  refine thn (h pins s σ H _ I hw) fun u s1 ⟨x, H1, I1, r1, q1⟩ => ?_
  obtain ⟨i, rfl, q⟩ := q1
  obtain ⟨t, rfl⟩ := r1
  exact ⟨some i, H1, I1, .int i t, q⟩

noncomputable def SlR (X : Cx) (r : V → Option Int → Option Int → Hp → VK → Prop) : Prop :=
  ∀ (pins : List (Addr × Obj)) (s : Shared) (σ : St) (H : Hp) (x : V) (v vl vu : Value) (lo hi : Option Int) (sl : Addr) (Q : VK), Inv X pins σ H s → RelV x v → s.heap.IsSliceOf sl vl vu .none → IsPart vl lo → IsPart vu hi → r x lo hi H Q →
    ∃ T id, typeLookup (.type T) "__getitem__" = pure (some (.builtin id)) ∧ s.TypeIs v T ∧ wpAny (model X.prog X.w) X.A (getItem v (.ref sl)) (EP X pins σ Q) X.xe s
noncomputable def tSl (r : V → Option Int → Option Int → Hp → VK → Prop) (te : TE) (tl th : TO) : TE := fun σ H Q => te σ H fun x H1 => tl σ H1 fun l H2 => th σ H2 fun u H3 => r x l u H3 Q
theorem pe_slice {r : V → Option Int → Option Int → Hp → VK → Prop} (hr : SlR X r) (he : PE X e te) (hl : PO X lo tl) (hu : PO X hi th) : PE X (.Subscript e (.Slice lo hi none p2) pos) (tSl r te tl th) := by
  intro pins s σ H Q I h
  refine Subscript_ (thn (he pins s σ H _ I h) fun v s1 ⟨x, H1, I1, r1, q1⟩ => ?_)
  refine wpAny_Slice (thn (hl pins s1 σ H1 _ I1 q1) fun vl s2 ⟨l, H2, I2, pl, q2⟩ => thn (hu pins s2 σ H2 _ I2 q2) fun vu s3 ⟨u, H3, I3, pu, q3⟩ => ?_)
  rw [evalPart_none]
  refine wpAny_pure ?_
  have I4 : Inv X pins σ H3 { s3 with heap := s3.heap.push { cls := .type "slice", data := .fields #[vl, vu, .none] } } := I3.kept (t' := s3.toks) fun b ob q => Heap.get?_push_of_some _ q
  obtain ⟨T, id, hT, ht, hg⟩ := hr pins { s3 with heap := s3.heap.push { cls := .type "slice", data := .fields #[vl, vu, .none] } } σ H3 x v vl vu l u s3.heap.objs.size Q I4 r1 (Heap.IsSliceOf.new ..) pl pu q3
  show wpAny (model X.prog X.w) X.A (subscriptTail e (.Slice lo hi none p2) v (.ref s3.heap.objs.size)) (EP X pins σ Q) X.xe { s3 with heap := s3.heap.push { cls := .type "slice", data := .fields #[vl, vu, .none] } }
  exact tail_any (ops := [.ref s3.heap.objs.size, v]) ht hT hg (by with_unfolding_all rfl)

noncomputable def cutV (xs : List V) (lo hi : Option Int) : List V := (xs.drop (HT.sIx xs.length 0 lo)).take (HT.sIx xs.length xs.length hi - HT.sIx xs.length 0 lo)
theorem cutV_length (xs : List V) (lo hi : Option Int) : (cutV xs lo hi).length ≤ xs.length := by
  unfold cutV
  rw [List.length_take, List.length_drop]
  omega

end
end L2

namespace L2
open PySem PySem.Spec PyProof.Rows

noncomputable def ixN (n : Nat) (i : Int) : Option Nat := if 0 ≤ i then (if i < n then some i.toNat else none) else if -(n : Int) ≤ i then some (i + n).toNat else none
noncomputable def atI {α : Type} (xs : List α) (i : Int) : Option α := (ixN xs.length i).bind fun j => xs[j]?
theorem ixN_seq {n : Nat} {i : Int} {j : Nat} (h : ixN n i = some j) : seqIndex? i n = some j ∧ j < n ∧ -(n : Int) ≤ i ∧ i < n := by
  unfold ixN at h
  by_cases h0 : 0 ≤ i
  · rw [if_pos h0] at h
    by_cases h1 : i < n
    · rw [if_pos h1] at h
      have e : i.toNat = j := Option.some.inj h
      exact ⟨by rw [seqIndex_of h0 h1, e], by omega, by omega, h1⟩
    · rw [if_neg h1] at h; cases h
  · rw [if_neg h0] at h
    by_cases h1 : -(n : Int) ≤ i
    · rw [if_pos h1] at h
      have e : (i + n).toNat = j := Option.some.inj h
      exact ⟨by rw [seqIndex_neg (by omega) h1, e], by omega, h1, by omega⟩
    · rw [if_neg h1] at h; cases h
theorem atI_get {α : Type} {xs : List α} {i : Int} {v : α} (h : atI xs i = some v) : ∃ j, seqIndex? i xs.length = some j ∧ xs[j]? = some v ∧ j < xs.length ∧ -(xs.length : Int) ≤ i ∧ i < xs.length := by
  unfold atI at h
  cases e : ixN xs.length i with
  | none => rw [e] at h; cases h
  | some j =>
    rw [e] at h
    obtain ⟨h1, h2, h3, h4⟩ := ixN_seq e
    exact ⟨j, h1, h, h2, h3, h4⟩
theorem atI_nat {α : Type} {xs : List α} {j : Nat} {v : α} (h : xs[j]? = some v) : atI xs (j : Int) = some v := by
  have hj : j < xs.length := (List.getElem?_eq_some_iff.mp h).1
  have e : ixN xs.length (j : Int) = some j := by
    unfold ixN
    rw [if_pos (by omega), if_pos (by omega)]; simp
  unfold atI; rw [e]; exact h

noncomputable def PlainIx (b : Expr) : Prop := ∀ o i, subscripted b false o i = operate [o, i] (getItem o i)
noncomputable def IxR (X : Cx) (r : R2) : Prop :=
  ∀ (value slice : Expr) (pins : List (Addr × Obj)) (s : Shared) (σ : St) (H : Hp) (x y : V) (v u : Value) (Q : VK), Inv X pins σ H s → RelV x v → RelV y u → r x y H Q →
    subscripted slice false v u = operate [v, u] (getItem v u) → wpAny (model X.prog X.w) X.A (subscriptTail value slice v u) (EP X pins σ Q) X.xe s
noncomputable def MtR (X : Cx) (id : String) (r : V → List V → Hp → VK → Prop) : Prop :=
  ∀ (pins : List (Addr × Obj)) (s : Shared) (σ : St) (H : Hp) (x : V) (xs : List V) (v : Value) (us : List Value) (Q : VK), Inv X pins σ H s → RelV x v → Vals xs us → r x xs H Q →
    wpAny (model X.prog X.w) X.A (call (.builtin id) (v :: us)) (EP X pins σ Q) X.xe s
section
variable {X : Cx} {a b : Expr} {ta tb : TE} {pos : Pos}
theorem pe_ix {r : R2} (hr : IxR X r) (ha : PE X a ta) (hb : PE X b tb) (hs : PlainIx b) : PE X (.Subscript a b pos) (tOp r ta tb) := by
  intro pins s σ H Q I h
  exact Subscript_ (binT ha hb I h fun v u s2 x y H2 I2 rx ry q => hr a b pins s2 σ H2 x y v u Q I2 rx ry q (hs _ _))

noncomputable def rIxL (K : PySem.W.Frag) : R2 := fun x y H Q => ∃ p xs i v, x = .ref p ∧ y = .int i ∧ SqL K H p xs ∧ atI xs i = some v ∧ Q v H
noncomputable def rIxT (K : PySem.W.Frag) : R2 := fun x y H Q => ∃ p xs i v, x = .ref p ∧ y = .int i ∧ SqT K H p xs ∧ atI xs i = some v ∧ Q v H
theorem ix_list : IxR X (rIxL X.K) := by
  intro value slice pins s σ H x y v u Q I rx ry h hs
  obtain ⟨p, xs, i, z, rfl, rfl, hq, he, q⟩ := h
  cases rx
  obtain ⟨t, rfl⟩ := ry
  obtain ⟨its, r, pl, hz⟩ := I.list hq
  obtain ⟨j, h1, h2, h3, h4, h5⟩ := atI_get he
  obtain ⟨w, ew, rw'⟩ := r.get h2
  have hl := r.length
  have hn := line63
  have fin : EP X pins σ Q w s := ⟨z, H, I, rw', q⟩
  by_cases h0 : 0 ≤ i
  · have hj : i.toNat = j := by
      rw [seqIndex_of h0 h5] at h1
      exact Option.some.inj h1
    exact item_listR pl.isList h0 (by omega) (by rw [hj]; simpa using ew) fin hs
  · have hj : (i + (its.toArray.size : Int)).toNat = j := by
      rw [seqIndex_neg (by omega) h4] at h1
      rw [List.size_toArray, ← hl]
      exact Option.some.inj h1
    exact subscriptTail_builtinR (x := w) pl.isList.typeIs slot_list_getitem.lookup
      (wpAny_getItem_list_neg (Q := fun r s' => r = w ∧ EP X pins σ Q r s') pl.isList (by omega) (by rw [List.size_toArray] <;> omega) (by omega) (by rw [hj]; simpa using ew) ⟨rfl, fin⟩) hs
theorem ix_tup : IxR X (rIxT X.K) := by
  intro value slice pins s σ H x y v u Q I rx ry h hs
  obtain ⟨p, xs, i, z, rfl, rfl, hq, he, q⟩ := h
  cases rx
  obtain ⟨t, rfl⟩ := ry
  obtain ⟨its, r, pl, hz⟩ := I.tuple hq
  obtain ⟨j, h1, h2, h3, h4, h5⟩ := atI_get he
  obtain ⟨w, ew, rw'⟩ := r.get h2
  have hl := r.length
  have hn := line63
  have fin : EP X pins σ Q w s := ⟨z, H, I, rw', q⟩
  exact subscriptTail_builtinR (x := w) pl.typeIs slot_tuple_getitem.lookup
    (getItem_tuple (j := j) (Q := fun r s' => r = w ∧ EP X pins σ Q r s') pl (by omega) (by omega) (by rw [List.size_toArray, ← hl]; exact h1) (by simpa using ew) ⟨rfl, fin⟩) hs

theorem mapSeq_set (its : List Value) (n j : Nat) (u : Value) : Obj.mapSeq (·.setIfInBounds j u) { cls := .type "list", data := .seq its.toArray n } = { cls := .type "list", data := .seq (its.set j u).toArray n } := by
  simp [Obj.mapSeq]
theorem Inv.lst {pins : List (Addr × Obj)} {σ : St} {H : Hp} {s : Shared} {p : Addr} {xs : List V} (I : Inv X pins σ H s) (h : H p = some (.lst xs)) :
    ∃ (its : List Value) (n : Nat), Vals xs its ∧ s.heap.get? p = some { cls := .type "list", data := .seq its.toArray n } ∧ xs.length ≤ sizeLine := by
  obtain ⟨z, its, n, r, e⟩ := I.hok p _ h
  exact ⟨its, n, r, e, z⟩
theorem Inv.lstUpd {pins : List (Addr × Obj)} {σ : St} {H : Hp} {s : Shared} {p : Addr} {xs ys : List V} {its its' : List Value} {n n' : Nat} {f : Obj → Obj} (I : Inv X pins σ H s) (h : H p = some (.lst xs))
    (ho : s.heap.get? p = some { cls := .type "list", data := .seq its.toArray n }) (hf : f { cls := .type "list", data := .seq its.toArray n } = { cls := .type "list", data := .seq its'.toArray n' }) (r : Vals ys its') (hz : ys.length ≤ sizeLine) (t : Nat) :
    Inv X pins σ (upd H p (.lst ys)) { s with heap := s.heap.update p f, toks := t } := by
  have e : (s.heap.update p f).get? p = some { cls := .type "list", data := .seq its'.toArray n' } := by
    rw [Heap.get?_update_self f ho (by rw [hf] <;> rfl), hf]
  refine I.write (x := p) (e := p) (by rw [h]; trivial) (.inl rfl) (fun b u hb q => (Heap.get?_update_other _ _ (Ne.symm hb)).trans q) ⟨_, e⟩ ?_
  exact ⟨hz, its', n', r, e⟩
noncomputable def rSetL : V → V → V → Hp → (Hp → Prop) → Prop := fun o i v H Q => ∃ p xs k j, o = .ref p ∧ i = .int k ∧ H p = some (.lst xs) ∧ ixN xs.length k = some j ∧ Q (upd H p (.lst (xs.set j v)))
theorem set_list : PSet X rSetL := by
  intro pins s σ H o i v ov iv u Q I ro ri rv h
  obtain ⟨p, xs, k, j, rfl, rfl, hp, hj, q⟩ := h
  cases ro
  obtain ⟨t, rfl⟩ := ri
  obtain ⟨its, n, r, ho, hz⟩ := I.lst hp
  obtain ⟨h1, h2, h3, h4⟩ := ixN_seq hj
  have hl := r.length
  have hn := line63
  have I' : Inv X pins σ (upd H p (.lst (xs.set j v))) { s with heap := s.heap.update p (Obj.mapSeq (·.setIfInBounds j u)) } :=
    I.lstUpd hp ho (mapSeq_set its n j u) (r.set rv j) (by rw [List.length_set]; exact hz) s.toks
  by_cases h0 : 0 ≤ k
  · have hk : k.toNat = j := by
      rw [seqIndex_of h0 h4] at h1
      exact Option.some.inj h1
    exact PySem.W.ki_setAt ho h0 (by omega) (by rw [List.size_toArray, ← hl]; exact h4) (by rw [hk]; exact ⟨_, I', q⟩)
  · have hk : (k + (its.toArray.size : Int)).toNat = j := by
      rw [seqIndex_neg (by omega) h3] at h1
      rw [List.size_toArray, ← hl]
      exact Option.some.inj h1
    exact PySem.W.ki_setBack ho (by omega) (by rw [List.size_toArray, ← hl]; exact h3) (by omega) (by rw [hk]; exact ⟨_, I', q⟩)

theorem slice_one (i : Int) (n : Nat) : (sliceBounds (some i) none none n).1 = ((HT.sIx n 0 (some i) : Nat) : Int) := by
  simp only [sliceBounds, HT.sIx, Option.getD_none, show (1 : Int) > 0 by decide, if_true]
  by_cases h : i < 0
  · simp only [h, if_true] <;> omega
  · simp only [h, if_false] <;> omega
theorem slice_bounds (lo hi : Option Int) (n : Nat) : (sliceBounds lo hi none n).1 = ((HT.sIx n 0 lo : Nat) : Int) ∧ (sliceBounds lo hi none n).2.1 = ((HT.sIx n n hi : Nat) : Int) ∧ (sliceBounds lo hi none n).2.2 = 1 := by
  refine ⟨?_, ?_, rfl⟩
  · cases lo with
    | none => simp [sliceBounds, HT.sIx]
    | some i => exact slice_one i n
  · cases hi with
    | none => simp [sliceBounds, HT.sIx]
    | some i => exact slice_one i n
theorem slicePick_cut (its : List Value) (lo hi : Option Int) : slicePick its.toArray lo hi none = ((its.drop (HT.sIx its.length 0 lo)).take (HT.sIx its.length its.length hi - HT.sIx its.length 0 lo)).toArray := by
  obtain ⟨h1, h2, h3⟩ := slice_bounds lo hi its.toArray.size
  unfold slicePick
  rw [h1, h2, h3]
  simp only [sliceRange_one, pick_run, List.size_toArray] <;> rfl
noncomputable def rSlL (K : PySem.W.Frag) : V → Option Int → Option Int → Hp → VK → Prop := fun x lo hi H Q => ∃ a xs, x = .ref a ∧ SqL K H a xs ∧ ∀ p, H p = none → Q (.ref p) (upd H p (.lst (cutV xs lo hi)))
theorem sl_list : SlR X (rSlL X.K) := by
  intro pins s σ H x v vl vu lo hi sl Q I rx hs pl pu h
  obtain ⟨a, xs, rfl, hx, q⟩ := h
  cases rx
  obtain ⟨its, r, ht, hz⟩ := I.list hx
  have hlen := r.length
  refine ⟨"list", _, slot_list_getitem.lookup, ht.isList.typeIs, ?_⟩
  refine wpAny_getItem_list_slice ht.isList hs pl pu .none (by simp) ?_ (by rw [List.size_toArray] <;> omega)
  rw [slicePick_cut, ← hlen]
  refine ⟨.ref s.heap.objs.size, _, I.laid (t' := s.toks) (o := .lst (cutV xs lo hi)) (fun b ob q => Heap.get?_push_of_some _ q) (Nat.le_refl _) ?_, rfl, q _ (I.hok.fresh (Nat.le_refl _))⟩
  exact ⟨Nat.le_trans (cutV_length xs lo hi) hz, _, 0, (r.drop (HT.sIx xs.length 0 lo)).take (HT.sIx xs.length xs.length hi - HT.sIx xs.length 0 lo), Heap.get?_push_size _ rfl⟩


theorem call_len_seq : CallR X (.builtin "len") (fun xs H Q => ∃ p ys, xs = [.ref p] ∧ (SqL X.K H p ys ∨ SqT X.K H p ys) ∧ Q (.int ys.length) H) := by
  intro pins s σ H xs us Q I r h
  obtain ⟨p, ys, rfl, hq, q⟩ := h
  obtain ⟨u, rfl, rx⟩ := vals1 r
  cases rx
  have hn := line63
  rcases hq with hq | hq
  · obtain ⟨its, r', pl, hz⟩ := I.list hq
    have hlen := r'.length
    exact Calls.call_len_list pl.isList (by simp only [List.size_toArray] <;> omega) ⟨.int ys.length, H, I.tok _, ⟨s.toks + 1, by rw [List.size_toArray, hlen]⟩, q⟩
  · obtain ⟨its, r', pl, hz⟩ := I.tuple hq
    have hlen := r'.length
    exact len_tuple pl (by simp only [List.size_toArray] <;> omega) ⟨.int ys.length, H, I.tok _, ⟨s.toks + 1, by rw [List.size_toArray, hlen]⟩, q⟩
theorem call_list_of : CallR X (.type "list") (fun xs H Q => ∃ p ys, xs = [.ref p] ∧ (SqL X.K H p ys ∨ SqT X.K H p ys) ∧ ∀ l, H l = none → Q (.ref l) (upd H l (.lst ys))) := by
  intro pins s σ H xs us Q I r h
  obtain ⟨p, ys, rfl, hq, q⟩ := h
  obtain ⟨u, rfl, rx⟩ := vals1 r
  cases rx
  have fin : ∀ (its : List Value), Vals ys its → ys.length ≤ sizeLine → ∀ (h' : Heap) (c' : Nat), (∀ b o', s.heap.get? b = some o' → h'.get? b = some o') →
      h'.get? s.heap.objs.size = some { cls := .type "list", dict := none, data := .seq its.toArray c', slots := #[] } → EP X pins σ Q (.ref s.heap.objs.size) { s with heap := h' } := fun its r' hz h' c' kp e =>
    ⟨.ref s.heap.objs.size, _, I.laid (t' := s.toks) kp (Nat.le_refl _) (show ObjOk X.prog X.w _ h' _ (.lst ys) from ⟨hz, its, c', r', e⟩), rfl, q _ (I.hok.fresh (Nat.le_refl _))⟩
  rcases hq with hq | hq
  · obtain ⟨its, r', pl, hz⟩ := I.list hq
    have hlen := r'.length
    obtain ⟨o, ho, hc, n, hd⟩ := pl.isList
    exact call_list_seq p (.inl rfl) ho hc hd (fun h' c' kp e => fin its r' hz h' c' kp e) (by simp only [List.size_toArray] <;> omega)
  · obtain ⟨its, r', pl, hz⟩ := I.tuple hq
    have hlen := r'.length
    obtain ⟨o, ho, hc, n, hd⟩ := pl
    exact call_list_seq p (.inr rfl) ho hc hd (fun h' c' kp e => fin its r' hz h' c' kp e) (by simp only [List.size_toArray] <;> omega)

noncomputable def tyV (K : PySem.W.Frag) (T : String) (x : V) (H : Hp) : Prop := match x with
  | .str _ => T = "str"
  | .int _ => T = "int"
  | .ref p => (T = "list" ∧ ∃ xs, SqL K H p xs) ∨ (T = "tuple" ∧ ∃ o, K.lookup p = some o ∧ o.cls = .type "tuple" ∧ o.dict = none) ∨
      (T = "dict" ∧ ((∃ kvs, H p = some (.dK kvs)) ∨ ∃ kvs, H p = some (.dT kvs))) ∨ (T = "set" ∧ ∃ S n, H p = some (.set S n))
  | _ => False
theorem tyV_is {pins : List (Addr × Obj)} {σ : St} {H : Hp} {s : Shared} {T : String} {x : V} {v : Value} (I : Inv X pins σ H s) (r : RelV x v) (ty : tyV X.K T x H) :
    s.TypeIs v T ∧ ∀ a, v = .ref a → ∃ ob, s.heap.get? a = some ob ∧ ob.dict = none := by
  cases x with
  | str z =>
    obtain ⟨t, rfl⟩ := r
    cases (show T = "str" from ty)
    exact ⟨typeIs_str s z t, fun _ e => nomatch e⟩
  | int i =>
    obtain ⟨t, rfl⟩ := r
    cases (show T = "int" from ty)
    exact ⟨typeIs_int s i t, fun _ e => nomatch e⟩
  | ref p =>
    cases r
    rcases ty with ⟨rfl, xs, hq⟩ | ⟨rfl, o, hk, hc, hd⟩ | ⟨rfl, hk⟩ | ⟨rfl, S, n, hk⟩
    · obtain ⟨its, _, pl, _⟩ := I.list hq
      refine ⟨pl.isList.typeIs, fun a e => ?_⟩
      cases e
      obtain ⟨o, n, e, c, hd, _⟩ := pl
      exact ⟨o, e, hd⟩
    · refine ⟨⟨o, I.kIn p o hk, hc⟩, fun a e => ?_⟩
      cases e
      exact ⟨o, I.kIn _ o hk, hd⟩
    · have z : ∃ o, s.heap.get? p = some o ∧ o.ExactDict := by
        rcases hk with ⟨kvs, hk⟩ | ⟨kvs, hk⟩
        · obtain ⟨_, _, _, _, o, _, _, e, ex, _⟩ := I.hok p _ hk
          exact ⟨o, e, ex⟩
        · obtain ⟨_, _, _, _, o, _, _, e, ex, _⟩ := I.hok p _ hk
          exact ⟨o, e, ex⟩
      obtain ⟨o, e, ex⟩ := z
      refine ⟨⟨o, e, ex.1⟩, fun a e2 => ?_⟩
      cases e2
      exact ⟨o, e, ex.2.1⟩
    · obtain ⟨o, _, _, _, e, ex, _⟩ := I.hok p _ hk
      refine ⟨⟨o, e, ex.1⟩, fun a e2 => ?_⟩
      cases e2
      exact ⟨o, e, ex.2.1⟩
  | _ => exact False.elim ty
noncomputable def tBM0 (K : PySem.W.Frag) (T : String) (r : V → List V → Hp → VK → Prop) (to : TE) : TE := fun σ H Q => to σ H fun x H1 => tyV K T x H1 ∧ r x [] H1 Q
noncomputable def tBM (K : PySem.W.Frag) (T : String) (r : V → List V → Hp → VK → Prop) (to : TE) (t : TA) : TE := fun σ H Q => to σ H fun x H1 => tyV K T x H1 ∧ t σ H1 fun xs H2 => r x xs H2 Q
variable {o e : Expr} {es : List Expr} {to : TE} {t : TA} {name : Str} {apos cpos : Pos} {T id : String} {r : V → List V → Hp → VK → Prop}
theorem pe_bm0 (pa : PlainAttrs T) (slot : Slot T name id) (hty : typeOf (.builtin id) = pure (.type "method_descriptor")) (hm : MtR X id r) (ho : PE X o to)
    (hbase : attributeBase o name X.env (eval o X.env) = eval o X.env := by rfl) (hline : (apos.endLine == cpos.line) = true := by rfl) : PE X (.Call (.Attribute o name apos) [] [] cpos) (tBM0 X.K T r to) := by
  intro pins s σ H Q I h
  refine wpAny_Call_method0_late hbase hline (thn (ho pins s σ H _ I h) fun v s1 ⟨x, H1, I1, r1, ty, q1⟩ => ?_)
  obtain ⟨h1, h2⟩ := tyV_is I1 r1 ty
  exact ⟨T, id, pa, slot, hty, h1, h2, Calls.callWith_builtin rfl (PySem.evalArgs_none (hm pins s1 σ H1 x [] v [] Q I1 r1 .nil q1))⟩
theorem pe_bm (pa : PlainAttrs T) (slot : Slot T name id) (hty : typeOf (.builtin id) = pure (.type "method_descriptor")) (hm : MtR X id r) (ho : PE X o to) (ha : PA X (e :: es) t)
    (hbase : attributeBase o name X.env (eval o X.env) = eval o X.env := by rfl)
    (hfew : ((backTo cpos (starEach (e :: es) X.env)).all (fun x => !x.1) && (backToKw cpos (keywordEach [] X.env)).all (fun x => x.1.isSome)
      && decide ((e :: es).length + ([] : List Keyword).length + (if ([] : List Keyword).isEmpty then 0 else 1) < 30)) = true := by rfl)
    (hline : (apos.endLine == cpos.line) = true := by rfl) (hs : starEach (e :: es) X.env = (false, eval e X.env) :: starEach es X.env := by rfl) (hplain : (backTo cpos (starEach es X.env)).any (·.1) = false := by rfl) :
    PE X (.Call (.Attribute o name apos) (e :: es) [] cpos) (tBM X.K T r to t) := by
  intro pins s σ H Q I h
  refine wpAny_Call_method_late hbase hfew hline rfl (thn (ho pins s σ H _ I h) fun v s1 ⟨x, H1, I1, r1, ty, q1⟩ => ?_)
  obtain ⟨h1, h2⟩ := tyV_is I1 r1 ty
  refine ⟨T, id, pa, slot, hty, h1, h2, ?_⟩
  have hA := ha cpos pins s1 σ H1 _ I1 q1
  rw [hs] at hA ⊢
  refine Calls.callWith_builtin (by show (false || (backTo cpos (starEach es X.env)).any (·.1)) = false; rw [hplain] <;> rfl) (Calls.evalArgs_plain ?_)
  exact thn hA fun us s2 ⟨vs, H2, I2, r2, q2⟩ => hm pins s2 σ H2 x vs v us Q I2 r1 r2 q2
/- xs.append(e), list.index on a module's tuple .. are MtR facts of 06m -/
end
end L2

namespace L2
open PySem PySem.Spec PyProof.Rows

noncomputable def MtM (X : Cx) (id : String) (r : V → List V → Hp → VK → Prop) : Prop :=
  ∀ (pins : List (Addr × Obj)) (s : Shared) (σ : St) (H : Hp) (x : V) (xs : List V) (v : Value) (us : List Value) (Q : VK), Inv X pins σ H s → RelV x v → Vals xs us → r x xs H Q →
    wpAny (model X.prog X.w) X.A (call (.builtin id) (v :: us)) (EP X pins σ Q) X.xe s

theorem Vals.one : ∀ {x : V} {us : List Value}, Vals [x] us → ∃ u, us = [u] ∧ RelV x u
  | _, _, .cons r .nil => ⟨_, rfl, r⟩

section
variable {X : Cx} {pins : List (Addr × Obj)} {σ : St} {H : Hp} {s : Shared} {l b : Addr} {xs ys zs : List V}

theorem Inv.lset {its its' : List Value} {n : Nat} {f : Array Value → Array Value} {t' : Nat} (I : Inv X pins σ H s) (hH : H l = some (.lst xs))
    (e : s.heap.get? l = some { cls := .type "list", data := .seq its.toArray n }) (hf : f its.toArray = its'.toArray) (hv : Vals ys its') (hz : ys.length ≤ sizeLine) :
    Inv X pins σ (upd H l (.lst ys)) { s with heap := s.heap.update l (Obj.mapSeq f), toks := t' } := by
  have q := PySem.IsL.update e f
  rw [hf] at q
  refine I.write (x := l) (e := l) (by rw [hH]; exact trivial) (.inl rfl) (fun b' u hb hu => (Heap.get?_update_other s.heap (Obj.mapSeq f) (Ne.symm hb)).trans hu) ⟨_, q⟩ ?_
  exact ⟨hz, its', _, hv, q⟩
theorem Inv.lnew {its : List Value} {t' : Nat} (I : Inv X pins σ H s) (hv : Vals ys its) (hz : ys.length ≤ sizeLine) :
    Inv X pins σ (upd H s.heap.objs.size (.lst ys)) { s with heap := s.heap.push { cls := .type "list", data := .seq its.toArray }, toks := t' } :=
  I.laid (fun _ _ q => Heap.get?_push_of_some _ q) (Nat.le_refl _) ⟨hz, its, 0, hv, Heap.get?_push_size _ rfl⟩
theorem Inv.fresh (I : Inv X pins σ H s) : H s.heap.objs.size = none := I.hok.fresh (Nat.le_refl _)
theorem Inv.lstM (I : Inv X pins σ H s) (hH : H l = some (.lst xs)) : xs.length ≤ sizeLine ∧ ∃ (its : List Value) (n : Nat), Vals xs its ∧ xs.length = its.length ∧ s.heap.get? l = some { cls := .type "list", data := .seq its.toArray n } := by
  obtain ⟨z, its, n, r, e⟩ := I.hok l _ hH
  exact ⟨z, its, n, r, r.length, e⟩

theorem notLongL {n : Nat} (h : n ≤ sizeLine) : Builtin.List.listTooLong n = false := by
  unfold Builtin.List.listTooLong
  exact decide_eq_false (by omega)
end

section
variable {X : Cx}

noncomputable def rAppend : V → List V → Hp → VK → Prop := fun x vs H Q => ∃ l xs y, x = .ref l ∧ vs = [y] ∧ H l = some (.lst xs) ∧ xs.length < sizeLine ∧ Q .non (upd H l (.lst (xs ++ [y])))
theorem mt_append : MtM X "list.append" rAppend := by
  intro pins s σ H x vs v us Q I rx rv h
  obtain ⟨l, xs, y, rfl, rfl, hH, hz, q⟩ := h
  cases rx
  obtain ⟨u, rfl, ru⟩ := rv.one
  obtain ⟨z, its, n, r, hl, e⟩ := I.lstM hH
  refine call_meets F.slot_list_append ⟨_, e, rfl⟩ F.entry_list_append (F.args_list_append_2 _ _) (PySem.list_append l its.toArray n u (by rw [List.size_toArray]; omega)) ⟨e, ?_⟩
  refine ⟨.non, _, I.lset (its' := its ++ [u]) hH e (by simp) (r.append (.cons ru .nil)) ?_, rfl, q⟩
  rw [List.length_append, List.length_singleton]
  omega

noncomputable def rExtend : V → List V → Hp → VK → Prop := fun x vs H Q => ∃ l b xs zs, x = .ref l ∧ vs = [.ref b] ∧ H l = some (.lst xs) ∧ H b = some (.lst zs) ∧ xs.length + zs.length ≤ sizeLine ∧ Q .non (upd H l (.lst (xs ++ zs)))
theorem mt_extend : MtM X "list.extend" rExtend := by
  intro pins s σ H x vs v us Q I rx rv h
  obtain ⟨l, b, xs, zs, rfl, rfl, hH, hB, hz, q⟩ := h
  cases rx
  obtain ⟨u, rfl, ru⟩ := rv.one
  cases ru
  obtain ⟨z, its, n, r, hl, e⟩ := I.lstM hH
  obtain ⟨z2, its2, n2, r2, hl2, e2⟩ := I.lstM hB
  have hsz : its.toArray.size + its2.toArray.size ≤ sizeLine := by rw [List.size_toArray, List.size_toArray]; omega
  have hlong : ¬ (!its.toArray.isEmpty && Builtin.List.listTooLong (its.toArray.size + its2.toArray.size)) = true := by
    rw [notLongL hsz, Bool.and_false]
    exact Bool.false_ne_true
  refine call_meets F.slot_list_extend ⟨_, e, rfl⟩ F.entry_list_extend (F.args_list_extend_2 _ _)
    (AutoSeq1.list_extend_list_list_0 l its.toArray n b its2.toArray n2 hlong (by rw [List.size_toArray]; omega) (by omega)) ⟨e, e2, ?_⟩
  refine ⟨.non, _, I.lset (its' := its ++ its2) hH e (by simp) (r.append r2) ?_, rfl, q⟩
  rw [List.length_append]
  omega





noncomputable def rCat : R2 := fun x y H Q => ∃ l b xs zs, x = .ref l ∧ y = .ref b ∧ H l = some (.lst xs) ∧ H b = some (.lst zs) ∧ xs.length + zs.length ≤ sizeLine ∧ ∀ p, H p = none → Q (.ref p) (upd H p (.lst (xs ++ zs)))
theorem op_cat : OpR X (binaryOp .Add) rCat := by
  intro pins s σ H x y v u Q I rx ry h
  obtain ⟨l, b, xs, zs, rfl, rfl, hH, hB, hz, q⟩ := h
  cases rx
  cases ry
  obtain ⟨z, its, n, r, hl, e⟩ := I.lstM hH
  obtain ⟨z2, its2, n2, r2, hl2, e2⟩ := I.lstM hB
  refine PySem.P.add_list e e2 ?_ (by rw [List.size_toArray, List.size_toArray]; omega)
  have ea : its.toArray ++ its2.toArray = (its ++ its2).toArray := by simp
  rw [ea]
  exact ⟨.ref _, _, I.lnew (t' := s.toks) (r.append r2) (by rw [List.length_append]; omega), rfl, q _ I.fresh⟩

end

section
variable {prog : Program} {w : World} {A : Around} {E : Value → Shared → Prop} {s : Shared}
set_option maxRecDepth 100000 in
end

section
variable {X : Cx}
end
end L2

namespace Att
open PySem PySem.W PySem.Calls PyProof.Rows

theorem ints_of_wellAll {P : Params} {h : Heap} : ∀ (ns : List Int) (vs : List Value), WellAll P h vs (ns.map WData.int) → IntsAre vs ns := by
  intro ns
  induction ns with
  | nil =>
    intro vs w
    rw [List.map_nil] at w
    cases w
    exact .nil
  | cons n ns ih =>
    intro vs w
    rw [List.map_cons] at w
    cases w with
    | cons a b =>
      cases a
      exact .cons _ _ (ih _ b)

theorem script_of {l : OpenLaw} {n : Nat} (hn : l.most = some n) {P : Params} {h : Heap} {args : List WData} {vals : List Value}
    (hpre : l.row.toRowW.claim.pre args = true) (hwl : WellAll P h vals args) :
    ∃ a vs ns, vals = [Value.ref a] ∧ args = [WData.list (ns.map WData.int)] ∧ h.get? a = some { cls := .type "list", data := .seq vs.toArray } ∧ IntsAre vs ns ∧ ns.length ≤ n := by
  have hsh : WShape.hasAll [] args [.list .int] = true := (pre_splitW hpre).1
  have hc : l.pre.holds [] { args := args } = true := (pre_splitW hpre).2
  obtain ⟨d, r, rfl, h1, h2⟩ := hasAllW_cons hsh
  obtain rfl := hasAllW_nil h2
  obtain ⟨xs, rfl, h3⟩ := hasW_list h1
  obtain ⟨ns, rfl⟩ := items_int h3
  have hlen : ns.length ≤ n := by
    unfold OpenLaw.pre at hc
    have h4 : (WTm.not (.lt (.lit (.int (n : Int))) (.len (.arg 0)))).holds [] { args := [.list (ns.map .int)] } = true := by
      have h4 := (holds_andW hc).1
      rw [hn] at h4
      exact h4
    have h5 := condW_of h4 (w_not (w_lt w_lit (w_len_list (w_arg rfl))))
    rw [List.length_map] at h5
    refine Nat.le_of_not_lt fun q => ?_
    have q' : (n : Int) < ((ns.length : Nat) : Int) := by omega
    first
      | (rw [decide_eq_true q'] at h5; exact absurd h5 (by decide))
      | (simp at h5; omega)
  cases hwl with
  | cons w1 w2 =>
    cases w2
    cases w1 with
    | list ho hall => exact ⟨_, _, ns, rfl, rfl, ho, ints_of_wellAll ns _ hall, hlen⟩

theorem post_true (l : OpenLaw) (args : List WData) : l.row.toRowW.claim.post args (.bool true) args = true :=
  postW_of (r := l.row.toRowW) (X := (true == true))
    (show WShape.has [] (.bool true) .bool = true by first | rfl | decide | simp [WShape.has, WShape.arms, WShape.armsAll])
    (show (WTm.eq .res (.lit (.bool true))).value [] { args := args, res := some (.bool true), after := args } = some (.bool (true == true)) from w_eq_bool (w_res rfl) w_lit) rfl


theorem attach_call {l : OpenLaw} {n : Nat} {q : Program} {loose : List Str} {XP : (Str → Option Value) → Heap → Prop} {YP : World → Heap → Prop} {d : DefRec}
    (hn : l.most = some n) (hdf : d.params.defaults = [])
    (call : ∀ (w : World) (s₀ s₁ : Shared) (mg mb : Str → Option Value) (fa : Addr) (o : Obj) (pm cd doc : Value) (a : Addr) (vs : List Value) (ns : List Int),
      Ground q loose [] XP w s₀ mg mb s₁.heap → YP w s₁.heap →
      s₁.heap.get? fa = some o → o.data = .func (docDef d.name d.params d.body d.scope pm cd doc) → s₁.heap.CodeRec cd d.name → mg d.name = some (.ref fa) →
      s₁.heap.get? a = some { cls := .type "list", data := .seq vs.toArray } → IntsAre vs ns → ns.length ≤ n → s₁.gens = #[] →
      codeAny (model l.prog w) callerA (.call (.ref fa) ⟨[.ref a], []⟩) (fun r s' => r = .ok (.ret (.bool true)) ∧ OldK s₁.heap s'.heap ∧ s'.os = s₁.os ∧ AllBare s'.gens) s₁) :
    WalkO q loose XP YP l.row.toRowW d [] (fun f vs => PySem.call f vs) := by
  intro w s₀ s₁ mg mb G Y fa o pm cd doc dV kV ho hd hcd hD hmg hg args vals as hpre hlay hrd hwl hlo
  obtain rfl : dV = .none := Dflts.none hD hdf
  obtain rfl : kV = .none := Dflts.noKw hD
  obtain ⟨a, vs, ns, rfl, rfl, hobj, hints, hlen⟩ := script_of hn hpre hwl
  refine enter_call (codeAny_mono (call w s₀ s₁ mg mb fa o pm cd doc a vs ns G Y ho (fd_plain hd) hcd hmg hobj hints hlen hg) fun r s' hq => ?_)
  obtain ⟨rfl, h2, h3, h4⟩ := hq
  exact ⟨.inl ⟨.bool true, .bool true, [], rfl, fun _ => rfl, .bool true, post_true l _, fun _ => ⟨List.Pairwise.nil, fun _ hm => (nomatch hm)⟩⟩, h2, h3, h4⟩


section
variable {prog : Program} {w : World} {A : Around} {E : Value → Shared → Prop} {s : Shared} {K : Frag}






end
end Att

namespace L2
open PySem PySem.Spec PyProof.Rows

theorem vals_ints : ∀ {vs : List Value} {ns : List Int}, IntsAre vs ns → Vals (ns.map V.int) vs
  | _, _, .nil => .nil
  | _, _, .cons n t h => .cons ⟨t, rfl⟩ (vals_ints h)

noncomputable def Only (H : Hp) : Prop := ∀ b, H b = none ∨ ∃ o xs, H b = some (.frz o (.lst xs))

theorem law_call {P : Program} {w : World} {K : PySem.W.Frag} {mg mb : Str → Option Value} {CX : CXT} {k : Nat} {fa a : Addr} {fd : FuncData} {x : Str} {sp : Sp} {s₁ : Shared} {vs : List Value} {ns : List Int}
    (KX : K.In s₁.heap) (hns : s₁.heap.Ns mainGlobals mg) (hb : s₁.heap.Ns builtinsNs mb) (hbb : ∀ x : Str, x ≠ "__name__" → mb x = bootBuiltins x) (hlim : s₁.heap.NoLimit) (hg : s₁.gens = #[])
    (ha : s₁.heap.get? a = some { cls := .type "list", data := .seq vs.toArray }) (hi : IntsAre vs ns) (hl : ns.length ≤ sizeLine) (hr : Room k callerA)
    (F : ∀ base : Heap, K.In base → base.Ns mainGlobals mg → FnOk P w K mg base CX k fa fd [x] sp) (hbind : ∀ (s : Shared) (u : Value), BindsTo s fd ⟨[u], []⟩ [(x, u)])
    (hsp : ∀ H : Hp, Only H → SqL K H a (ns.map V.int) → sp [.ref a] H (fun v _ => v = .bl true) fun _ _ _ => False)
    (hCX : ∀ H e s', CX [] H s₁ (fun _ _ _ => False) e s' → False) :
    codeAny (model P w) callerA (.call (.ref fa) ⟨[.ref a], []⟩) (fun r s' => r = .ok (.ret (.bool true)) ∧ OldK s₁.heap s'.heap ∧ s'.os = s₁.os ∧ AllBare s'.gens) s₁ := by
  have rv := vals_ints hi
  have lenV := hi.length
  -- from an abstract heap in which nothing but the script may be tracked
  have core : ∀ H : Hp, Only H → SqL K H a (ns.map V.int) → HOk P w H s₁.heap → (∀ b, H b ≠ none → b = a) → (H a ≠ none → K.lookup a = none) →
      codeAny (model P w) callerA (.call (.ref fa) ⟨[.ref a], []⟩) (fun r s' => r = .ok (.ret (.bool true)) ∧ OldK s₁.heap s'.heap ∧ s'.os = s₁.os ∧ AllBare s'.gens) s₁ := by
    intro H hO hS hok hA hK
    have base_of : ∀ {b : Addr} {o : Obj}, s₁.heap.get? b = some o → H b = none → (hidT s₁.heap H).get? b = some o := fun e n => hidT_get e n
    have noA : ∀ {b : Addr} {o : Obj} {es : Array DictEntry} {ep : Nat}, s₁.heap.get? b = some o → o.data = .dict es ep → H b = none := fun {b o es ep} e d => by
      cases q : H b with
      | none => rfl
      | some u =>
        have e' : b = a := hA b (by rw [q]; simp)
        subst e'
        rw [ha] at e; cases e
        have d' : Data.seq vs.toArray _ = Data.dict es ep := d
        cases d'
    have nsK : ∀ {b : Addr} {m : Str → Option Value}, s₁.heap.Ns b m → (hidT s₁.heap H).Ns b m := fun {b m} ⟨o, es, ep, e, d, r⟩ => ⟨o, es, ep, base_of e (noA e d), d, r⟩
    have hKb : K.In (hidT s₁.heap H) := fun b o e => base_of (KX b o e) (by
      cases q : H b with
      | none => rfl
      | some u =>
        have e' : b = a := hA b (by rw [q]; simp)
        subst e'
        rw [hK (by rw [q]; simp)] at e; cases e)
    have hM : Mod K mg (hidT s₁.heap H) := ⟨hKb, nsK hns, ⟨mb, nsK hb, hbb⟩, let ⟨mc, h1, h2⟩ := hlim; ⟨mc, nsK h1, h2⟩⟩
    have e0 : Env0 P w K mg (hidT s₁.heap H) callerA [] s₁ H := ⟨rfl, hM, fun b o e => of_hidT e, Nat.le_of_eq (hidT_size _ _), trivial, fun b hb => absurd (show b ∈ ([] : List Addr) from hb) (by simp), hok, .of_eq hg⟩
    refine codeAny_mono ((F _ hKb (nsK hns)).run callerA [] s₁ H ⟨[.ref a], []⟩ [.ref a] [.ref a] _ _ hr e0 (hbind s₁ (.ref a)) (.cons rfl .nil) (hsp H hO hS)) fun r s' h => ?_
    cases r with
    | error e => exact (hCX H e s' h).elim
    | ok fl =>
      cases fl with
      | next => exact False.elim h
      | brk => exact False.elim h
      | cont => exact False.elim h
      | ret u =>
        obtain ⟨v, H', os, bare, un, hok', r', q⟩ := h
        have q' : v = .bl true := q
        subst q'
        obtain rfl : u = Value.bool true := r'
        refine ⟨rfl, OldK.of_keep fun b o e => ?_, os, bare⟩
        cases q : H b with
        | none => exact un.keep b o e q (by intro z; exact absurd (show b ∈ ([] : List Addr) from z) (by simp)) (by simp)
        | some u =>
          rcases hO b with z | ⟨ob, xs, z⟩
          · rw [q] at z; cases z
          · have z2 := un.frzs b ob _ z
            obtain ⟨e1, _⟩ := hok b _ z
            obtain ⟨e2, _⟩ := hok' b _ z2
            rw [e] at e1; cases e1
            exact e2
  cases hk : K.lookup a with
  | some o =>
    -- the script is one of the module's own objects
    have e := KX a o hk
    rw [ha] at e
    cases e
    refine core (fun _ => none) (fun _ => .inl rfl) (.inr ⟨_, vs.toArray, _, hk, rfl, rfl, rfl, by rw [List.size_toArray, lenV]; exact hl, by simpa using rv⟩) (fun b u z => by have z' : (none : Option HO) = some u := z; cases z') (fun b z => absurd rfl z) fun z => absurd rfl z
  | none =>
    refine core (fun b => if b = a then some (.frz { cls := .type "list", data := .seq vs.toArray } (.lst (ns.map V.int))) else none) (fun b => ?_) (.inl (.inr ⟨{ cls := .type "list", data := .seq vs.toArray }, if_pos rfl⟩)) (fun b u z => ?_) (fun b z => ?_) fun _ => hk
    · by_cases hb : b = a
      · exact .inr ⟨_, _, if_pos hb⟩
      · exact .inl (if_neg hb)
    · by_cases hb : b = a
      · have z' := (if_pos hb).symm.trans z
        cases z'
        subst hb
        exact ⟨ha, by rw [List.length_map]; exact hl, vs, _, rv, ha⟩
      · have z' := (if_neg hb).symm.trans z
        cases z'
    · by_cases hb : b = a
      · exact hb
      · exact absurd (if_neg hb) z
end L2

namespace L2
open PySem PySem.Spec PyProof.Rows


theorem walk_of {l : PySem.W.OpenLaw} {n k : Nat} {q : Program} {loose : List Str} {XP : (Str → Option Value) → Heap → Prop} {YP : World → Heap → Prop} {d : DefRec} {K : Params → PySem.W.Frag} {CX : World → CXT} {sp : World → Sp} {x : Str}
    (hn : l.most = some n) (hn2 : n ≤ sizeLine) (hdf : d.params.defaults = []) (hr : Room k callerA)
    (hY : ∀ (w : World) (h : Heap), YP w h → (K w.params).In h)
    (F : ∀ (w : World) (mg : Str → Option Value) (fa : Addr) (h : Heap), (K w.params).In h → h.Ns mainGlobals mg → mg d.name = some (.ref fa) →
      ∃ fd : FuncData, (∀ (s : Shared) (u : Value), BindsTo s fd ⟨[u], []⟩ [(x, u)]) ∧
        ∀ base : Heap, (K w.params).In base → base.Ns mainGlobals mg → FnOk l.prog w (K w.params) mg base (CX w) k fa fd [x] (sp w))
    (hsp : ∀ (w : World) (H : Hp) (a : Addr) (ns : List Int), ns.length ≤ n → Only H → SqL (K w.params) H a (ns.map V.int) → sp w [.ref a] H (fun v _ => v = .bl true) fun _ _ _ => False)
    (hCX : ∀ (w : World) (H : Hp) (s : Shared) (e : Value) (s' : Shared), CX w [] H s (fun _ _ _ => False) e s' → False) :
    PySem.W.WalkO q loose XP YP l.row.toRowW d [] (fun f vs => PySem.call f vs) := by
  refine Att.attach_call hn hdf fun w s₀ s₁ mg mb fa o pm cd doc a vs ns G Y ho hd hcd hmg hobj hints hlen hg => ?_
  have KX := hY w _ Y
  obtain ⟨fd, hb, hF⟩ := F w mg fa _ KX G.T.g hmg
  exact law_call KX G.T.g G.T.b G.T.builtins G.T.nolimit hg hobj hints (Nat.le_trans hlen hn2) hr hF hb (fun H hO hS => hsp w H a ns hlen hO hS) fun H e s' => hCX w H s₁ e s'
end L2

/- THE LAST THEOREM (shape; LID, My.* are yours):
   My.Adr: a structure of the addresses that your layer names (classes, functions); My.Txt K t: a structure (Prop) of the equations over K;
   My.txt_mk : {K} {implicit addresses ..} (e1 : nsIn K mainGlobals "law" = some (some (.ref f))) (e2 : K.lookup f = some ⟨oc, od, .func (fnOf "law" "law" params body scope dV kV doc pm an cdv ct), sl⟩) (e3 : codeIn K cdv "law" = true) .. : ∃ t, My.Txt K t

set_option maxRecDepth 100000 in
set_option maxHeartbeats 0 in
theorem PySem.Challenge.cw_LID_holds : PySem.Challenge.rw_LID.Holds := by
  w_on; o_law; k_head; (case hw => w_witness2)
  k_fill
  refine L2.walk_of (l := PySem.Challenge.rw_LID) (n := 63) (k := 40) (x := "script") (CX := fun w => ..) (sp := fun _ => My.sp_law) rfl (by decide) rfl ⟨rfl, by decide, by decide⟩ (fun w h Y => PySem.W.kIn_of Y) ?F ?S ?C
  case F =>
    intro w mg fa h KX G hmg
    have T : ∃ t, My.Txt (L2.KOf KX) t := by
      dsimp only [L2.KOf]                          -- K must stand as «<heap const> w.params» for k_is
      refine' My.txt_mk ?e1 ?e2 ?e3 ..
      (case e1 => PySem.W.k_is)                    -- in the order: a name -> its address -> its object -> its parts
      (case e2 => PySem.W.k_is)
      ..
    obtain ⟨t, T⟩ := T
    have e0 := hmg.symm.trans (PySem.W.mg_of KX G T.law)
    cases e0                                       -- fa is the law's own address
    exact ⟨_, fun s u => .of_eq rfl, fun base kb nb => My.law_fn T kb nb⟩     -- if «.of_eq rfl» comes too early: refine' ⟨_, ?b, fun base kb nb => My.law_fn T kb nb⟩; exact fun s u => .of_eq rfl
  case S => exact fun w H a ns hl hO hS => ..
  case C => exact ..
(the tactic k_is has no namespace: write k_is) -/

namespace L2
open PySem PySem.Spec PyProof.Rows

noncomputable def defArgs (s : Stmt) : Arguments := match s with
  | .FunctionDef _ a _ _ _ _ _ _ _ _ => a
  | _ => { posonlyargs := [], args := [], vararg := none, kwonlyargs := [], kw_defaults := [], kwarg := none, defaults := [] }
noncomputable def defBody (s : Stmt) : List Stmt := match s with
  | .FunctionDef _ _ b _ _ _ _ _ _ _ => b
  | _ => []
noncomputable def defScope (s : Stmt) : Scope := match s with
  | .FunctionDef _ _ _ _ _ _ sc _ _ _ => sc
  | _ => { kind := .function, names := [], isGenerator := false, isCoroutine := false }

noncomputable abbrev CX0 : CXT := fun _ _ _ _ _ _ => False
noncomputable abbrev E0 : XK := fun _ _ _ => False
theorem pass0 {X : Cx} : Passes CX0 X E0 := fun _ _ _ _ _ _ _ h => h.elim

structure Fun (K : PySem.W.Frag) (x qual : Str) (st : Stmt) (f : Addr) (fd : FuncData) : Prop where
  ex : ∃ (oc : Value) (od : Option Addr) (kV doc pm : Value) (an : Option Addr) (cdv ct : Value) (osl : Array (Option Value)),
    fd = PySem.W.fnOf x qual (defArgs st) (defBody st) (defScope st) .none kV doc pm an cdv ct ∧ K.lookup f = some ⟨oc, od, .func fd, osl⟩ ∧ PySem.W.codeIn K cdv qual = true
  kp : PySem.W.keepIn K (.ref f) = true
section
variable {P : Program} {w : World} {K : PySem.W.Frag} {mg : Str → Option Value} {base : Heap}
theorem Fun.ok {x qual : Str} {st : Stmt} {f : Addr} {fd : FuncData} {N ps : List Str} {k : Nat} {sp : Sp} (F : Fun K x qual st f fd) (S : FnScope N ps (defScope st)) (len : ∀ vs H Q E, sp vs H Q E → vs.length = ps.length)
    (hbody : ∀ (cdv : Value) (A : Around) (outer : List Env) (s : Shared) (H : Hp) (vs : List V) (Q : VK) (E : XK), Room k (A.deeper (envOfC qual (defScope st) s.heap.objs.size f cdv)) → sp vs H Q E →
      ∃ t, PSs (cxOf CX0 P w K mg base N qual (defScope st) f cdv A outer s H E).nox (defBody st) t ∧ t { nx := fun _ H' => Q .non H', rt := Q } (start N vs) H) : FnOk P w K mg base CX0 (k + 1) f fd ps sp := by
  obtain ⟨oc, od, kV, doc, pm, an, cdv, ct, osl, rfl, lk, hcd⟩ := F.ex
  refine fn_of lk hcd S len fun A outer s H vs Q E hr hsp => ?_
  obtain ⟨t, h, q⟩ := hbody cdv A outer s H vs Q E hr hsp
  exact ⟨t, h.nox, q⟩
theorem Fun.binds {x qual : Str} {st : Stmt} {f : Addr} {fd : FuncData} {ps : List Str} (F : Fun K x qual st f fd)
    (h : ∀ (kV doc pm : Value) (an : Option Addr) (cdv ct : Value) (us : List Value), us.length = ps.length → bindArgs (PySem.W.fnOf x qual (defArgs st) (defBody st) (defScope st) .none kV doc pm an cdv ct) ⟨us, []⟩ = pure (ps.zip us)) : Binds K fd ps [] := by
  obtain ⟨oc, od, kV, doc, pm, an, cdv, ct, osl, rfl, lk, hcd⟩ := F.ex
  exact .all (h kV doc pm an cdv ct)
theorem fun_mk {x qual : Str} {st : Stmt} {f : Addr} {oc : Value} {od an : Option Addr} {osl : Array (Option Value)} {kV doc pm cdv ct : Value} (l : K.lookup f = some ⟨oc, od, .func (PySem.W.fnOf x qual (defArgs st) (defBody st) (defScope st) .none kV doc pm an cdv ct), osl⟩)
    (c : PySem.W.codeIn K cdv qual = true) (k : PySem.W.keepIn K (.ref f) = true) : Fun K x qual st f (PySem.W.fnOf x qual (defArgs st) (defBody st) (defScope st) .none kV doc pm an cdv ct) := ⟨⟨oc, od, kV, doc, pm, an, cdv, ct, osl, rfl, l, c⟩, k⟩
end

section
variable {X : Cx}
theorem pv (i : Nat) {x : Str} {pos : Pos} (hN : X.N[i]? = some x := by rfl) (hv : Vis X.env.scope x := by first | exact Or.inl rfl | exact Or.inr (Or.inl rfl) | exact Or.inr (Or.inr rfl)) (hd : (x == ("__debug__" : Str)) = false := by decide)
    (hcd : (x == ("__classdict__" : Str)) = false := by decide) : PE X (.Name x pos) (tVar i) := pe_var hN hv hd hcd
end

theorem iteF {A B : Prop} (h : B) : if false = true then A else B := by
  rw [if_neg Bool.false_ne_true]
  exact h
theorem iteT {A B : Prop} (h : A) : if true = true then A else B := by
  rw [if_pos rfl]
  exact h
theorem ite2 {c A B : Prop} [Decidable c] (h1 : c → A) (h2 : ¬ c → B) : if c then A else B := by
  by_cases h : c
  · rw [if_pos h]
    exact h1 h
  · rw [if_neg h]
    exact h2 h

noncomputable def Same (H H' : Hp) : Prop := ∀ b o, H b = some o → H' b = some o
theorem Same.refl (H : Hp) : Same H H := fun _ _ h => h
theorem Same.trans {H H1 H2 : Hp} (a : Same H H1) (b : Same H1 H2) : Same H H2 := fun c o h => b c o (a c o h)
theorem Same.free {H H' : Hp} (e : Same H H') {l : Addr} (h : H' l = Option.none) : H l = Option.none := by
  cases q : H l with
  | none => rfl
  | some o =>
    rw [e l o q] at h
    cases h

end L2
set_option maxHeartbeats 4000000
namespace LwM
theorem gcd_one_of_dvd {a b c : Int} (h : Int.gcd a b = 1) (d : c ∣ b) : Int.gcd a c = 1 := by
  have := Int.gcd_dvd_gcd_of_dvd_right a d
  rw [h] at this
  exact Nat.eq_one_of_dvd_one this
theorem gcd_one_of_dvd' {a b c : Int} (h : Int.gcd a b = 1) (d : c ∣ a) : Int.gcd c b = 1 := by
  rw [Int.gcd_comm] at h ⊢
  exact gcd_one_of_dvd h d
theorem add_low {t b o u : Int} (hb : 0 < b) (hu : 0 < u) (g1 : Int.gcd t b = 1) (g2 : Int.gcd o u = 1) :
    (t * (u / (Int.gcd b u : Int)) + o * (b / (Int.gcd b u : Int))) / (Int.gcd (t * (u / (Int.gcd b u : Int)) + o * (b / (Int.gcd b u : Int))) (Int.gcd b u) : Int) = (t * u + o * b) / (Int.gcd (t * u + o * b) (b * u) : Int) ∧
    (b / (Int.gcd b u : Int)) * (u / (Int.gcd (t * (u / (Int.gcd b u : Int)) + o * (b / (Int.gcd b u : Int))) (Int.gcd b u) : Int)) = (b * u) / (Int.gcd (t * u + o * b) (b * u) : Int) := by
  have sp : 0 < Int.gcd b u := Int.gcd_pos_of_ne_zero_left _ (by omega)
  have c1 : Int.gcd (b / (Int.gcd b u : Int)) (u / (Int.gcd b u : Int)) = 1 := Int.gcd_ediv_gcd_ediv_gcd sp
  have d1 : (Int.gcd b u : Int) ∣ b := Int.gcd_dvd_left ..
  have d2 : (Int.gcd b u : Int) ∣ u := Int.gcd_dvd_right ..
  have e1 : (Int.gcd b u : Int) * (b / (Int.gcd b u : Int)) = b := Int.mul_ediv_cancel' d1
  have e2 : (Int.gcd b u : Int) * (u / (Int.gcd b u : Int)) = u := Int.mul_ediv_cancel' d2
  have sp' : (0 : Int) < (Int.gcd b u : Int) := by omega
  generalize hs : (Int.gcd b u : Int) = s at *
  generalize hb' : b / s = b' at *
  generalize hu' : u / s = u' at *
  generalize hT : t * u' + o * b' = T at *
  have v1 : b' ∣ b := ⟨s, by rw [Int.mul_comm]; exact e1.symm⟩
  have v2 : u' ∣ u := ⟨s, by rw [Int.mul_comm]; exact e2.symm⟩
  have x1 : t * u + o * b = s * T := by
    rw [← hT, Int.mul_add, ← Int.mul_assoc, ← Int.mul_assoc, Int.mul_comm s t, Int.mul_comm s o, Int.mul_assoc, Int.mul_assoc, e1, e2]
  have x2 : b * u = s * (b' * u) := by rw [← Int.mul_assoc, e1]
  have x3 : b' * u = s * b' * u' := by rw [Int.mul_comm s b', Int.mul_assoc, e2]
  have y1 : Int.gcd T b' = 1 := by
    rw [← hT, Int.gcd_add_mul_right_left, Int.gcd_mul_right_left_of_gcd_eq_one (gcd_one_of_dvd g1 v1), Int.gcd_comm]
    exact c1
  have y2 : Int.gcd T u' = 1 := by
    rw [← hT, Int.add_comm, Int.gcd_add_mul_right_left, Int.gcd_mul_right_left_of_gcd_eq_one (gcd_one_of_dvd g2 v2)]
    exact c1
  have z : Int.gcd T (b' * u) = Int.gcd T s := by
    rw [x3, Int.gcd_mul_left_right_of_gcd_eq_one y2, Int.gcd_mul_left_right_of_gcd_eq_one y1]
  have g : (Int.gcd (t * u + o * b) (b * u) : Int) = s * (Int.gcd T s : Int) := by
    rw [x1, x2, Int.gcd_mul_left, z, Int.natCast_mul, Int.natAbs_of_nonneg (by omega)]
  rw [g]
  refine ⟨?_, ?_⟩
  · rw [x1, Int.mul_ediv_mul_of_pos _ _ sp']
  · rw [x2, Int.mul_ediv_mul_of_pos _ _ sp']
    exact (Int.mul_ediv_assoc _ (Int.dvd_trans (Int.gcd_dvd_right ..) d2)).symm
theorem mul_low {t b o u : Int} (hb : 0 < b) (hu : 0 < u) (g1 : Int.gcd t b = 1) (g2 : Int.gcd o u = 1) :
    (t / (Int.gcd t u : Int)) * (o / (Int.gcd o b : Int)) = (t * o) / (Int.gcd (t * o) (b * u) : Int) ∧
    (b / (Int.gcd o b : Int)) * (u / (Int.gcd t u : Int)) = (b * u) / (Int.gcd (t * o) (b * u) : Int) := by
  have fp : 0 < Int.gcd t u := Int.gcd_pos_of_ne_zero_right _ (by omega)
  have sp : 0 < Int.gcd o b := Int.gcd_pos_of_ne_zero_right _ (by omega)
  have c1 := Int.gcd_ediv_gcd_ediv_gcd fp
  have c2 := Int.gcd_ediv_gcd_ediv_gcd sp
  have e1 : (Int.gcd t u : Int) * (t / (Int.gcd t u : Int)) = t := Int.mul_ediv_cancel' (Int.gcd_dvd_left ..)
  have e2 : (Int.gcd t u : Int) * (u / (Int.gcd t u : Int)) = u := Int.mul_ediv_cancel' (Int.gcd_dvd_right ..)
  have e3 : (Int.gcd o b : Int) * (o / (Int.gcd o b : Int)) = o := Int.mul_ediv_cancel' (Int.gcd_dvd_left ..)
  have e4 : (Int.gcd o b : Int) * (b / (Int.gcd o b : Int)) = b := Int.mul_ediv_cancel' (Int.gcd_dvd_right ..)
  have fp' : (0 : Int) < (Int.gcd t u : Int) := by omega
  have sp' : (0 : Int) < (Int.gcd o b : Int) := by omega
  generalize (Int.gcd t u : Int) = f at *
  generalize (Int.gcd o b : Int) = s at *
  generalize t / f = t' at *
  generalize u / f = u' at *
  generalize o / s = o' at *
  generalize b / s = b' at *
  have v1 : t' ∣ t := ⟨f, by rw [Int.mul_comm]; exact e1.symm⟩
  have v2 : u' ∣ u := ⟨f, by rw [Int.mul_comm]; exact e2.symm⟩
  have v3 : o' ∣ o := ⟨s, by rw [Int.mul_comm]; exact e3.symm⟩
  have v4 : b' ∣ b := ⟨s, by rw [Int.mul_comm]; exact e4.symm⟩
  have x1 : t * o = (f * s) * (t' * o') := by
    rw [← e1, ← e3]; simp only [Int.mul_assoc, Int.mul_left_comm, Int.mul_comm]
  have x2 : b * u = (f * s) * (b' * u') := by
    rw [← e2, ← e4]; simp only [Int.mul_assoc, Int.mul_left_comm, Int.mul_comm]
  have n1 : Int.gcd (t' * o') b' = 1 := by
    rw [Int.gcd_mul_right_left_of_gcd_eq_one (gcd_one_of_dvd' (gcd_one_of_dvd g1 v4) v1)]
    exact c2
  have n2 : Int.gcd (t' * o') u' = 1 := by
    rw [Int.gcd_mul_right_left_of_gcd_eq_one c1]
    exact gcd_one_of_dvd' (gcd_one_of_dvd g2 v2) v3
  have n3 : Int.gcd (t' * o') (b' * u') = 1 := by
    rw [Int.gcd_mul_right_right_of_gcd_eq_one n1]
    exact n2
  have fs : (0 : Int) < f * s := Int.mul_pos fp' sp'
  have g : (Int.gcd (t * o) (b * u) : Int) = f * s := by
    rw [x1, x2, Int.gcd_mul_left, n3, Nat.mul_one, Int.natAbs_of_nonneg (by omega)]
  rw [g, x1, x2, Int.mul_ediv_cancel_left _ (by omega), Int.mul_ediv_cancel_left _ (by omega)]
  exact ⟨rfl, rfl⟩
end LwM

namespace LwM
theorem gcd_step (a b : Int) : Int.gcd b (a % b) = Int.gcd a b := by
  rw [Int.emod_def, Int.mul_comm b, Int.gcd_sub_mul_right_right, Int.gcd_comm]
theorem gcd_pos (a b : Int) (h : 0 < b) : (1 : Int) ≤ (Int.gcd a b : Int) := by
  have : 0 < Int.gcd a b := Int.gcd_pos_of_ne_zero_right _ (by omega)
  omega
theorem gcd_le (a b : Int) (h : 0 < b) : (Int.gcd a b : Int) ≤ b := Int.le_of_dvd h (Int.gcd_dvd_right a b)
theorem low_same (t b : Int) (h : 0 < b) : (t / (Int.gcd t b : Int) = t ∧ b / (Int.gcd t b : Int) = b) ↔ Int.gcd t b = 1 := by
  have g1 := gcd_pos t b h
  constructor
  · rintro ⟨_, h2⟩
    by_cases g : Int.gcd t b = 1
    · exact g
    · exfalso
      have g2 : (2 : Int) ≤ (Int.gcd t b : Int) := by omega
      have := Int.ediv_lt_of_lt_mul (a := b) (b := b) (c := (Int.gcd t b : Int)) (by omega) (by
        have : b * 2 ≤ b * (Int.gcd t b : Int) := Int.mul_le_mul_of_nonneg_left g2 (by omega)
        omega)
      omega
  · intro g
    rw [g]
    simp
theorem ediv_abs (t g : Int) (h : 1 ≤ g) : (t / g).natAbs ≤ t.natAbs := by
  rcases Int.lt_or_le t 0 with n | n
  · have h1 : t / g < 0 := Int.ediv_neg_of_neg_of_pos n (by omega)
    have h2 : t ≤ t / g := by
      rw [Int.le_ediv_iff_mul_le (by omega)]
      have := Int.mul_le_mul_of_nonpos_left (a := t) (b := g) (c := 1) (by omega) h
      omega
    omega
  · have h1 : 0 ≤ t / g := Int.ediv_nonneg n (by omega)
    have h2 : t / g ≤ t := Int.ediv_le_self g n
    omega
theorem log2_lt {n : Nat} {k : Nat} (hk : 0 < k) (h : n < 2 ^ k) : n.log2 < k := by
  by_cases e : n = 0
  · subst e
    simpa using hk
  · exact (Nat.log2_lt e).mpr h
end LwM

namespace Lw
open PySem PySem.Spec PyProof.Rows L2

inductive Kd where
  | non | bl | int | str | lst | tup
  deriving DecidableEq
noncomputable def Kd.ty : Kd → String
  | .non => "NoneType" | .bl => "bool" | .int => "int" | .str => "str" | .lst => "list" | .tup => "tuple"
inductive KdOf (H : Hp) : V → Kd → Prop where
  | non : KdOf H .non .non
  | bl (b : Bool) : KdOf H (.bl b) .bl
  | int (i : Int) : KdOf H (.int i) .int
  | str (x : Str) : KdOf H (.str x) .str
  | lst {a : Addr} {xs : List V} (e : H a = some (.lst xs)) : KdOf H (.ref a) .lst
  | tup {a : Addr} {xs : List V} (e : H a = some (.tup xs)) : KdOf H (.ref a) .tup
theorem KdOf.ty {K : PySem.W.Frag} {H : Hp} {v : V} {k : Kd} (h : KdOf H v k) : TyOf K H v (.type k.ty) := by
  cases h with
  | non => exact .non
  | bl b => exact .bl b
  | int i => exact .int i
  | str x => exact .str x
  | lst e => exact .lst e
  | tup e => exact .tup e
noncomputable def Kd.isInt : Kd → Bool
  | .int => true | .bl => true | _ => false
noncomputable def Kd.isBool : Kd → Bool
  | .bl => true | _ => false
noncomputable def Isi (T : String) (f : Kd → Bool) : Prop := ∀ (K : PySem.W.Frag) (k : Kd), PySem.W.kitOne K (.type k.ty) (.type T) = some (f k)
theorem isi_int : Isi "int" Kd.isInt := fun K k => by cases k <;> rfl
theorem isi_bool : Isi "bool" Kd.isBool := fun K k => by cases k <;> rfl
section
variable {X : Cx}
noncomputable def rIsi (T : String) (f : Kd → Bool) : List V → Hp → VK → Prop := fun xs H Q => match xs with
  | [x, y] => y = .ty T ∧ ∃ k, KdOf H x k ∧ Q (.bl (f k)) H
  | _ => False
theorem call_isi {T : String} {f : Kd → Bool} (hf : Isi T f) : CallR X (.builtin "isinstance") (rIsi T f) := by
  intro pins s σ H xs us Q I r h
  match xs, h with
  | [x, y], h =>
    obtain ⟨rfl, k, ty, q⟩ := h
    obtain ⟨u, w', rfl, ru, rw'⟩ := vals2 r
    cases (show w' = Value.type T from rw')
    exact isinst_ok I ru (ty.ty) (hf X.K k) fun tk => ⟨.bl (f k), H, I.tok tk, rfl, q⟩
theorem pe_isi {T : String} {f : Kd → Bool} {x : Str} {e : Expr} {te : TE} {p p2 pos : Pos} (hf : Isi T f) (hm : X.mg "isinstance" = none) (hm2 : X.mg x = none) (hb : bootBuiltins x = some (.type T)) (he : PE X e te)
    (hg : Gl X "isinstance" := by rfl) (hg2 : Gl X x := by rfl) (hn : x ≠ "__name__" := by decide) (hd : (x == ("__debug__" : Str)) = false := by decide)
    (hs : starEach [e, .Name x p2] X.env = (false, eval e X.env) :: starEach [.Name x p2] X.env := by rfl) (hs2 : starEach [.Name x p2] X.env = (false, eval (.Name x p2) X.env) :: starEach [] X.env := by rfl)
    (hpl : (backTo pos (starEach [.Name x p2] X.env)).any (·.1) = false := by rfl) : PE X (.Call (.Name "isinstance" p) [e, .Name x p2] [] pos) (tCB (rIsi T f) (tCons te (tCons (tC (.ty T)) tNil))) :=
  pe_callB (X := X) (p := p) (pos := pos) (call_isi hf) hg hm boot_isinstance (pa_cons he (pa_cons (pe_bltn (v := .ty T) hg2 hm2 hb rfl hn hd) pa_nil hs2) hs) (by decide) (by decide) hs hpl

theorem ints_get : ∀ {vs : List Value} {ns : List Int} {j : Nat} (_ : IntsAre vs ns) (h : j < vs.length), ∃ n t, ns[j]? = some n ∧ vs[j] = .int n t
  | _, _, _, .nil, h => absurd h (Nat.not_lt_zero _)
  | _, _, 0, .cons n t _, _ => ⟨n, t, rfl, rfl⟩
  | _, _, j + 1, .cons _ _ r, h => by
    obtain ⟨n, t, e1, e2⟩ := ints_get (j := j) r (by simpa using h)
    exact ⟨n, t, by simpa using e1, by simpa using e2⟩
theorem ints_len : ∀ {vs : List Value} {ns : List Int}, IntsAre vs ns → vs.length = ns.length
  | _, _, .nil => rfl
  | _, _, .cons _ _ r => by simp [ints_len r]
theorem all_eq (ns ms : List Int) : ((List.range (min ns.length ms.length)).all (fun j => decide (ns[j]? = ms[j]?)) && ns.length == ms.length) = decide (ns = ms) := by
  by_cases e : ns = ms
  · subst e
    simp
  · rw [decide_eq_false e]
    by_cases hl : ns.length = ms.length
    · rw [Bool.and_eq_false_iff]
      left
      rw [← Bool.not_eq_true]
      intro h
      apply e
      rw [List.all_eq_true] at h
      apply List.ext_getElem?
      intro j
      by_cases hj : j < ns.length
      · exact of_decide_eq_true (h j (List.mem_range.mpr (by omega)))
      · rw [List.getElem?_eq_none (by omega), List.getElem?_eq_none (by omega)]
    · simp [hl]
noncomputable def rEqT (K : PySem.W.Frag) : R2 := fun x y H Q => ∃ (a b : Addr) (ns ms : List Int), x = .ref a ∧ y = .ref b ∧ SqT K H a (ns.map V.int) ∧ SqT K H b (ms.map V.int) ∧ Q (.bl (decide (ns = ms))) H
theorem op_eqT (hu : X.A.units < cLine) : OpR X (compareOp .Eq) (rEqT X.K) := by
  intro pins s σ H x y v u Q I rx ry h
  obtain ⟨a, b, ns, ms, rfl, rfl, ha, hb, q⟩ := h
  cases rx
  cases ry
  obtain ⟨its, r1, p1, _⟩ := I.tuple ha
  obtain ⟨its2, r2, p2, _⟩ := I.tuple hb
  have i1 : IntsAre its ns := intsAre_of r1
  have i2 : IntsAre its2 ms := intsAre_of r2
  refine SeqAt.eq_tupleAt (e := fun j => decide (ns[j]? = ms[j]?)) p1 p2 hu (fun j h1 h2 => ?_) ?_
  · obtain ⟨n, t, e1, e2⟩ := ints_get (j := j) i1 (by simpa using h1)
    obtain ⟨m, t', e3, e4⟩ := ints_get (j := j) i2 (by simpa using h2)
    have e5 : its.toArray[j] = .int n t := by simpa using e2
    have e6 : its2.toArray[j] = .int m t' := by simpa using e4
    rw [e5, e6]
    have e7 : decide (ns[j]? = ms[j]?) = (n == m) := by
      rw [e1, e3]
      by_cases e : n = m <;> simp [e]
    rw [e7]
    exact SeqAt.EqAt.int_int _ _ _ _
  · have e8 := all_eq ns ms
    rw [List.size_toArray, List.size_toArray, ints_len i1, ints_len i2, e8]
    exact ⟨.bl (decide (ns = ms)), H, I, rfl, q⟩

noncomputable def CDivL (_ j : Int) : Prop := 0 < j ∧ j.natAbs < 2 ^ 8000
theorem op_fdivL : OpR X (binaryOp .FloorDiv) (rI CDivL fun i j => .int (i / j)) := opI fun i j _ _ _ _ _ hc q => by
  refine floordiv_int (by have := hc.1; omega) ?_ (.inl (PyProof.noPylong_of_log2 (Nat.lt_of_lt_of_le (LwM.log2_lt (by decide) hc.2) (by decide))))
  rw [Int.fdiv_eq_ediv_of_nonneg _ (Int.le_of_lt hc.1)]
  exact q
noncomputable def CMulL (i j : Int) : Prop := i.natAbs < 2 ^ 100000 ∧ j.natAbs < 2 ^ 100000
theorem op_mulL : OpR X (binaryOp .Mult) (rI CMulL fun i j => .int (i * j)) := opI fun _ _ _ _ _ _ _ hc q => mul_int q (IntMulOk.of_bits (Nat.le_trans (PySem.intBits_le_iff.mpr hc.1) (by decide)) (Nat.le_trans (PySem.intBits_le_iff.mpr hc.2) (by decide)))
end

theorem iteP {c : Bool} {A B : Prop} (h : c = true) (a : A) : if c = true then A else B := by
  rw [if_pos h]
  exact a
theorem iteN {c : Bool} {A B : Prop} (h : c = false) (b : B) : if c = true then A else B := by
  subst h
  exact iteF b
theorem seq_join {t k : TS} {D : Ends} {σ : L2.St} {H : Hp} (J : L2.St → Hp → Prop) (h2 : ∀ σ H, J σ H → k D σ H) (h1 : (∀ σ H, J σ H → k D σ H) → t { D with nx := k D } σ H) : tSeq t k D σ H := h1 h2
noncomputable def But (p : Addr) (H H' : Hp) : Prop := ∀ c o, H c = some o → c ≠ p → H' c = some o
theorem But.refl (p : Addr) (H : Hp) : But p H H := fun _ _ h _ => h
theorem But.trans {p : Addr} {H H1 H2 : Hp} (a : But p H H1) (b : But p H1 H2) : But p H H2 := fun c o h n => b c o (a c o h n) n
theorem But.upd (p : Addr) (H : Hp) (o : HO) : But p H (upd H p o) := fun c _ h n => by
  rw [upd_ne n]
  exact h
theorem But.of {p : Addr} {H H' : Hp} (s : Same H H') : But p H H' := fun c o h _ => s c o h
theorem same_upd {H : Hp} {p : Addr} (o : HO) (n : H p = none) : Same H (upd H p o) := fun b q e => by
  rw [upd_ne (ne_of_none e n)]
  exact e
theorem fresh {H : Hp} {o : HO} {Q : VK} (h : ∀ p H', H p = none → Same H H' → H' p = some o → Q (.ref p) H') : ∀ p, H p = none → Q (.ref p) (upd H p o) :=
  fun p n => h p _ n (same_upd o n) upd_same
noncomputable def New (H : Hp) (o : HO) (Q : VK) : Prop := ∀ p H', H p = none → Same H H' → H' p = some o → Q (.ref p) H'
theorem New.at {H : Hp} {o : HO} {Q : VK} (h : New H o Q) {p : Addr} (n : H p = none) : Q (.ref p) (upd H p o) := h p _ n (same_upd o n) upd_same
section
variable {X : Cx} {es : List Expr} {t : TA} {pos : Pos}
noncomputable def tTupF (t : TA) : TE := fun σ H Q => t σ H fun xs H1 => xs.length ≤ sizeLine ∧ New H1 (.tup xs) Q
noncomputable def tLstF (t : TA) : TE := fun σ H Q => t σ H fun xs H1 => xs.length ≤ sizeLine ∧ New H1 (.lst xs) Q
theorem pe_tupF {x1} (h : PA X es t) : PE X (.Tuple es x1 pos) (tTupF t) := by
  intro pins s σ H Q I hq
  refine wpAny_Tuple_spliced (thn (h pos pins s σ H _ I hq) fun us s1 ⟨xs, H1, I1, r, z, q⟩ => ⟨by rw [← r.length]; exact z, ?_⟩)
  have hf : H1 s1.heap.objs.size = none := I1.hok.fresh (Nat.le_refl _)
  refine ⟨.ref s1.heap.objs.size, upd H1 s1.heap.objs.size (.tup xs), I1.laid (t' := s1.toks) (fun b u e => Heap.get?_push_of_some _ e) (Nat.le_refl _) ?_, rfl, q.at hf⟩
  exact ⟨z, us, r, ⟨_, Heap.get?_push_size _ rfl, rfl, _, rfl⟩⟩
theorem pe_lstF (h : PA X es t) : PE X (.List es pos) (tLstF t) := by
  intro pins s σ H Q I hq
  refine wpAny_List_spliced (thn (h pos pins s σ H _ I hq) fun us s1 ⟨xs, H1, I1, r, z, q⟩ => ⟨by rw [← r.length]; exact z, ?_⟩)
  have hf : H1 s1.heap.objs.size = none := I1.hok.fresh (Nat.le_refl _)
  refine ⟨.ref s1.heap.objs.size, upd H1 s1.heap.objs.size (.lst xs), I1.laid (t' := s1.toks) (fun b u e => Heap.get?_push_of_some _ e) (Nat.le_refl _) ?_, rfl, q.at hf⟩
  exact ⟨z, us, 0, r, Heap.get?_push_size _ rfl⟩
theorem opr_of {f : Value → Value → Sem Value} {r r' : R2} (h : OpR X f r) (i : ∀ x y H Q, r' x y H Q → r x y H Q) : OpR X f r' :=
  fun pins s σ H x y v u Q I rx ry q => h pins s σ H x y v u Q I rx ry (i x y H Q q)
theorem callr_of {f : Value} {r r' : List V → Hp → VK → Prop} (h : CallR X f r) (i : ∀ xs H Q, r' xs H Q → r xs H Q) : CallR X f r' :=
  fun pins s σ H xs us Q I rv q => h pins s σ H xs us Q I rv (i xs H Q q)
theorem slr_of {r r' : V → Option Int → Option Int → Hp → VK → Prop} (h : SlR X r) (i : ∀ x a b H Q, r' x a b H Q → r x a b H Q) : SlR X r' :=
  fun pins s σ H x v vl vu lo hi sl Q I rx hs pl pu q => h pins s σ H x v vl vu lo hi sl Q I rx hs pl pu (i x lo hi H Q q)
noncomputable def rListF (K : PySem.W.Frag) : List V → Hp → VK → Prop := fun xs H Q => ∃ p ys, xs = [.ref p] ∧ (SqL K H p ys ∨ SqT K H p ys) ∧ New H (.lst ys) Q
theorem call_listF : CallR X (.type "list") (rListF X.K) := callr_of call_list_of fun xs H Q ⟨p, ys, e, h, q⟩ => ⟨p, ys, e, h, fun l n => q.at n⟩
noncomputable def rCatF : R2 := fun x y H Q => ∃ l b xs zs, x = .ref l ∧ y = .ref b ∧ H l = some (.lst xs) ∧ H b = some (.lst zs) ∧ xs.length + zs.length ≤ sizeLine ∧ New H (.lst (xs ++ zs)) Q
theorem op_catF : OpR X (binaryOp .Add) rCatF := opr_of op_cat fun x y H Q ⟨l, b, xs, zs, e1, e2, h1, h2, h3, q⟩ => ⟨l, b, xs, zs, e1, e2, h1, h2, h3, fun p n => q.at n⟩
noncomputable def rSlLF (K : PySem.W.Frag) : V → Option Int → Option Int → Hp → VK → Prop := fun x lo hi H Q => ∃ a xs, x = .ref a ∧ SqL K H a xs ∧ New H (.lst (cutV xs lo hi)) Q
theorem sl_listF : SlR X (rSlLF X.K) := slr_of sl_list fun x a b H Q ⟨p, xs, e, h1, q⟩ => ⟨p, xs, e, h1, fun p n => q.at n⟩
end
end Lw

namespace Lw
open PySem PySem.Spec PyProof.Rows L2
section
variable {prog : Program} {w : World} {A : Around} {R : Result → Shared → Prop} {s : Shared}
theorem compLoop_any {elt target iter : Expr} {scope : Scope} {pos : Pos} {it acc : Value} {env : Env} (I : Nat → Shared → Prop)
    (turn : ∀ n s, I n s → wpAny (model prog w) A (pyNext it) (fun r s₁ => match r with
      | none => R (.ok .next) s₁
      | some v => wpAny (model prog w) A (letOwnedTupleGo target it v) (fun _ s₁' => wpAny (model prog w) A (assign target env v) (fun _ s₂ => wpAny (model prog w) A (eval elt env) (fun x s₃ =>
          wpAny (model prog w) A (call (.builtin "list.append") [acc, x]) (fun _ s₄ => ∃ m, m < n ∧ I m s₄) (notedBy (model prog w) A env fun e s' => R (.error e) s') s₃)
          (notedBy (model prog w) A env fun e s' => R (.error e) s') s₂) (notedBy (model prog w) A env fun e s' => R (.error e) s') s₁') (notedBy (model prog w) A env fun e s' => R (.error e) s') s₁) (notedBy (model prog w) A env fun e s' => R (.error e) s') s)
    (n : Nat) (h : I n s) :
    codeAny (model prog w) A (.compLoop (.ListComp elt [⟨target, iter, [], 0⟩] scope pos) 0 it acc env) R s := by
  refine codeAny_loop rfl I (fun n s hI => ?_) n h
  show wpAny _ _ ((compTurn (.ListComp elt [⟨target, iter, [], 0⟩] scope pos) 0 it acc env).onRaise (fun x => do noteFrame x env; theTreesLotGoes x)) _ _ s
  refine wpAny_noted ?_
  rw [compTurn_list1]
  refine wpAny_bind (wpAny_standAt (wpAny_bind (wpAny_mono (turn n s hI) (fun r s₁ h₁ => ?_) fun _ _ h' => h')))
  cases r with
  | none => exact wpAny_pure h₁
  | some v =>
    refine wpAny_bind (wpAny_mono h₁ (fun _ s₁' h₁' => ?_) fun _ _ h' => h')
    exact wpAny_bind (wpAny_mono h₁' (fun _ s₂ h₂ => wpAny_bind (wpAny_bind (wpAny_mono h₂ (fun x s₃ h₃ => wpAny_bind (wpAny_mono h₃
      (fun _ s₄ h₄ => wpAny_pure (wpAny_pure ⟨rfl, h₄⟩)) fun _ _ h' => h')) fun _ _ h' => h'))) fun _ _ h' => h')
end
section
variable {X : Cx}
end
end Lw
namespace Lw
open PySem PySem.Spec PyProof.Rows L2
mutual
inductive DecV (H : Hp) : V → PyData → Prop where
  | non : DecV H .non .none
  | bl (b : Bool) : DecV H (.bl b) (.bool b)
  | int (i : Int) : DecV H (.int i) (.int i)
  | str (x : Str) : DecV H (.str x) (.str x)
  | lst {a : Addr} {xs : List V} {ds : List PyData} (e : H a = some (.lst xs)) (h : DecVs H xs ds) : DecV H (.ref a) (.list ds)
  | tup {a : Addr} {xs : List V} {ds : List PyData} (e : H a = some (.tup xs)) (h : DecVs H xs ds) : DecV H (.ref a) (.tuple ds)
inductive DecVs (H : Hp) : List V → List PyData → Prop where
  | nil : DecVs H [] []
  | cons {x : V} {d : PyData} {xs : List V} {ds : List PyData} (h : DecV H x d) (t : DecVs H xs ds) : DecVs H (x :: xs) (d :: ds)
end
section
variable {X : Cx}
mutual
theorem DecV.reads {pins : List (Addr × Obj)} {σ : L2.St} {H : Hp} {s : Shared} (I : Inv X pins σ H s) : ∀ {x : V} {d : PyData} {u : Value}, DecV H x d → RelV x u → ∃ as, Reads s.heap u d as
  | _, _, _, .non, r => by cases r; exact ⟨_, .none⟩
  | _, _, _, .bl b, r => by cases r; exact ⟨_, .bool b⟩
  | _, _, _, .int i, r => by obtain ⟨t, rfl⟩ := r; exact ⟨_, .int i t⟩
  | _, _, _, .str x, r => by obtain ⟨t, rfl⟩ := r; exact ⟨_, .str x t⟩
  | _, _, _, .lst e h, r => by
    cases r
    obtain ⟨its, rv, ⟨o, n, ho, hc, _, hd⟩, _⟩ := I.list (SqL.of e)
    obtain ⟨as, ra⟩ := DecVs.reads I h rv
    exact ⟨_, .list ho hc hd (by simpa using ra)⟩
  | _, _, _, .tup e h, r => by
    cases r
    obtain ⟨its, rv, ⟨o, ho, hc, n, hd⟩, _⟩ := I.tuple (SqT.of e)
    obtain ⟨as, ra⟩ := DecVs.reads I h rv
    exact ⟨_, .tuple ho hc hd (by simpa using ra)⟩
theorem DecVs.reads {pins : List (Addr × Obj)} {σ : L2.St} {H : Hp} {s : Shared} (I : Inv X pins σ H s) : ∀ {xs : List V} {ds : List PyData} {us : List Value}, DecVs H xs ds → Vals xs us → ∃ as, ReadsAll s.heap us ds as
  | _, _, _, .nil, r => by cases r; exact ⟨_, .nil⟩
  | _, _, _, .cons h t, r => by
    cases r with
    | cons q r =>
      obtain ⟨as, ra⟩ := DecV.reads I h q
      obtain ⟨bs, rb⟩ := DecVs.reads I t r
      exact ⟨_, .cons ra rb⟩
end
noncomputable def DataOk (d : PyData) : Prop := d.canLay0 = true ∧ d.depth ≤ 60
noncomputable def rEqD : R2 := fun x y H Q => ∃ da db, DecV H x da ∧ DecV H y db ∧ DataOk da ∧ DataOk db ∧ Q (.bl (PyData.eqv da db)) H
noncomputable def rNeD : R2 := fun x y H Q => ∃ da db, DecV H x da ∧ DecV H y db ∧ DataOk da ∧ DataOk db ∧ Q (.bl (!PyData.eqv da db)) H
theorem op_eqD (hu : X.A.units + 64 < cLine) : OpR X (compareOp .Eq) rEqD := by
  intro pins s σ H x y v u Q I rx ry h
  obtain ⟨da, db, d1, d2, o1, o2, q⟩ := h
  obtain ⟨as, ra⟩ := d1.reads I rx
  obtain ⟨bs, rb⟩ := d2.reads I ry
  exact SeqAt.rcAt_reads ra rb o1.1 o2.1 (by have := o1.2; omega) _ _ _ _ ⟨.bl _, H, I, rfl, q⟩
theorem op_neD (hu : X.A.units + 64 < cLine) : OpR X (compareOp .NotEq) rNeD := by
  intro pins s σ H x y v u Q I rx ry h
  obtain ⟨da, db, d1, d2, o1, o2, q⟩ := h
  obtain ⟨as, ra⟩ := d1.reads I rx
  obtain ⟨bs, rb⟩ := d2.reads I ry
  exact SeqAt.rcNeAt_reads ra rb o1.1 o2.1 (by have := o1.2; omega) _ _ _ _ ⟨.bl _, H, I, rfl, q⟩
noncomputable def rAll (K : PySem.W.Frag) : List V → Hp → VK → Prop := fun xs H Q => ∃ (a : Addr) (bs : List Bool), xs = [.ref a] ∧ SqL K H a (bs.map V.bl) ∧ Q (.bl (bs.all id)) H
theorem bls_get : ∀ {bs : List Bool} {us : List Value} {i : Nat} {v : Value}, Vals (bs.map V.bl) us → us[i]? = some v → v = .bool (bs.getD i true)
  | [], _, _, _, .nil, e => by simp at e
  | b :: _, _, 0, _, .cons r _, e => by
    cases r
    simp at e
    simp [← e]
  | b :: bs, _, i + 1, _, .cons _ t, e => by
    have := bls_get (i := i) t (by simpa using e)
    simpa using this
theorem all_range (bs : List Bool) : (List.range bs.length).all (fun i => bs.getD i true) = bs.all id := by
  induction bs with
  | nil => rfl
  | cons b r ih =>
    rw [List.length_cons, List.range_succ_eq_map, List.all_cons, List.all_map, List.all_cons, ← ih]
    rfl
theorem call_all (hc : X.calm = true) : CallR X (.builtin "all") (rAll X.K) := by
  intro pins s σ H xs us Q I r h
  obtain ⟨a, bs, rfl, hq, q⟩ := h
  obtain ⟨u, rfl, ru⟩ := vals1 r
  cases ru
  obtain ⟨its, rv, p, hz⟩ := I.list hq
  have hl := rv.length
  rw [List.length_map] at hl
  refine PySem.call_all_walk (wpAny_pyIter_list p.isList ?_)
  have ha : a < s.heap.objs.size := by
    obtain ⟨o, n, e, _⟩ := p
    exact Heap.lt_size e
  refine ⟨s.heap.objs.size, _, _, _, _, _, fun i => bs.getD i true, rfl, Walks.list (show X.A.in1.handled = none from I.ok.hd hc) s.heap.objs.size a (Nat.ne_of_lt ha) its.toArray, ⟨⟨_, Heap.get?_push_size _ rfl, rfl, rfl⟩, p.isList.at fun o e => Heap.get?_push_of_some _ e⟩, ?_, ?_⟩
  · intro i v s' Q' E' hv hq'
    obtain rfl := bls_get rv (by simpa using hv)
    exact wpAny_truthy_bool hq'
  · intro h' tk k
    rw [List.size_toArray, ← hl, all_range]
    refine ⟨.bl _, H, I.kept (t' := tk) (fun b o e => ?_), rfl, q⟩
    exact k b o (by simp; exact Nat.ne_of_lt (Heap.lt_size e)) (Heap.get?_push_of_some _ e)
end
noncomputable def CompW (xs : List V) (Pv : Nat → List V → Hp → Prop) (i m : Nat) (ys : List V) (H : Hp) : Prop := m = xs.length - i ∧ i ≤ xs.length ∧ ys.length = i ∧ Pv i ys H
theorem comp_next {xs : List V} {Pv : Nat → List V → Hp → Prop} {i m : Nat} {ys : List V} {x y : V} {H5 : Hp} {p : Addr} (hx : xs[i]? = some x) (hm : m = xs.length - i) (hl : ys.length = i) (e : H5 p = some (.lst ys)) (h : Pv (i + 1) (ys ++ [y]) (upd H5 p (.lst (ys ++ [y])))) :
    H5 p = some (.lst ys) ∧ ∃ m', m' < m ∧ CompW xs Pv (i + 1) m' (ys ++ [y]) (upd H5 p (.lst (ys ++ [y]))) := by
  have hi : i < xs.length := (List.getElem?_eq_some_iff.mp hx).1
  exact ⟨e, xs.length - (i + 1), by omega, rfl, by omega, by simp [hl], h⟩
section
end
end Lw

namespace Lw
open PySem PySem.Spec PyProof.Rows L2
noncomputable def cxCompF (X : Cx) (N : List Str) (scope : Scope) (cl : List (Str × Addr)) (C : Addr) (fp : List Addr) (s2 : Shared) (H2 : Hp) : Cx :=
  { X with N := N, s₀ := s2, H₀ := H2, env := compEnvC scope cl C X.env, outer := X.stack, stack := X.stack, ex := fp, fn := fun _ => false, pn := [], xe := fun _ _ => False }
noncomputable def Keep (σ τ : L2.St) : Prop := ∀ (i : Nat) (v : V), σ[i]? = some (some v) → τ[i]? = some (some v)
theorem keep1 {x : Option V} {r : L2.St} : Keep (none :: r) (x :: r) := fun i v h => by
  cases i with
  | zero => cases h
  | succ j => exact h
theorem keep2 {x y : Option V} {r : L2.St} : Keep (none :: none :: r) (x :: y :: r) := fun i v h => by
  cases i with
  | zero => cases h
  | succ j => cases j with
    | zero => cases h
    | succ k => exact h
noncomputable def CompGoF (σ0 : L2.St) (J : It) (g : TG) (te : TE) (Q : VK) (p : Addr) (H' : Hp) : Prop :=
  ∃ W : Nat → Nat → List V → Hp → Prop, (∃ m, W 0 m [] H') ∧ ∀ i m ys H2, W i m ys H2 → H2 p = some (.lst ys) ∧ ys.length < sizeLine ∧
    ((J.stop i H2 ∧ Q (.ref p) H2) ∨ (J.go i H2 ∧ ∀ x H3, J.yld i H2 x H3 → g x σ0 H3 fun σ4 H4 => Keep σ0 σ4 ∧ te σ4 H4 fun y H5 => H5 p = some (.lst ys) ∧ ∃ m', m' < m ∧ W (i + 1) m' (ys ++ [y]) (upd H5 p (.lst (ys ++ [y])))))
noncomputable def tCompF (own : Nat) (idx : List Nat) (wi : TI) (g : TG) (te : TE) : TE := fun σ H Q => wi σ H fun J H1 => ∀ p H', H1 p = none → Same H1 H' → H' p = some (.lst []) →
  CompGoF (List.replicate own none ++ idx.map fun j => (σ[j]?).getD none) J g te Q p H'
section
variable {X : Cx}
theorem cxCompF_ok {pins : List (Addr × Obj)} {σ : L2.St} {H1 : Hp} {s2 : Shared} {N : List Str} {scope : Scope} {cl : List (Str × Addr)} {C : Addr} {fp : List Addr} (I : Inv X pins σ H1 s2) (hk : scope.kind = .function)
    (hsub : ∀ x c, cl.lookup x = some c → X.env.cells.lookup x = some c) (hhas : ∀ x, ((relabel scope X.env).names.lookup x = some .cell ∨ (relabel scope X.env).names.lookup x = some .free) → ∃ c, cl.lookup x = some c)
    (hC : s2.heap.objs.size ≤ C) (hf : ∀ b ∈ fp, FpOk X pins H1 b) (hlt : ∀ b ∈ fp, b < s2.heap.objs.size) : (cxCompF X N scope cl C fp s2 H1).Ok where
  mod := I.ok.mod
  kind := hk
  glob := I.ok.glob
  blt := I.ok.blt
  above := hC
  inj := fun x y c h1 h2 => I.ok.inj x y c (hsub x c h1) (hsub y c h2)
  has := hhas
  cab := fun x c h _ => by cases h
  hd := I.ok.hd
  frames := I.ok.frames
  stk := .inl rfl
  exf := fun b hb => ⟨Nat.ne_of_lt (Nat.lt_of_lt_of_le (hlt b hb) hC), fun x c h => (hf b hb).2.2.2.2.1 x c (hsub x c h)⟩
  bs := I.bs
  bsz := Nat.le_trans I.ok.bsz I.sz
  noex := fun b o e hb => by
    rcases (hf b hb).2.2.2.1 with z | z
    · exact I.ok.noex b o e z
    · exact absurd (Nat.lt_of_lt_of_le (Heap.lt_size e) (Nat.le_trans I.ok.bsz z)) (Nat.lt_irrefl _)
  exfs := fun b hb z => (List.mem_cons.mp (I.stkSub b z)).elim (hf b hb).2.1 (hf b hb).2.2.1
  funs := I.stack
  frf := I.stkFree
theorem pe_compF {own : Nat} {idx : List Nat} {N : List Str} {elt target iter : Expr} {scope : Scope} {cl : List (Str × Addr)} {pos : Pos} {wi : TI} {g : TG} {te : TE} (hc : X.calm = true)
    (hk : scope.kind = .function) (hclos : closureFor scope X.env = pure cl) (hcell : ∀ x ∈ scope.names, x.2 ≠ .cell) (hnames : ∀ x ∈ scope.names, x.2 = .local → scope.names.lookup x.1 = some .local)
    (hsub : ∀ x c, cl.lookup x = some c → X.env.cells.lookup x = some c) (hhas : ∀ x, ((relabel scope X.env).names.lookup x = some .cell ∨ (relabel scope X.env).names.lookup x = some .free) → ∃ c, cl.lookup x = some c)
    (hlen : N.length = own + idx.length)
    (hidx : ∀ (k j : Nat) (x : Str), idx[k]? = some j → N[own + k]? = some x → X.N[j]? = some x ∧ X.env.kindOf x = some .cell ∧ (relabel scope X.env).names.lookup x = some .cell ∧ X.env.scope.names.lookup x = some .cell)
    (hi : PI X target iter wi) (hg : ∀ C fp s2 H2, PG (cxCompF X N scope cl C fp s2 H2) target g) (he : ∀ C fp s2 H2, PE (cxCompF X N scope cl C fp s2 H2) elt te)
    (hs : ∀ x, foldedSetIterable iter X.env x = pure x := by intro _; rfl) : PE X (.ListComp elt [⟨target, iter, [], 0⟩] scope pos) (tCompF own idx wi g te) := by
  intro pins s σ H Q I h
  rw [eval_ListComp]
  refine wpAny_comprehension_free (use := none) rfl hs hclos hk hnames (thn (hi pins s σ H _ I h) fun v s1 h1 => thn h1 fun itv s2 h2 => ?_)
  obtain ⟨it, fp, tn, J, H1, e, I2, T, st2, f2, hR⟩ := h2
  subst e
  have hlt : ∀ b ∈ fp, b < s2.heap.objs.size := fun b hb => by
    obtain ⟨o, ho, _⟩ := T.obj 0 _ st2 b hb
    exact Heap.lt_size ho
  refine wpAny_newObj_type (wpAny_newFunctionEnv hcell (by intro y hy; simp at hy) (fun h₁ hns₁ hsb₁ => ?_) hk)
  dsimp only at hns₁ hsb₁ ⊢
  generalize hHH : s2.heap.push { cls := .type "list", dict := none, data := .seq ([] : List Value).toArray } = HH at hns₁ hsb₁ ⊢
  have hCe : HH.objs.size = s2.heap.objs.size + 1 := by rw [← hHH, Heap.size_push]
  have hDC : s2.heap.objs.size ≠ HH.objs.size := by rw [hCe]; exact Nat.ne_of_lt (Nat.lt_succ_self _)
  have hCle : s2.heap.objs.size ≤ HH.objs.size := by rw [hCe]; exact Nat.le_succ _
  have old : ∀ b o, s2.heap.get? b = some o → h₁.get? b = some o := fun b o e => hsb₁.extBut b o (by rw [hCe]; exact Nat.ne_of_lt (Nat.lt_succ_of_lt (Heap.lt_size e))) (Heap.get?_push_of_some _ (hHH ▸ Heap.get?_push_of_some _ e))
  have hD : h₁.get? s2.heap.objs.size = some { cls := .type "list", dict := none, data := .seq ([] : List Value).toArray } := hsb₁.extBut _ _ hDC (Heap.get?_push_of_some _ (hHH ▸ Heap.get?_push_size _ rfl))
  have nD : H1 s2.heap.objs.size = none := I2.hok.fresh (Nat.le_refl _)
  obtain ⟨W, ⟨m0, w0⟩, turn⟩ := hR s2.heap.objs.size _ nD (same_upd (.lst []) nD) upd_same
  generalize hσ : (List.replicate own none ++ idx.map fun j => (σ[j]?).getD none : L2.St) = σ0 at turn
  have lσ : σ0.length = N.length := by rw [← hσ, List.length_append, List.length_replicate, List.length_map, hlen]
  have ok := cxCompF_ok (N := N) (cl := cl) (C := HH.objs.size) I2 hk hsub hhas hCle f2 hlt
  have oldC : ∀ c v, s2.heap.IsCell c v → h₁.IsCell c v := fun c v ⟨o, ho, hd⟩ => ⟨o, old c o ho, hd⟩
  have I4 : Inv (cxCompF X N scope cl HH.objs.size fp s2 H1) [] σ0 (upd H1 s2.heap.objs.size (.lst [])) { s2 with heap := h₁, toks := s2.toks + ([] : List (Str × Value)).length } := by
    refine ⟨ok, rfl, I2.bare, Un.laid old (Nat.le_refl _) nD, ⟨_, hns₁, fun i x v e1 e2 _ => ?_⟩, (fun x c z => ?_), ?_, (fun x c z => ?_), (fun p hp => nomatch hp), I2.hok.laid old (Nat.le_refl _) ?_, lσ⟩
    · -- a name of the def's
      rw [← hσ] at e2
      by_cases hi' : i < own
      · rw [List.getElem?_append_left (by rw [List.length_replicate]; exact hi'), List.getElem?_replicate] at e2
        split at e2 <;> cases e2
      · obtain ⟨k, rfl⟩ : ∃ k, i = own + k := ⟨i - own, by omega⟩
        rw [List.getElem?_append_right (by rw [List.length_replicate]; omega), List.length_replicate, Nat.add_sub_cancel_left, List.getElem?_map] at e2
        cases ej : idx[k]? with
        | none => rw [ej] at e2; cases e2
        | some j =>
          rw [ej, Option.map_some] at e2
          have e2 := Option.some.inj e2
          obtain ⟨n1, n2, n3, n4⟩ := hidx k j x ej e1
          have e3 : σ[j]? = some (some v) := by
            cases q : σ[j]? with
            | none => rw [q] at e2; cases e2
            | some y => rw [q, Option.getD_some] at e2; rw [e2]
          obtain ⟨m, hm, hl⟩ := I2.loc
          obtain ⟨u, ru, lk⟩ := hl j x v n1 e3 (.inr (.inl n4))
          refine ⟨u, ru, ?_⟩
          rcases lk with ⟨kl, _⟩ | ⟨_, c, hcl, hic⟩
          · rw [n2] at kl; cases kl
          · obtain ⟨c', hc'⟩ := hhas x (.inl n3)
            have : c' = c := Option.some.inj ((hsub x c' hc').symm.trans hcl)
            subst this
            exact .inr ⟨.inl n3, c', hc', oldC _ _ hic⟩
    · obtain ⟨v, hv⟩ := I2.cell x c (hsub x c z)
      exact ⟨v, oldC _ _ hv⟩
    · show (upd H1 s2.heap.objs.size (.lst [])) HH.objs.size = none
      rw [upd_ne (Ne.symm hDC)]
      exact I2.hok.fresh hCle
    · obtain ⟨v, hv⟩ := I2.cell x c (hsub x c z)
      show (upd H1 s2.heap.objs.size (.lst [])) c = none
      rw [upd_ne (Nat.ne_of_lt hv.lt)]
      exact I2.freeC x c (hsub x c z)
    · exact ⟨by show 0 ≤ sizeLine; decide, [], 0, .nil, hD⟩
  have stat : ∀ {H' : Hp}, (∀ b ∈ fp, H' b = none) → ∀ b ∈ fp, FpOk (cxCompF X N scope cl HH.objs.size fp s2 H1) [] H' b := fun hn b hb =>
    ⟨hn b hb, (ok.exf b hb).1, ok.exfs b hb, .inl hb, (ok.exf b hb).2, fun p hp => nomatch hp⟩
  have st4 : tn 0 h₁ := T.keep _ _ _ st2 fun b _ o e => old b o e
  have fr4 : ∀ b ∈ fp, (upd H1 s2.heap.objs.size (.lst [])) b = none := fun b hb => by
    rw [upd_ne (Nat.ne_of_lt (hlt b hb))]
    exact (f2 b hb).1
  have loop : codeAny (model X.prog X.w) X.A (.compLoop (.ListComp elt [⟨target, iter, [], 0⟩] scope pos) 0 (.ref it) (.ref s2.heap.objs.size) (compEnvC scope cl HH.objs.size X.env))
      (compPost (model X.prog X.w) X.A X.xe none (EP X pins σ Q) (.ref s2.heap.objs.size) HH.objs.size) { s2 with heap := h₁, toks := s2.toks + ([] : List (Str × Value)).length } := by
    refine compLoop_any (fun n s' => ∃ i ys H', Inv (cxCompF X N scope cl HH.objs.size fp s2 H1) [] σ0 H' s' ∧ tn i s'.heap ∧ (∀ b ∈ fp, H' b = none) ∧ W i n ys H') ?_ m0 ⟨0, [], _, I4, st4, fr4, w0⟩
    rintro n s3 ⟨i, ys, H3, I3, st3, fr3, w3⟩
    obtain ⟨hp3, hz3, hw⟩ := turn i n ys H3 w3
    rcases hw with ⟨stop, qn⟩ | ⟨go, step⟩
    · refine thn (T.done (cxCompF X N scope cl HH.objs.size fp s2 H1) rfl rfl rfl hc i [] s3 _ H3 _ I3 (stat fr3) st3 stop) fun r s4 ⟨hr, I5⟩ => ?_
      subst hr
      obtain ⟨m, hm, _⟩ := id I5.loc
      refine ⟨m, hm, fun h' sb => ⟨.ref s2.heap.objs.size, H3, ?_, rfl, qn⟩⟩
      have k : ∀ b o, b ≠ HH.objs.size → s4.heap.get? b = some o → h'.get? b = some o := fun b o hb e => sb.extBut b o hb e
      have nb : ∀ b o, s2.heap.get? b = some o → b ≠ HH.objs.size := fun b o e => by rw [hCe]; exact Nat.ne_of_lt (Nat.lt_succ_of_lt (Heap.lt_size e))
      have U := I5.base
      have fC : H3 HH.objs.size = none := I5.free
      refine I2.call' (ch := fp) (s' := { s4 with heap := h' }) I5.os ⟨fun b o e n hb hx => k b o (nb b o e) (U.keep b o e n hb hx), fun b o e n hb hx => ?_, U.free, fun b o e hx => ?_, U.tups, U.frzs, U.tbls⟩ (fun b u e => ?_) I5.bare (fun b hb => ⟨(f2 b hb).2.2.2.1, (f2 b hb).2.1, (f2 b hb).2.2.2.2.1, (f2 b hb).2.2.2.2.2⟩)
      · obtain ⟨sl, q⟩ := U.slot b o e n hb hx
        exact ⟨sl, k b _ (nb b o e) q⟩
      · obtain ⟨o', q⟩ := U.there b o e hx
        exact ⟨o', k b _ (nb b o e) q⟩
      · refine (I5.hok b u e).stay (fun c v hcc q => k c v ?_ q) (fun _ q => q) fun _ _ q => q
        rcases hcc with z | z
        · rw [z]
          intro y
          rw [y, fC] at e
          cases e
        · intro y
          rw [y, fC] at z
          cases z
    · refine wpAny_mono (T.item (cxCompF X N scope cl HH.objs.size fp s2 H1) rfl rfl rfl hc i [] s3 _ H3 (fun _ _ => False) I3 (stat fr3) st3 go) (fun r s4 ⟨u, hr, h4⟩ => ?_) fun _ _ z => z.elim
      subst hr
      refine wpAny_mono h4 (fun _ s5 ⟨x, H5, I5, r5, y5, st5, fr5⟩ => ?_) fun _ _ z => z.elim
      have I5' := I5.pinned (stat fr5) (T.obj _ _ st5)
      refine wpAny_mono (hg _ _ _ _ _ s5 _ H5 x u _ I5' r5 (step x H5 y5)) (fun _ s6 ⟨σ6, H6, I6, kp6, q6⟩ => ?_) fun _ _ z => z.elim
      refine wpAny_mono (he _ _ _ _ _ s6 σ6 H6 _ I6 q6) (fun y s7 ⟨yv, H7, I7, r7, q7⟩ => ?_) fun _ _ z => z.elim
      obtain ⟨e7, m', hm', w7⟩ := q7
      refine wpAny_mono (mt_append (X := cxCompF X N scope cl HH.objs.size fp s2 H1) _ s7 σ6 H7 (.ref s2.heap.objs.size) [yv] (.ref s2.heap.objs.size) [y] (fun _ H8 => H8 = upd H7 s2.heap.objs.size (.lst (ys ++ [yv]))) I7 rfl (.cons r7 .nil) ⟨_, ys, yv, rfl, rfl, e7, hz3, rfl⟩) (fun _ s8 ⟨_, H8, I8, _, q8⟩ => ?_) fun _ _ z => z.elim
      subst q8
      refine ⟨m', hm', i + 1, _, _, (I8.unpinned).weak (by rw [lσ, I8.len]; rfl) kp6, T.keep _ _ _ st5 fun b hb o e => (I8.pin (b, o) (List.mem_append_right _ (List.mem_append_right _ (mem_pinsAt hb e)))).1, fun b hb => ?_, w7⟩
      obtain ⟨o, e, d⟩ := T.obj _ _ st5 b hb
      exact (I8.pin (b, o) (List.mem_append_right _ (List.mem_append_right _ (mem_pinsAt hb e)))).2.1
  exact codeAny_compStart_list loop (T.self _ 0 _ _ _ st4 loop)
noncomputable def hasB (names : List (Str × NameKind)) (cl : List (Str × Addr)) : Bool := names.all fun y => match y.2 with
  | .cell => (cl.lookup y.1).isSome
  | .free => (cl.lookup y.1).isSome
  | _ => true
theorem has_of {names : List (Str × NameKind)} {cl : List (Str × Addr)} (h : hasB names cl = true) : ∀ x, (names.lookup x = some .cell ∨ names.lookup x = some .free) → ∃ c, cl.lookup x = some c := by
  intro x hx
  have all := List.all_eq_true.mp h
  rcases hx with hx | hx
  · have := all _ (PySem.mem_of_lookup hx)
    exact Option.isSome_iff_exists.mp this
  · have := all _ (PySem.mem_of_lookup hx)
    exact Option.isSome_iff_exists.mp this
theorem one_idx {X : Cx} {scope : Scope} {own j0 : Nat} {N : List Str} {x0 : Str} (h0 : N[own]? = some x0) (h : X.N[j0]? = some x0 ∧ X.env.kindOf x0 = some .cell ∧ (relabel scope X.env).names.lookup x0 = some .cell ∧ X.env.scope.names.lookup x0 = some .cell) :
    ∀ (k j : Nat) (x : Str), [j0][k]? = some j → N[own + k]? = some x → X.N[j]? = some x ∧ X.env.kindOf x = some .cell ∧ (relabel scope X.env).names.lookup x = some .cell ∧ X.env.scope.names.lookup x = some .cell := by
  intro k j x e1 e2
  match k, e1 with
  | 0, e1 =>
    cases e1
    rw [Nat.add_zero, h0] at e2
    cases e2
    exact h
  | k + 1, e1 => cases e1
end
theorem comp_by {J : It} {xs : List V} {σ0 : L2.St} {g : TG} {te : TE} {Q : VK} {p : Addr} {H' : Hp} (Pv : Nat → List V → Hp → Prop) (hz : xs.length < sizeLine) (h0 : Pv 0 [] H')
    (hgo : ∀ i ys H2, Pv i ys H2 → i < xs.length → J.go i H2 ∧ ∀ x H3, J.yld i H2 x H3 → H3 = H2 ∧ xs[i]? = some x) (hst : ∀ ys H2, Pv xs.length ys H2 → J.stop xs.length H2) (hl : ∀ i ys H2, Pv i ys H2 → H2 p = some (.lst ys))
    (hs : ∀ i m ys x H2, xs[i]? = some x → m = xs.length - i → ys.length = i → Pv i ys H2 → g x σ0 H2 fun σ4 H4 => Keep σ0 σ4 ∧ te σ4 H4 fun y H5 => H5 p = some (.lst ys) ∧ ∃ m', m' < m ∧ CompW xs Pv (i + 1) m' (ys ++ [y]) (upd H5 p (.lst (ys ++ [y]))))
    (hd : ∀ ys H2, ys.length = xs.length → Pv xs.length ys H2 → Q (.ref p) H2) : CompGoF σ0 J g te Q p H' := by
  unfold CompGoF
  refine ⟨CompW xs Pv, ⟨_, rfl, Nat.zero_le _, rfl, h0⟩, ?_⟩
  rintro i m ys H2 ⟨hm, hi, hy, hp⟩
  refine ⟨hl i ys H2 hp, by omega, ?_⟩
  by_cases hlt : i < xs.length
  · obtain ⟨g1, g2⟩ := hgo i ys H2 hp hlt
    refine .inr ⟨g1, fun x H3 y => ?_⟩
    obtain ⟨e3, z⟩ := g2 x H3 y
    subst e3
    exact hs i m ys x _ z hm hy hp
  · have ei : i = xs.length := by omega
    subst ei
    exact .inl ⟨hst ys H2 hp, hd ys H2 hy hp⟩
theorem comp_listF {K : PySem.W.Frag} {a : Addr} {xs : List V} {σ0 : L2.St} {g : TG} {te : TE} {Q : VK} {p : Addr} {H' : Hp} (Pv : Nat → List V → Hp → Prop) (hz : xs.length < sizeLine) (h0 : Pv 0 [] H')
    (hl : ∀ i ys H2, Pv i ys H2 → SqL K H2 a xs ∧ H2 p = some (.lst ys))
    (hs : ∀ i m ys x H2, xs[i]? = some x → m = xs.length - i → ys.length = i → Pv i ys H2 → g x σ0 H2 fun σ4 H4 => Keep σ0 σ4 ∧ te σ4 H4 fun y H5 => H5 p = some (.lst ys) ∧ ∃ m', m' < m ∧ CompW xs Pv (i + 1) m' (ys ++ [y]) (upd H5 p (.lst (ys ++ [y]))))
    (hd : ∀ ys H2, ys.length = xs.length → Pv xs.length ys H2 → Q (.ref p) H2) : CompGoF σ0 (Itl K a) g te Q p H' :=
  comp_by Pv hz h0 (fun i ys H2 h hi => ⟨⟨xs, xs[i], (hl i ys H2 h).1, by simp [hi]⟩, fun x H3 y => ⟨y.1, y.2 xs (hl i ys H2 h).1⟩⟩) (fun ys H2 h => ⟨xs, (hl _ ys H2 h).1, Nat.le_refl _⟩) (fun i ys H2 h => (hl i ys H2 h).2) hs hd
theorem comp_tupF {K : PySem.W.Frag} {a : Addr} {xs : List V} {σ0 : L2.St} {g : TG} {te : TE} {Q : VK} {p : Addr} {H' : Hp} (Pv : Nat → List V → Hp → Prop) (hz : xs.length < sizeLine) (h0 : Pv 0 [] H')
    (hl : ∀ i ys H2, Pv i ys H2 → SqT K H2 a xs ∧ H2 p = some (.lst ys))
    (hs : ∀ i m ys x H2, xs[i]? = some x → m = xs.length - i → ys.length = i → Pv i ys H2 → g x σ0 H2 fun σ4 H4 => Keep σ0 σ4 ∧ te σ4 H4 fun y H5 => H5 p = some (.lst ys) ∧ ∃ m', m' < m ∧ CompW xs Pv (i + 1) m' (ys ++ [y]) (upd H5 p (.lst (ys ++ [y]))))
    (hd : ∀ ys H2, ys.length = xs.length → Pv xs.length ys H2 → Q (.ref p) H2) : CompGoF σ0 (Itt K a) g te Q p H' :=
  comp_by Pv hz h0 (fun i ys H2 h hi => ⟨⟨xs, xs[i], (hl i ys H2 h).1, by simp [hi]⟩, fun x H3 y => ⟨y.1, y.2 xs (hl i ys H2 h).1⟩⟩) (fun ys H2 h => ⟨xs, (hl _ ys H2 h).1, Nat.le_refl _⟩) (fun i ys H2 h => (hl i ys H2 h).2) hs hd
section
theorem preSum_take (ns : List Int) : ∀ j, j ≤ ns.length → preSum (fun i => ns.getD i 0) j = (ns.take j).sum
  | 0, _ => by simp [preSum]
  | j + 1, h => by
    have hj : j < ns.length := h
    show preSum (fun i => ns.getD i 0) j + ns.getD j 0 = _
    rw [preSum_take ns j (by omega), List.take_succ_eq_append_getElem hj, List.sum_append, List.getD_eq_getElem?_getD, List.getElem?_eq_getElem hj]
    simp
theorem sum_bound {M : Int} : ∀ (ns : List Int), (∀ n ∈ ns, 0 ≤ n ∧ n ≤ M) → 0 ≤ ns.sum ∧ ns.sum ≤ ns.length * M
  | [], _ => by simp
  | n :: r, h => by
    have h1 := h n (by simp)
    have h2 := sum_bound r fun m hm => h m (by simp [hm])
    rw [List.sum_cons, List.length_cons, Int.natCast_succ, Int.add_mul]
    omega
noncomputable def rSumT (K : PySem.W.Frag) : List V → Hp → VK → Prop := fun xs H Q => ∃ (a : Addr) (ns : List Int), xs = [.ref a] ∧ SqT K H a (ns.map V.int) ∧ (∀ n ∈ ns, 0 ≤ n ∧ n ≤ 2 ^ 40) ∧ ns.length ≤ 1000 ∧ Q (.int ns.sum) H
theorem call_sumT (hc : X.calm = true) : CallR X (.builtin "sum") (rSumT X.K) := by
  intro pins s σ H xs us Q I r h
  obtain ⟨a, ns, rfl, hq, hb, hn, q⟩ := h
  obtain ⟨u, rfl, ru⟩ := vals1 r
  cases ru
  obtain ⟨its, rv, p, hz⟩ := I.tuple hq
  have i1 : IntsAre its ns := intsAre_of rv
  have hl := ints_len i1
  have ha : a < s.heap.objs.size := by
    obtain ⟨o, e, _⟩ := p
    exact Heap.lt_size e
  refine PySem.call_sum_walk (wpAny_pyIter_tuple (t := a) (items := its.toArray) p ?_)
  refine ⟨s.heap.objs.size, _, _, _, _, _, fun i => ns.getD i 0, rfl, Walks.tuple (show X.A.in1.handled = none from I.ok.hd hc) s.heap.objs.size a (Nat.ne_of_lt ha) its.toArray, ⟨⟨_, Heap.get?_push_size _ rfl, rfl, rfl⟩, p.keeps fun b o e => Heap.get?_push_of_some _ e⟩, ?_, ?_, ?_, ?_⟩
  · intro b hb
    show b < (s.heap.push _).objs.size
    rw [Heap.size_push]
    simp only [List.mem_cons, List.not_mem_nil, or_false] at hb
    rcases hb with rfl | rfl
    · exact Nat.lt_succ_self _
    · exact Nat.lt_succ_of_lt ha
  · intro i v hv
    have hv' : its[i]? = some v := by simpa using hv
    obtain ⟨hi, e⟩ := List.getElem?_eq_some_iff.mp hv'
    obtain ⟨n, t, e1, e2⟩ := ints_get i1 hi
    exact ⟨t, by dsimp only; rw [← e, e2, List.getD_eq_getElem?_getD, e1]; rfl⟩
  · intro j hj
    have hj' : j < ns.length := by rw [← hl]; simpa using hj
    have b1 := hb ns[j] (List.getElem_mem hj')
    have b2 := sum_bound (ns.take (j + 1)) fun n hn' => hb n (List.mem_of_mem_take hn')
    have e1 : ns.getD j 0 = ns[j] := by rw [List.getD_eq_getElem?_getD, List.getElem?_eq_getElem hj']; rfl
    have l1 : (ns.take (j + 1)).length ≤ 1000 := by rw [List.length_take]; omega
    dsimp only
    rw [preSum_take ns (j + 1) hj', e1]
    unfold InLong
    refine ⟨⟨by omega, by omega⟩, ⟨by omega, ?_⟩⟩
    have : ((ns.take (j + 1)).length : Int) * 2 ^ 40 ≤ 1000 * 2 ^ 40 := Int.mul_le_mul_of_nonneg_right (by omega) (by decide)
    omega
  · intro h' tk t' k
    have e : preSum (fun i => ns.getD i 0) its.toArray.size = ns.sum := by
      rw [List.size_toArray, hl, preSum_take ns _ (Nat.le_refl _), List.take_length]
    rw [e]
    refine ⟨.int ns.sum, H, I.kept (t' := tk) (fun b o q => ?_), ⟨t', rfl⟩, q⟩
    exact k b o (by simp; exact Nat.ne_of_lt (Heap.lt_size q)) (Heap.get?_push_of_some _ q)
end
end Lw

namespace LwT
open PySem PySem.Spec PyProof.Rows L2 Lw
section
variable {l b : Addr} {as bs : List Value} {xs ys : List Int} {n n2 : Nat} {dd dd2 : Option Addr} {sl sl2 : Array (Option Value)}
end
section
variable {X : Cx}
end
end LwT

namespace L2
open PySem PySem.Spec PyProof.Rows

section
variable {κ : Type} [DecidableEq κ]
noncomputable def valV (kvs : List (κ × V)) (k : κ) : Option V := (kvs.find? fun kv => decide (kv.1 = k)).map (·.2)
noncomputable def putK (kvs : List (κ × V)) (k : κ) (v : V) : List (κ × V) :=
  if (kvs.any fun kv => decide (kv.1 = k)) = true then kvs.map (fun kv => if kv.1 = k then (kv.1, v) else kv) else kvs ++ [(k, v)]

theorem valV_pos {p : κ × V} {r : List (κ × V)} {k : κ} (e : p.1 = k) : valV (p :: r) k = some p.2 := by simp [valV, List.find?_cons, e]
theorem valV_neg {p : κ × V} {r : List (κ × V)} {k : κ} (e : ¬ p.1 = k) : valV (p :: r) k = valV r k := by simp [valV, List.find?_cons, e]
theorem valV_any (k : κ) : ∀ kvs : List (κ × V), (kvs.any fun kv => decide (kv.1 = k)) = (valV kvs k).isSome
  | [] => rfl
  | p :: r => by
    rw [List.any_cons]
    by_cases e : p.1 = k
    · simp only [valV_pos e, decide_eq_true e, Bool.true_or, Option.isSome_some]
    · rw [valV_neg e, decide_eq_false e, Bool.false_or]; exact valV_any k r
theorem length_putK (kvs : List (κ × V)) (k : κ) (v : V) : (putK kvs k v).length ≤ kvs.length + 1 := by
  unfold putK
  split
  · rw [List.length_map]; omega
  · rw [List.length_append, List.length_cons, List.length_nil]; omega

theorem RelO.isSome_eq {o : Option V} {u : Option Value} (r : RelO o u) : o.isSome = u.isSome := by
  cases o with
  | none => cases u with
    | none => rfl
    | some _ => exact (show False from r).elim
  | some _ => cases u with
    | none => exact (show False from r).elim
    | some _ => rfl
theorem RelO.getD {o : Option V} {u : Option Value} {d : V} {d' : Value} (r : RelO o u) (rd : RelV d d') : RelV (o.getD d) (u.getD d') := by
  cases o with
  | none => cases u with
    | none => exact rd
    | some _ => exact (show False from r).elim
  | some _ => cases u with
    | none => exact (show False from r).elim
    | some _ => exact r

theorem KV.val {kvs : List (κ × V)} {vs : List (κ × Value)} (r : KV kvs vs) (k : κ) : RelO (valV kvs k) (valueAt vs k) := by
  unfold KV at r
  induction r with
  | nil => exact True.intro
  | @cons p q ps qs h t ih =>
    obtain ⟨h1, h2⟩ := h
    by_cases e : p.1 = k
    · have e' : q.1 = k := h1.symm.trans e
      have b : valueAt (q :: qs) k = some q.2 := by simp [valueAt, List.find?_cons, e']
      rw [valV_pos e, b]; exact h2
    · have e' : ¬ q.1 = k := fun z => e (h1.trans z)
      have b : valueAt (q :: qs) k = valueAt qs k := by simp [valueAt, List.find?_cons, e']
      rw [valV_neg e, b]; exact ih
theorem KV.any {kvs : List (κ × V)} {vs : List (κ × Value)} (r : KV kvs vs) (k : κ) : (kvs.any fun kv => decide (kv.1 = k)) = vs.any fun kv => decide (kv.1 = k) := by
  unfold KV at r
  induction r with
  | nil => rfl
  | cons h t ih => rw [List.any_cons, List.any_cons, ih, h.1]
theorem KV.repl {kvs : List (κ × V)} {vs : List (κ × Value)} (r : KV kvs vs) (k : κ) {y : V} {u : Value} (ry : RelV y u) :
    KV (kvs.map fun kv => if kv.1 = k then (kv.1, y) else kv) (vs.map fun kv => if kv.1 = k then (kv.1, u) else kv) := by
  unfold KV at r ⊢
  induction r with
  | nil => exact .nil
  | @cons p q ps qs h t ih =>
    rw [List.map_cons, List.map_cons]
    refine .cons ?_ ih
    obtain ⟨h1, h2⟩ := h
    by_cases e : p.1 = k
    · rw [if_pos e, if_pos (h1.symm.trans e)]; exact ⟨h1, ry⟩
    · rw [if_neg e, if_neg (fun z => e (h1.trans z))]; exact ⟨h1, h2⟩
theorem KV.put {kvs : List (κ × V)} {vs : List (κ × Value)} (r : KV kvs vs) (k : κ) {y : V} {u : Value} (ry : RelV y u) : KV (putK kvs k y) (stored vs k u) := by
  unfold putK stored
  rw [r.any k]
  by_cases e : (vs.any fun kv => decide (kv.1 = k)) = true
  · rw [if_pos e, if_pos e]; exact r.repl k ry
  · rw [if_neg e, if_neg e]; exact Paired.snoc r ⟨rfl, ry⟩
theorem KV.length {kvs : List (κ × V)} {vs : List (κ × Value)} (r : KV kvs vs) : kvs.length = vs.length := Paired.length r
end


theorem kV_is {P : Program} {w : World} {k : Key} {u : Value} (r : RelV (kV k) u) : (mixKind P w).is k u = true := by
  cases k with
  | inl i => obtain ⟨t, e⟩ := (show ∃ t, u = Value.int i t from r); subst e; exact mixKind_int P w i t
  | inr x => obtain ⟨t, e⟩ := (show ∃ t, u = Value.str x t from r); subst e; exact mixKind_str P w x t
theorem items_are {P : Program} {w : World} : ∀ {ks : List Key} {us : List Value}, Vals (ks.map kV) us → ItemsAre (mixKind P w) ks us
  | [], _, r => by rw [List.map_nil] at r; cases r; exact .nil
  | k :: ks, _, r => by
    rw [List.map_cons] at r
    cases r with
    | cons h t => exact .cons (kV_is h) (items_are t)

noncomputable abbrev KT (H : Hp) : List (List Key × V) → List (List Key × Addr × Value) → Prop := Paired fun p q => p.1 = q.1 ∧ H q.2.1 = some (.tup (p.1.map kV)) ∧ RelV p.2 q.2.2
theorem KT.val {H : Hp} {kvs : List (List Key × V)} {xs : List (List Key × Addr × Value)} (r : KT H kvs xs) (k : List Key) : RelO (valV kvs k) ((atKey xs k).map (·.2)) := by
  induction r with
  | nil => exact True.intro
  | @cons p q ps qs h t ih =>
    obtain ⟨h1, _, h2⟩ := h
    by_cases e : p.1 = k
    · have e' : q.1 = k := h1.symm.trans e
      have b : atKey (q :: qs) k = some q.2 := by simp [atKey, List.find?_cons, e']
      rw [valV_pos e, b]; exact h2
    · have e' : ¬ q.1 = k := fun z => e (h1.trans z)
      have b : atKey (q :: qs) k = atKey qs k := by simp [atKey, List.find?_cons, e']
      rw [valV_neg e, b]; exact ih
theorem KT.repl {H : Hp} {kvs : List (List Key × V)} {xs : List (List Key × Addr × Value)} (r : KT H kvs xs) (k : List Key) {y : V} {u : Value} (ry : RelV y u) :
    KT H (kvs.map fun kv => if kv.1 = k then (kv.1, y) else kv) (xs.map (putAt k u)) := by
  induction r with
  | nil => exact .nil
  | @cons p q ps qs h t ih =>
    rw [List.map_cons, List.map_cons]
    refine .cons ?_ ih
    obtain ⟨h1, h2, h3⟩ := h
    unfold putAt
    by_cases e : p.1 = k
    · rw [if_pos e, if_pos (h1.symm.trans e)]; exact ⟨h1, h2, ry⟩
    · rw [if_neg e, if_neg (fun z => e (h1.trans z))]; exact ⟨h1, h2, h3⟩
theorem KT.put {H : Hp} {kvs : List (List Key × V)} {xs : List (List Key × Addr × Value)} (r : KT H kvs xs) (k : List Key) {b : Addr} {y : V} {u : Value} (hb : H b = some (.tup (k.map kV))) (ry : RelV y u) :
    KT H (putK kvs k y) (storedH xs k b u) := by
  have e : (kvs.any fun kv => decide (kv.1 = k)) = (atKey xs k).isSome := by
    rw [valV_any, (r.val k).isSome_eq, Option.isSome_map]
  unfold putK storedH
  rw [e]
  by_cases q : (atKey xs k).isSome = true
  · rw [if_pos q, if_pos q]; exact r.repl k ry
  · rw [if_neg q, if_neg q]; exact Paired.snoc r ⟨rfl, hb, ry⟩
theorem KT.keeps {H H' : Hp} {kvs : List (List Key × V)} {xs : List (List Key × Addr × Value)} (r : KT H kvs xs) (ht : ∀ b ys, H b = some (.tup ys) → H' b = some (.tup ys)) : KT H' kvs xs :=
  Paired.mapP r fun _ _ z => ⟨z.1, ht _ _ z.2.1, z.2.2⟩

section
variable {P : Program} {w : World} {H : Hp} {h : Heap} {a : Addr}
theorem rd_of {u : HO} (ok : HOk P w H h) (e : Rd H a u) : ObjOk P w H h a u := e.ok ok
theorem dk_rd {kvs : List (Key × V)} (ok : HOk P w H h) (e : Rd H a (.dK kvs)) : kvs.length ≤ sizeLine ∧ (a == sysModules) = false ∧ ∃ vs, KV kvs vs ∧ h.DictOf (mixKind P w) a vs :=
  show ObjOk P w H h a (.dK kvs) from rd_of ok e
theorem dk_of {kvs : List (Key × V)} (ok : HOk P w H h) (e : H a = some (.dK kvs)) : kvs.length ≤ sizeLine ∧ (a == sysModules) = false ∧ ∃ vs, KV kvs vs ∧ h.DictOf (mixKind P w) a vs := dk_rd ok (.inl e)
theorem key_of {ks : List Key} (ok : HOk P w H h) (e : H a = some (.tup (ks.map kV))) : (tupleKind (mixKind P w)).is h ks a := by
  obtain ⟨_, its, r, o, h1, h2, n, h3⟩ := (show ObjOk P w H h a (.tup (ks.map kV)) from ok a _ e)
  exact ⟨o, its.toArray, n, h1, h2, h3, by simpa using items_are r⟩
theorem dt_rd {kvs : List (List Key × V)} (ok : HOk P w H h) (e : Rd H a (.dT kvs)) : kvs.length ≤ sizeLine ∧ (a == sysModules) = false ∧
    ∃ xs, KT H kvs xs ∧ h.DictOfH (tupleKind (mixKind P w)) a xs := by
  obtain ⟨z, y, xs, r, o, es, ep, h1, h2, h3, h4, h5⟩ := (show ObjOk P w H h a (.dT kvs) from rd_of ok e)
  refine ⟨z, y, xs, r, o, es, ep, h1, h2, h3, h4, fun x hx => ?_, h5⟩
  have all : ∀ {l : List (List Key × V)} {m : List (List Key × Addr × Value)}, KT H l m → ∀ x ∈ m, (tupleKind (mixKind P w)).is h x.1 x.2.1 := by
    intro l m q
    induction q with
    | nil => intro x hx; exact nomatch hx
    | @cons p q ps qs hq t ih =>
      intro x hx
      rcases List.mem_cons.mp hx with e | hx
      · subst e
        exact key_of ok (by rw [← hq.1]; exact hq.2.1)
      · exact ih x hx
  exact all r x hx
theorem dt_of {kvs : List (List Key × V)} (ok : HOk P w H h) (e : H a = some (.dT kvs)) : kvs.length ≤ sizeLine ∧ (a == sysModules) = false ∧
    ∃ xs, KT H kvs xs ∧ h.DictOfH (tupleKind (mixKind P w)) a xs := dt_rd ok (.inl e)
end

noncomputable def DGet (H : Hp) (a : Addr) (y : V) (r : Option V) : Prop :=
  (∃ kvs k, Rd H a (.dK kvs) ∧ y = kV k ∧ r = valV kvs k) ∨ ∃ kvs k b, Rd H a (.dT kvs) ∧ y = .ref b ∧ H b = some (.tup (k.map kV)) ∧ r = valV kvs k
noncomputable def DPut (H : Hp) (a : Addr) (y v : V) (H' : Hp) : Prop :=
  (∃ kvs k, H a = some (.dK kvs) ∧ y = kV k ∧ kvs.length < sizeLine ∧ H' = upd H a (.dK (putK kvs k v))) ∨
  ∃ kvs k b, H a = some (.dT kvs) ∧ y = .ref b ∧ H b = some (.tup (k.map kV)) ∧ kvs.length < sizeLine ∧ H' = upd H a (.dT (putK kvs k v))
theorem DGet.t {H : Hp} {a b : Addr} {kvs : List (List Key × V)} {k : List Key} (e : H a = some (.dT kvs)) (eb : H b = some (.tup (k.map kV))) : DGet H a (.ref b) (valV kvs k) := .inr ⟨kvs, k, b, .inl e, rfl, eb, rfl⟩
theorem DPut.t {H : Hp} {a b : Addr} {kvs : List (List Key × V)} {k : List Key} {v : V} (e : H a = some (.dT kvs)) (eb : H b = some (.tup (k.map kV))) (hl : kvs.length < sizeLine) :
    DPut H a (.ref b) v (upd H a (.dT (putK kvs k v))) := .inr ⟨kvs, k, b, e, rfl, eb, hl, rfl⟩


section
variable {X : Cx} {pins : List (Addr × Obj)} {σ : St} {H : Hp} {s : Shared} {a : Addr} {y v : V} {u r : Value} {o : Option V} {A : Around} {E : Value → Shared → Prop}

theorem Inv.big (I : Inv X pins σ H s) : sysModules < s.heap.objs.size := by
  have h : mainGlobals < s.heap.objs.size := (I.mod.glob.keeps I.bk).lt
  exact Nat.lt_trans (by decide) h

theorem d_getItem {Q : Value → Shared → Prop} (hu : A.units + 1 < cLine) (I : Inv X pins σ H s) (g : DGet H a y (some v)) (ry : RelV y u) (h : ∀ w' s', Inv X pins σ H s' → RelV v w' → Q w' s') :
    wpAny (model X.prog X.w) A (getItem (.ref a) u) Q E s := by
  rcases g with ⟨kvs, k, e, ey, l⟩ | ⟨kvs, k, b, e, ey, eb, l⟩
  · subst ey
    obtain ⟨z, hd, vs, rel, dd⟩ := dk_rd I.hok e
    obtain ⟨w', hw, rw'⟩ := RelO.some_of (v := v) (o := valueAt vs k) (by rw [l]; exact rel.val k)
    exact wpAny_getItem_of (kV_is ry) dd.mapOf hw (h w' _ (I.tok _) rw')
  · subst ey
    cases (show u = Value.ref b from ry)
    obtain ⟨z, hd, xs, rel, dd⟩ := dt_rd I.hok e
    obtain ⟨w', hw, rw'⟩ := RelO.some_of (v := v) (o := (atKey xs k).map (·.2)) (by rw [l]; exact rel.val k)
    obtain ⟨p, hp, hp2⟩ := Option.map_eq_some_iff.mp hw
    refine wpAny_getItem_heap (tupleKind_room_in1 hu) (key_of I.hok eb) dd hp ?_
    rw [hp2]
    exact h w' _ (I.tok _) rw'
theorem d_write {h' : Heap} {t' : Nat} {ob : HO} (I : Inv X pins σ H s) (mu : Mut (H a)) (hs : Heap.SameBut a s.heap h') (he : ∃ q, h'.get? a = some q) (new : ObjOk X.prog X.w (upd H a ob) h' a ob) :
    Inv X pins σ (upd H a ob) { s with heap := h', toks := t' } :=
  I.write (x := a) (e := a) mu (.inl rfl) (fun b q hb z => (hs.2 b hb).trans z) he new
theorem dk_new {P : Program} {w : World} {H' : Hp} {h' : Heap} {kvs : List (Key × V)} {vs : List (Key × Value)} (z : kvs.length ≤ sizeLine) (hd : (a == sysModules) = false) (rel : KV kvs vs) (dd : h'.DictOf (mixKind P w) a vs) :
    ObjOk P w H' h' a (.dK kvs) := ⟨z, hd, vs, rel, dd⟩
theorem d_setItem {H' : Hp} {Q : Unit → Shared → Prop} (hu : A.units + 1 < cLine) (I : Inv X pins σ H s) (g : DPut H a y v H') (ry : RelV y u) (rv : RelV v r) (h : ∀ s', Inv X pins σ H' s' → Q () s') :
    wpAny (model X.prog X.w) A (setItem (.ref a) u r) Q E s := by
  rcases g with ⟨kvs, k, e, ey, l, eH⟩ | ⟨kvs, k, b, e, ey, eb, l, eH⟩
  · subst ey eH
    obtain ⟨z, hd, vs, rel, dd⟩ := dk_of I.hok e
    have hz : vs.length ≤ sizeLine := by rw [← rel.length]; exact z
    have hl : (putK kvs k v).length ≤ sizeLine := by have := length_putK kvs k v; omega
    refine wpAny_setItem_pairs (hsz := hz) (kV_is ry) dd fun h' dd' hs => h _ ?_
    have he : ∃ q, h'.get? a = some q := let ⟨q, _, _, hq, _⟩ := dd'; ⟨q, hq⟩
    exact d_write I (by rw [e]; exact True.intro) hs he (dk_new hl hd (rel.put k rv) dd')
  · subst ey eH
    cases (show u = Value.ref b from ry)
    obtain ⟨z, hd, xs, rel, dd⟩ := dt_of I.hok e
    have hz : xs.length ≤ sizeLine := by rw [← Paired.length rel]; exact z
    have hl : (putK kvs k v).length ≤ sizeLine := by have := length_putK kvs k v; omega
    refine wpAny_setItem_heap (hsz := hz) (tupleKind_room_in1 hu) (key_of I.hok eb) dd fun h' dd' hs => h _ ?_
    obtain ⟨q, es, ep, hq, h2, h3, h4, _, h5⟩ := dd'
    refine d_write I (by rw [e]; exact True.intro) hs ⟨q, hq⟩ ⟨hl, hd, _, (rel.put k eb rv).keeps fun c ys ec => ?_, q, es, ep, hq, h2, h3, h4, h5⟩
    rw [upd_ne (ne_of ec e (fun z => nomatch z))]
    exact ec
end

section
variable {X : Cx} {pins : List (Addr × Obj)} {σ : St} {H : Hp} {s : Shared} {a : Addr} {kvs : List (Key × V)} {k : Key} {u : Value} {A : Around} {E : Value → Shared → Prop}
end


noncomputable def NoSl (i : Expr) : Prop := ∀ ov iv, subscripted i false ov iv = operate [ov, iv] (getItem ov iv)
theorem subD_of {prog : Program} {w : World} {A : Around} {E : Value → Shared → Prop} {s : Shared} {env : Env} {value slice : Expr} {pos : Pos} {T id : String} {Q : Value → Shared → Prop}
    (hl : typeLookup (.type T) "__getitem__" = pure (some (.builtin id))) (hs : NoSl slice)
    (h : wpAny (model prog w) A (eval value env) (fun o s₁ => wpAny (model prog w) A (eval slice env) (fun i s₂ => s₂.TypeIs o T ∧ wpAny (model prog w) A (getItem o i) Q E s₂) E s₁) E s) :
    wpAny (model prog w) A (eval (.Subscript value slice pos) env) Q E s := by
  refine Subscript_ (wpAny_mono h (fun o s₁ h₁ => wpAny_mono h₁ (fun i s₂ h₂ => ?_) fun _ _ x => x) fun _ _ x => x)
  obtain ⟨hT, h₂⟩ := h₂
  unfold subscriptTail
  refine wpAny_bind ?_
  rw [getitemInPython_of_ne hT.not_modules]
  refine wpAny_bind (wpAny_specialOf hT hl ?_)
  have fin : wpAny (model prog w) A (subscripted slice false o i) (fun r s₃ => wpAny (model prog w) A (letTemporaryGo value o r >>= fun _ => pure r) Q E s₃) E s₂ := by
    rw [hs o i]
    exact wpAny_operating (wpAny_mono h₂ (fun r s₃ h₃ => wpAny_bind (wpAny_letTemporaryGo (wpAny_pure h₃))) fun _ _ x => x)
  first
    | exact wpAny_pure (wpAny_bind fin)
    | exact wpAny_bind (wpAny_pure (wpAny_bind fin))
    | exact wpAny_bind fin

theorem dict_typeIs {X : Cx} {pins : List (Addr × Obj)} {σ : St} {H : Hp} {s : Shared} {a : Addr} {y : V} {o : Option V} (I : Inv X pins σ H s) (g : DGet H a y o) : s.TypeIs (.ref a) "dict" := by
  rcases g with ⟨kvs, k, e, _, _⟩ | ⟨kvs, k, b, e, _, _, _⟩
  · obtain ⟨_, _, vs, _, dd⟩ := dk_rd I.hok e
    exact dd.typeIs
  · obtain ⟨_, _, xs, _, dd⟩ := dt_rd I.hok e
    exact dd.typeIs

noncomputable def tDGet (td ty : TE) : TE := fun σ H Q => td σ H fun x H1 => ty σ H1 fun y H2 => ∃ a v, x = .ref a ∧ DGet H2 a y (some v) ∧ Q v H2
noncomputable def sDPut (td ty tv : TE) : TS := fun D σ H => tv σ H fun v H1 => td σ H1 fun x H2 => ty σ H2 fun y H3 => ∃ a H4, x = .ref a ∧ DPut H3 a y v H4 ∧ D.nx σ H4

section
variable {X : Cx} {o i e value : Expr} {pos pos' tpos : Pos} {td ty tv : TE}
theorem pe_dget (hu : X.A.units + 1 < cLine) (ho : PE X o td) (hi : PE X i ty) (hs : NoSl i) : PE X (.Subscript o i pos) (tDGet td ty) := by
  intro pins s σ H Q I h
  refine subD_of PySem.F.slot_dict_getitem.lookup hs (thn (ho pins s σ H _ I h) fun u s1 ⟨x, H1, I1, rx, q1⟩ => thn (hi pins s1 σ H1 _ I1 q1) fun iv s2 ⟨y, H2, I2, ry, a, v, ex, g, q2⟩ => ?_)
  subst ex
  obtain rfl : u = Value.ref a := rx
  exact ⟨dict_typeIs I2 g, d_getItem hu I2 g ry fun w' s3 I3 rw' => ⟨v, H2, I3, rw', q2⟩⟩
theorem ps_dput (hu : X.A.units + 1 < cLine) (ho : PE X o td) (hi : PE X i ty) (hv : PE X value tv) (hs : swapsWith value (some (.Subscript o i pos')) pos.line X.env = pure false) :
    PS X (.Assign [.Subscript o i pos'] value pos) (sDPut td ty tv) := by
  intro pins s σ H D I h
  refine wpAny_Assign_Subscript (thn (hv pins s σ H _ I h) fun r s1 ⟨v, H1, I1, rv, q1⟩ => thn (ho pins s1 σ H1 _ I1 q1) fun u s2 ⟨x, H2, I2, rx, q2⟩ => thn (hi pins s2 σ H2 _ I2 q2) fun iv s3 ⟨y, H3, I3, ry, a, H4, ex, g, q3⟩ => ?_) hs
  subst ex
  obtain rfl : u = Value.ref a := rx
  exact d_setItem hu I3 g ry rv fun s4 I4 => ⟨σ, H4, I4, q3⟩
end


theorem dt_empty {P : Program} {w : World} {H : Hp} (h : Heap) (hb : sysModules < h.objs.size) : ObjOk P w H (h.push { cls := .type "dict", data := .dict #[] }) h.objs.size (.dT []) :=
  ⟨Nat.zero_le _, beq_eq_false_iff_ne.mpr (Ne.symm (Nat.ne_of_lt hb)), [], .nil, _, #[], 0, Heap.get?_push_size _ rfl, ⟨rfl, rfl, rfl⟩, rfl, rfl, List.nodup_nil⟩
noncomputable def tDNewT : TE := fun _ H Q => ∀ p, H p = none → Q (.ref p) (upd H p (.dT []))
section
variable {X : Cx} {pos : Pos}
theorem pe_dnewT : PE X (.Dict [] [] pos) tDNewT := fun pins s σ H Q I h =>
  wpAny_Dict_empty ⟨.ref s.heap.objs.size, _, I.laid (a := s.heap.objs.size) (o := .dT []) (t' := s.toks) (fun _ _ q => Heap.get?_push_of_some _ q) (Nat.le_refl _) (dt_empty s.heap I.big), rfl, h _ (I.hok.fresh (Nat.le_refl _))⟩
end




structure M1 (X : Cx) (o : Expr) (m : Str) (apos : Pos) (e : Expr) (cpos : Pos) : Prop where
  base : attributeBase o m X.env (eval o X.env) = eval o X.env
  few : ((backTo cpos (starEach [e] X.env)).all (fun x => !x.1) && (backToKw cpos (keywordEach [] X.env)).all (fun x => x.1.isSome)
    && decide (([e] : List Expr).length + ([] : List Keyword).length + (if ([] : List Keyword).isEmpty then 0 else 1) < 30)) = true
  line : (apos.endLine == cpos.line) = true
  trees : backTo cpos (starEach [e] X.env) = [(false, eval e X.env)]
structure M2 (X : Cx) (o : Expr) (m : Str) (apos : Pos) (e f : Expr) (cpos : Pos) : Prop where
  base : attributeBase o m X.env (eval o X.env) = eval o X.env
  few : ((backTo cpos (starEach [e, f] X.env)).all (fun x => !x.1) && (backToKw cpos (keywordEach [] X.env)).all (fun x => x.1.isSome)
    && decide (([e, f] : List Expr).length + ([] : List Keyword).length + (if ([] : List Keyword).isEmpty then 0 else 1) < 30)) = true
  line : (apos.endLine == cpos.line) = true
  trees : backTo cpos (starEach [e, f] X.env) = [(false, eval e X.env), (false, eval f X.env)]

noncomputable def IsD (H : Hp) (a : Addr) : Prop := (∃ kvs, Rd H a (.dK kvs)) ∨ ∃ kvs, Rd H a (.dT kvs)
theorem isD_at {X : Cx} {pins : List (Addr × Obj)} {σ : St} {H : Hp} {s : Shared} {a : Addr} (I : Inv X pins σ H s) (d : IsD H a) :
    s.TypeIs (.ref a) "dict" ∧ (∀ b, Value.ref a = .ref b → ∃ ob, s.heap.get? b = some ob ∧ ob.dict = none) ∧ (a == sysModules) = false := by
  rcases d with ⟨kvs, e⟩ | ⟨kvs, e⟩
  · obtain ⟨_, hd, vs, _, dd⟩ := dk_rd I.hok e
    refine ⟨dd.typeIs, fun b q => ?_, hd⟩
    cases q
    obtain ⟨ob, _, _, h1, h2, _⟩ := dd
    exact ⟨ob, h1, h2.2.1⟩
  · obtain ⟨_, hd, xs, _, dd⟩ := dt_rd I.hok e
    refine ⟨dd.typeIs, fun b q => ?_, hd⟩
    cases q
    obtain ⟨ob, _, _, h1, h2, _⟩ := dd
    exact ⟨ob, h1, h2.2.1⟩

section
variable {X : Cx} {pins : List (Addr × Obj)} {σ : St} {H : Hp} {s : Shared} {a : Addr} {y d : V} {u r : Value} {o : Option V} {A : Around} {E : Value → Shared → Prop}
theorem d_get2 {Q : Value → Shared → Prop} (hu : A.units + 1 < cLine) (I : Inv X pins σ H s) (g : DGet H a y o) (ry : RelV y u) (rd : RelV d r) (h : ∀ w' s', Inv X pins σ H s' → RelV (o.getD d) w' → Q w' s') :
    wpAny (model X.prog X.w) A (call (.builtin "dict.get") [.ref a, u, r]) Q E s := by
  rcases g with ⟨kvs, k, e, ey, l⟩ | ⟨kvs, k, b, e, ey, eb, l⟩
  · subst ey
    obtain ⟨z, hd, vs, rel, dd⟩ := dk_rd I.hok e
    refine call_meetsIn PySem.F.slot_dict_get dd.typeIs PySem.F.entry_dict_get (PySem.F.args_dict_get_3 _ _ _) (meets_dict_get_default (mixKind X.prog X.w) a (kV_is ry) hd r) ⟨_, dd.mapOf, h _ _ (I.tok _) ?_⟩
    rw [l]
    exact (rel.val k).getD rd
  · subst ey
    cases (show u = Value.ref b from ry)
    obtain ⟨z, hd, xs, rel, dd⟩ := dt_rd I.hok e
    refine call_meetsIn PySem.F.slot_dict_get dd.typeIs PySem.F.entry_dict_get (PySem.F.args_dict_get_3 _ _ _) (meetsH_dict_get_default (tupleKind (mixKind X.prog X.w)) a b hd r) ⟨tupleKind_room_in1 hu, k, xs, key_of I.hok eb, dd, h _ _ (I.tok _) ?_⟩
    rw [l]
    exact (rel.val k).getD rd
end

noncomputable def tDGet2 (td ty tx : TE) : TE := fun σ H Q => td σ H fun x H1 => ∃ a, x = .ref a ∧ IsD H1 a ∧ ty σ H1 fun y H2 => tx σ H2 fun z H3 => ∃ o, DGet H3 a y o ∧ Q (o.getD z) H3
section
variable {X : Cx} {o e f : Expr} {apos cpos : Pos} {td ty tx : TE}
theorem pe_dget2 (hu : X.A.units + 1 < cLine) (ho : PE X o td) (he : PE X e ty) (hf : PE X f tx) (m : M2 X o "get" apos e f cpos) : PE X (.Call (.Attribute o "get" apos) [e, f] [] cpos) (tDGet2 td ty tx) := by
  intro pins s σ H Q I h
  refine wpAny_Call_method m.base m.few m.line PySem.F.plainAttrs_dict PySem.F.slot_dict_get PySem.F.type_dict_get (thn (ho pins s σ H _ I h) fun u s1 ⟨x, H1, I1, rx, a, ex, d, q1⟩ => ?_)
  subst ex
  obtain rfl : u = Value.ref a := rx
  obtain ⟨t1, t2, _⟩ := isD_at I1 d
  refine ⟨t1, t2, ?_⟩
  rw [m.trees]
  refine Calls.callWith_builtin rfl (Calls.evalArgs_plain (Calls.spliced_cons (thn (he pins s1 σ H1 _ I1 q1) fun iv s2 ⟨y, H2, I2, ry, q2⟩ =>
    Calls.spliced_cons (thn (hf pins s2 σ H2 _ I2 q2) fun fv s3 ⟨z, H3, I3, rz, ov, g, q3⟩ => Calls.spliced_nil ?_))))
  exact d_get2 hu I3 g ry rz fun w' s4 I4 rw' => ⟨_, H3, I4, rw', q3⟩
end

section
variable {X : Cx} {pins : List (Addr × Obj)} {σ : St} {H : Hp} {s : Shared} {a : Addr} {kvs : List (Key × V)} {A : Around} {E : Value → Shared → Prop}
end


section
variable {X : Cx} {pins : List (Addr × Obj)} {σ : St} {H : Hp} {s : Shared} {a : Addr} {y : V} {u : Value} {A : Around} {E : Value → Shared → Prop}
end
end L2
namespace L2
open PySem PySem.Spec PyProof.Rows
section
variable {X : Cx}
end
end L2
namespace L2
open PySem PySem.Spec PyProof.Rows

section
variable {κ : Type} [DecidableEq κ]
end
end L2

namespace LwD
open PySem PySem.Spec PyProof.Rows L2
section
variable {prog : Program} {w : World} {K : Type} [DecidableEq K] {knd : HeapKind prog w K} {A : Around} {E : Value → Shared → Prop} {s : Shared}
end
section
variable {X : Cx} {pins : List (Addr × Obj)} {σ : L2.St} {H : Hp} {s : Shared} {a b : Addr} {kvs : List (List Key × V)} {k : List Key} {E : Value → Shared → Prop}
variable {o e : Expr} {td ty : TE} {apos cpos : Pos}
end
end LwD

namespace LwD
open PySem PySem.Spec PyProof.Rows L2
noncomputable def Raw (h : Heap) (d : Addr) (es : Array DictEntry) (ep : Nat) : Prop := ∃ o, h.get? d = some o ∧ o.ExactDict ∧ o.data = .dict es ep
theorem Raw.lt {h : Heap} {d : Addr} {es : Array DictEntry} {ep : Nat} (r : Raw h d es ep) : d < h.objs.size := let ⟨_, e, _⟩ := r; Heap.lt_size e
theorem Raw.keep {h h' : Heap} {d : Addr} {es : Array DictEntry} {ep : Nat} (r : Raw h d es ep) (k : ∀ o, h.get? d = some o → h'.get? d = some o) : Raw h' d es ep := let ⟨o, e, x⟩ := r; ⟨o, k o e, x⟩
theorem Raw.ty {s : Shared} {d : Addr} {es : Array DictEntry} {ep : Nat} (r : Raw s.heap d es ep) : s.TypeIs (.ref d) "dict" := let ⟨o, e, c, _⟩ := r; ⟨o, e, c.1⟩
section
variable {prog : Program} {w : World} {A : Around} {E : Value → Shared → Prop} {s : Shared} {d it : Addr} {es : Array DictEntry} {ep i : Nat}
theorem raw_iter {Q : Value → Shared → Prop} (lo : (d == sysModules) = false) (r : Raw s.heap d es ep)
    (q : Q (.ref s.heap.objs.size) { s with heap := s.heap.push { cls := .type "dict_keyiterator", data := .fields #[.ref d, .int 0 0, .int es.size 0, .int ep 0] } }) : wpAny (model prog w) A (pyIter (.ref d)) Q E s := by
  have ty := r.ty
  obtain ⟨o, ho, hc, hdat⟩ := r
  refine wpAny_pyIter_slot ty PySem.F.slot_dict_iter (wpAny_call_entry PySem.F.slot_dict_iter ty PySem.F.entry_dict_iter ?_ (PySem.F.args_dict_iter_1 _))
  unfold Builtin.«dict.__iter__»
  refine wpAny_bind (show wpAny _ _ (Builtin.Dict.dictSlotNone _ _) _ _ s from ?_)
  unfold Builtin.Dict.dictSlotNone
  refine wpAny_bind (wpAny_notOrdered_dict ty (show wpAny _ _ (pure (Value.ref d)) _ _ s from wpAny_pure ?_))
  show wpAny _ _ (Builtin.Dict.showsAll d >>= _) _ _ s
  unfold Builtin.Dict.showsAll
  rw [if_neg (by rw [lo]; exact Bool.false_ne_true)]
  refine wpAny_bind (wpAny_pure (wpAny_bind (wpAny_dictEntries ho hdat (wpAny_bind (wpAny_dictEpoch ho hdat ?_)))))
  refine wpAny_bind (wpAny_newObj_type (wpAny_pure ⟨_, rfl, "dict_keyiterator", _, ⟨_, Heap.get?_push_size _ rfl, rfl⟩, PySem.F.slot_dict_keyiterator_next.lookup, ?_⟩))
  simpa [rawInt] using q
theorem raw_next {Q : Option Value → Shared → Prop} (k : s.heap.IsKeyIter it d i es.size ep) (r : Raw s.heap d es ep) (hi : i < es.size)
    (q : ∀ h', h'.IsKeyIter it d (i + 1) es.size ep → Heap.SameBut it s.heap h' → Q (some es[i].key) { s with heap := h' }) : wpAny (model prog w) A (pyNext (.ref it)) Q E s := by
  have ty := k.typeIs
  obtain ⟨o, ho, hc, hd⟩ := id k
  obtain ⟨od, hod, hcd, hdd⟩ := id r
  have own : Builtin.Dict_items.ownsTuple "dict_keyiterator" = false := by decide
  unfold pyNext
  refine wpAny_bind (wpAny_attempt (wpAny_callSpecial?_slot (name := Str.ofString "__next__") ty PySem.F.slot_dict_keyiterator_next (wpAny_call_entry PySem.F.slot_dict_keyiterator_next ty PySem.F.entry_dict_keyiterator_next ?_ (PySem.F.args_dict_keyiterator_next_1 _))))
  refine wpAny_bind (wpAny_pure (wpAny_bind (wpAny_bind ?_)))
  first | refine wpAny_bind (wpAny_typeNameOfWhole_keyiter ty (wpAny_pure (wpAny_bind (wpAny_fieldsOf ho hd ?_)))) | refine wpAny_bind (wpAny_typeNameOf_keyiter ty (wpAny_pure (wpAny_bind (wpAny_fieldsOf ho hd ?_))))
  simp only [own, Bool.false_eq_true, if_false]
  show wpAny _ _ (if (Value.ref d == Value.none) = true then _ else _) _ _ s
  rw [if_neg (show ¬ ((Value.ref d == Value.none) = true) from Bool.false_ne_true)]
  refine wpAny_bind (wpAny_pure (wpAny_bind (wpAny_dictEntries hod hdd ?_)))
  rw [if_neg (by simp)]
  refine wpAny_bind (wpAny_pure (wpAny_bind (wpAny_dictEpoch hod hdd ?_)))
  rw [if_neg (by simp)]
  refine wpAny_pure ?_
  simp only [show ¬ ((i : Int) < 0) from by omega, if_false, Int.toNat_natCast, Array.getElem?_eq_getElem hi]
  refine wpAny_bind ?_
  first | refine wpAny_bind (wpAny_typeNameOfWhole_keyiter ty (wpAny_pure (wpAny_bind (wpAny_isOneOf_keyiter ty ?_)))) | refine wpAny_bind (wpAny_typeNameOf_keyiter ty (wpAny_pure (wpAny_bind (wpAny_isOneOf_keyiter ty ?_))))
  show wpAny _ _ (setField (.ref it) 1 (rawInt ((i : Int) + 1)) >>= _) _ _ s
  have k' : (s.heap.update it (Obj.mapFields (·.setIfInBounds 1 (rawInt ((i : Int) + 1))))).IsKeyIter it d (i + 1) es.size ep :=
    ⟨_, Heap.get?_update_self _ ho (Obj.isFreed_of_fields (Obj.data_mapFields hd _)), (Obj.cls_mapFields ..).trans hc, by rw [Obj.data_mapFields hd]; simp [rawInt]⟩
  refine wpAny_bind (wpAny_setField ho hd (by simp) (wpAny_bind (wpAny_holding ?_)))
  refine wpAny_bind (wpAny_isOneOf_keyiter (s := { s with heap := s.heap.update it (Obj.mapFields (·.setIfInBounds 1 (rawInt ((i : Int) + 1)))) }) k'.typeIs ?_)
  show wpAny _ _ (pure es[i].key) _ _ _
  exact wpAny_pure (wpAny_pure ⟨_, rfl, wpAny_pure (q _ k' (Heap.SameBut.update ..))⟩)
theorem raw_end {Q : Option Value → Shared → Prop} (hh : A.handled = none) (k : s.heap.IsKeyIter it d es.size es.size ep) (r : Raw s.heap d es ep) (q : ∀ h', Heap.ExtBut it s.heap h' → Q none { s with heap := h' }) : wpAny (model prog w) A (pyNext (.ref it)) Q E s := by
  have ty := k.typeIs
  obtain ⟨o, ho, hc, hd⟩ := id k
  obtain ⟨od, hod, hcd, hdd⟩ := id r
  have own : Builtin.Dict_items.ownsTuple "dict_keyiterator" = false := by decide
  unfold pyNext
  refine wpAny_bind (wpAny_attempt (wpAny_callSpecial?_slot (name := Str.ofString "__next__") ty PySem.F.slot_dict_keyiterator_next (wpAny_call_entry PySem.F.slot_dict_keyiterator_next ty PySem.F.entry_dict_keyiterator_next ?_ (PySem.F.args_dict_keyiterator_next_1 _))))
  refine wpAny_bind (wpAny_pure (wpAny_bind (wpAny_bind ?_)))
  first | refine wpAny_bind (wpAny_typeNameOfWhole_keyiter ty (wpAny_pure (wpAny_bind (wpAny_fieldsOf ho hd ?_)))) | refine wpAny_bind (wpAny_typeNameOf_keyiter ty (wpAny_pure (wpAny_bind (wpAny_fieldsOf ho hd ?_))))
  simp only [own, Bool.false_eq_true, if_false]
  show wpAny _ _ (if (Value.ref d == Value.none) = true then _ else _) _ _ s
  rw [if_neg (show ¬ ((Value.ref d == Value.none) = true) from Bool.false_ne_true)]
  refine wpAny_bind (wpAny_pure (wpAny_bind (wpAny_dictEntries hod hdd ?_)))
  rw [if_neg (by simp)]
  refine wpAny_bind (wpAny_pure (wpAny_bind (wpAny_dictEpoch hod hdd ?_)))
  rw [if_neg (by simp)]
  refine wpAny_pure ?_
  simp only [show ¬ ((es.size : Int) < 0) from by omega, if_false, Int.toNat_natCast, Array.getElem?_eq_none (Nat.le_refl es.size)]
  refine wpAny_bind ?_
  first | refine wpAny_bind (wpAny_typeNameOfWhole_keyiter ty (wpAny_pure ?_)) | refine wpAny_bind (wpAny_typeNameOf_keyiter ty (wpAny_pure ?_))
  show wpAny _ _ (setField (.ref it) 0 .none >>= _) _ _ s
  refine wpAny_bind (wpAny_setField ho hd (by simp) (show wpAny _ _ (newExc (.type "StopIteration") [] >>= _) _ _ _ from wpAny_bind ?_))
  simp only [newExc, newTuple]
  refine wpAny_bind (wpAny_newObj_type (wpAny_bind (m := firstArgMember _ _) (wpAny_of_eq (a := Value.none) (by first | rfl | (simp only [firstArgMember]; rfl)) (wpAny_newObj_type ?_ (by size_fits)))) (by size_fits))
  simp only [raiseNew]
  refine wpAny_bind (wpAny_handled ?_)
  rw [show A.in1.handled = none from hh]
  refine wpAny_bind (wpAny_pure (wpAny_throw ?_))
  refine wpAny_bind (wpAny_isInstance (b := true) (T := "StopIteration") ⟨_, Heap.get?_push_size _ rfl, rfl⟩ isSubtype_stop ?_)
  exact wpAny_pure (q _ (((Heap.SameBut.update ..).extBut.push _).push _))
theorem raw_walks (hh : A.handled = none) (hne : d ≠ it) : Walks prog w A it [it, d] [it] es.size (fun i v => ∃ h : i < es.size, v = es[i].key) (fun i h => h.IsKeyIter it d i es.size ep ∧ Raw h d es ep) where
  sub := fun b hb => by simp at hb; simp [hb]
  frame := fun _ _ _ st hk => ⟨st.1.at fun o e => hk it (by simp) o e, st.2.keep fun o e => hk d (by simp) o e⟩
  item := fun i s Q E hi st hQ => raw_next st.1 st.2 hi fun h' k' hs' => hQ _ h' s.toks ⟨hi, rfl⟩ ⟨k', st.2.keep fun o e => hs'.extBut d o hne e⟩ fun b o hb e => hs'.extBut b o (fun h => hb (by simp [h])) e
  done := fun s Q E st hQ => raw_end hh st.1 st.2 fun h' he' => hQ h' s.toks fun b o hb e => he' b o (fun h => hb (by simp [h])) e
  self := fun _ _ _ _ st hQ => wpAny_pyIter_keyiter st.1 hQ
theorem raw_src (lo : (d == sysModules) = false) : PySem.W.KdlSrc prog w "dict" d d es.size (fun i v => ∃ h : i < es.size, v = es[i].key) (fun h => Raw h d es ep) where
  type := fun _ hm => hm.ty
  there := fun _ hm => ⟨hm.lt, hm.lt⟩
  keep := fun _ _ hm hk => hm.keep fun o e => hk d (.inl rfl) o e
  notList := by decide
  notTuple := by decide
  hint := fun _ _ _ _ hm hq => PySem.W.kdl_hint_dict hm.ty hq
  iter := fun _ _ hh hm => ⟨_, _, (fun _ _ hq => raw_iter lo hm hq), raw_walks hh (Nat.ne_of_lt hm.lt), ⟨⟨_, Heap.get?_push_size _ rfl, rfl, rfl⟩, hm.keep fun o e => Heap.get?_push_of_some _ e⟩⟩
end
end LwD

namespace LwD
open PySem PySem.W PySem.Spec PyProof.Rows
noncomputable def Pm (n : Nat) (p : Array Nat) : Prop := p.toList.Perm (List.range n)
theorem Pm.size {n : Nat} {p : Array Nat} (h : Pm n p) : p.size = n := by have := h.length_eq; simpa using this
theorem Pm.lt {n : Nat} {p : Array Nat} (h : Pm n p) {i : Nat} (hn : 0 < n) : p.getD i 0 < n := by
  by_cases hi : i < p.size
  · have : p.getD i 0 ∈ p.toList := by simp [Array.getD, hi]
    exact List.mem_range.mp (h.mem_iff.mp this)
  · simp [Array.getD, hi, hn]
theorem Pm.rev {n : Nat} {p : Array Nat} (h : Pm n p) (i j : Nat) : Pm n (kas_rev p i j) := (Array.perm_iff_toList_perm.mp (mirror_perm p i j _)).trans h
theorem Pm.bub {n : Nat} {p : Array Nat} (h : Pm n p) (i j : Nat) : Pm n (bubble p i j) := (Array.perm_iff_toList_perm.mp (bubble_perm p i j)).trans h
section
variable {prog : Program} {w : World} {A : Around} {E : Value → Shared → Prop} {s : Shared}
end
end LwD

namespace LwD
open PySem PySem.Spec PyProof.Rows L2 Lw
theorem ns_uniq {h : Heap} {a : Addr} {m m' : Str → Option Value} (x : h.Ns a m) (y : h.Ns a m') : m = m' := by
  obtain ⟨o, es, ep, ho, hd, hk, hm⟩ := x
  obtain ⟨o', es', ep', ho', hd', hk', hm'⟩ := y
  rw [ho] at ho'
  cases ho'
  rw [hd] at hd'
  cases hd'
  funext z
  rw [← hm z, ← hm' z]
theorem obj_some {P : Program} {w : World} {H : Hp} {h : Heap} {a : Addr} {o : HO} (x : ObjOk P w H h a o) : ∃ q, h.get? a = some q := by
  cases o with
  | lst xs => obtain ⟨_, _, _, _, e⟩ := x; exact ⟨_, e⟩
  | tup xs => obtain ⟨_, _, _, q, e, _⟩ := x; exact ⟨_, e⟩
  | dK kvs => obtain ⟨_, _, _, _, o, _, _, e, _⟩ := x; exact ⟨_, e⟩
  | dT kvs => obtain ⟨_, _, _, _, o, _, _, e, _⟩ := x; exact ⟨_, e⟩
  | set S n => obtain ⟨o, _, _, _, e, _⟩ := x; exact ⟨_, e⟩
  | ins C dx fs => obtain ⟨_, _, _, e, _⟩ := x; exact ⟨_, e⟩
  | own y => exact x
  | xd fs => obtain ⟨_, ⟨_, _, _, e, _⟩, _⟩ := x; exact ⟨_, e⟩
  | rng lo hi => obtain ⟨_, _, _, e⟩ := x; exact ⟨_, e⟩
  | frz ob u => exact ⟨_, x.1⟩
  | tbl ps => exact ⟨_, x⟩
  | met f y => exact ⟨_, x⟩
  | ext φ => exact x.2.1
section
variable {X : Cx} {pins : List (Addr × Obj)} {σ : L2.St} {H : Hp} {s : Shared}
theorem new_by_news {D : Addr} {o : Obj} {ho : HO} {h3 : Heap} {m : Str → Option Value} {tk : Nat} (I : Inv X pins σ H s) (F : Fr X.base X.env.locals s.heap m) (F3 : Fr X.base X.env.locals h3 m) (N3 : News X.base X.env.locals h3 ((D, o) :: allNews X.base s.heap X.env.locals))
    (lt : ∀ q ∈ allNews X.base s.heap X.env.locals, q.1 < D) (new : h3.get? D = some o → ObjOk X.prog X.w (upd H D ho) h3 D ho) : H D = none ∧ Inv X pins σ (upd H D ho) { s with heap := h3, toks := tk } := by
  have n1 := N3 (D, o) (List.mem_cons_self ..)
  have dn : s.heap.get? D = none := by
    cases q : s.heap.get? D with
    | none => rfl
    | some u => exact absurd (lt _ (mem_allNews n1.2.1 n1.2.2 q)) (Nat.lt_irrefl _)
  have Hn : H D = none := by
    cases q : H D with
    | none => rfl
    | some u =>
      obtain ⟨z, e⟩ := obj_some (I.hok D u q)
      rw [dn] at e
      cases e
  have kp : ∀ b u, b ≠ X.env.locals → s.heap.get? b = some u → h3.get? b = some u := fun b u hb e => by
    cases q : X.base.get? b with
    | some z =>
      have y := I.bk b z q
      rw [e] at y
      cases y
      exact F3.keep b _ q
    | none => exact (N3 (b, u) (List.mem_cons_of_mem _ (mem_allNews hb q e))).1
  have ne : ∀ b u, s.heap.get? b = some u → b ≠ D := fun b u e z => by rw [z, dn] at e; cases e
  have thr : ∀ b u, s.heap.get? b = some u → ∃ u', h3.get? b = some u' := fun b u e => by
    by_cases hb : b = X.env.locals
    · obtain ⟨u', _, _, e', _⟩ := F3.ns
      exact ⟨u', by rw [hb]; exact e'⟩
    · exact ⟨u, kp b u hb e⟩
  refine ⟨Hn, I.step (g' := s.gens) (d' := s.drawn) (ch := []) (fun _ z => nomatch z) (fun b u hb _ _ e _ => kp b u hb e) (fun b u hb _ _ e _ => ⟨u.slots, kp b u hb e⟩) (fun b u _ e n => ?_) (fun b u _ e => thr b u e) (fun b xs e => ?_) (fun b u v e => ?_) (fun b ps e => ?_) (fun m' hm => ?_) (fun b u e => ?_) I.bare⟩
  · rw [upd_ne (ne b u e)]
    exact n
  · rw [upd_ne (ne_of_none e Hn)]
    exact e
  · rw [upd_ne (ne_of_none e Hn)]
    exact e
  · exact ⟨#[], by rw [upd_ne (ne_of_none e Hn), e]; simp⟩
  · rw [ns_uniq hm F.ns]
    exact F3.ns
  · by_cases hb : b = D
    · subst hb
      rw [upd_same] at e
      cases e
      exact new n1.1
    · rw [upd_ne hb] at e
      refine (I.hok b u e).stay (fun c v hc q => kp c v (fun z => ?_) q) (fun c q => by rw [upd_ne (ne_of_none q Hn)]; exact q) fun c xs q => by rw [upd_ne (ne_of_none q Hn)]; exact q
      rcases hc with y | y
      · rw [← y, z, I.free] at e
        cases e
      · rw [z, I.free] at y
        cases y
end
section
variable {prog : Program} {w : World} {A : Around} {E : Value → Shared → Prop} {s : Shared}
theorem sort_small {a : Addr} {vs : List Value} {n : Nat} {Q : Value → Shared → Prop} (ho : s.heap.get? a = some (seqObj "list" vs.toArray n)) (h2 : vs.length < 2) (q : Q .none { s with heap := sortedHeap s.heap a vs vs.toArray }) : wpAny (model prog w) A (call (.builtin "list.sort") [.ref a]) Q E s := by
  refine wpAny_call_entry slot_list_sort ⟨_, ho, rfl⟩ entry_list_sort ?_ (args_list_sort _)
  rw [list_sort_plain]
  have ha : a < s.heap.objs.size := Heap.lt_size ho
  obtain ⟨e1, ho1⟩ : ∃ e1, (s.heap.update a (Obj.mapSeq fun _ => #[])).get? a = some (seqObj "list" #[] e1) := ⟨_, get?_update_seq ho (fun _ => #[])⟩
  have ho6 : (((s.heap.update a (Obj.mapSeq fun _ => #[])).push (seqObj "tuple" vs.toArray 0)).push (seqObj "list" #[] 0)).get? a = some (seqObj "list" #[] e1) := Heap.get?_push_of_some _ (Heap.get?_push_of_some _ ho1)
  have hz : vs.toArray.size < 2 := by simpa using h2
  refine wpAny_bind (listItems_at ho rfl (wpAny_bind (listUpdate_at ho rfl (wpAny_bind (seqEpoch_at ho1 rfl (wpAny_bind (wpAny_newTuple (wpAny_bind (wpAny_newList (wpAny_holding ?_))))))))))
  show wpAny (model prog w) _ _ _ E { s with heap := ((s.heap.update a (Obj.mapSeq fun _ => #[])).push (seqObj "tuple" vs.toArray 0)).push (seqObj "list" #[] 0) }
  dsimp only
  rw [if_pos hz, if_pos hz]
  refine wpAny_bind (wpAny_pure ?_)
  rw [StateT.run_pure]
  refine wpAny_bind (wpAny_pure ?_)
  dsimp only
  have hm : (arrOf (SortSt.mk' general' (vs.toArray.zip vs.toArray) #[] 7 none)).map (·.2) = vs.toArray := by
    show (vs.toArray.zip vs.toArray).map (·.2) = vs.toArray
    apply Array.ext'
    simp [List.map_snd_zip]
  refine wpAny_bind (seqEpoch_at ho6 rfl (wpAny_bind (listUpdate_at ho6 rfl ?_ (hsz2 := by rw [hm, sizeLine_eq]; omega))))
  rw [hm]
  simp only [bne_self_eq_false, Bool.false_eq_true, if_false]
  exact wpAny_pure ⟨_, rfl, q⟩
end
end LwD

namespace LwD
open PySem PySem.Spec PyProof.Rows L2 Lw
noncomputable abbrev ik (ns : List Int) : List Key := ns.map Sum.inl
theorem ik_map (ns : List Int) : (ik ns).map kV = ns.map V.int := by
  unfold ik
  rw [List.map_map]
  rfl
section
variable {X : Cx}
end
end LwD

namespace LwD
open PySem PySem.Spec PyProof.Rows L2 Lw
theorem KTgetI {H : Hp} {kvs : List (List Key × V)} {xs : List (List Key × Addr × Value)} (r : KT H kvs xs) : ∀ {j : Nat} {q : List Key × Addr × Value}, xs[j]? = some q → ∃ v, kvs[j]? = some (q.1, v) ∧ H q.2.1 = some (.tup (q.1.map kV)) := by
  induction r with
  | nil => intro j q e; simp at e
  | @cons p q' ps qs h t ih =>
    intro j q e
    cases j with
    | zero =>
      simp only [List.getElem?_cons_zero, Option.some.injEq] at e
      subst e
      exact ⟨p.2, by rw [← h.1]; rfl, by rw [← h.1]; exact h.2.1⟩
    | succ j =>
      simp only [List.getElem?_cons_succ] at e ⊢
      exact ih e
noncomputable def Keyed (H : Hp) (ys : List V) (zs : List (List Key × V)) : Prop := ys.length = zs.length ∧ ∀ (i : Nat) (y : V) (p : List Key × V), ys[i]? = some y → zs[i]? = some p → ∃ (b : Addr) (ns : List Int), y = .ref b ∧ H b = some (.tup (ns.map V.int)) ∧ p.1 = ik ns
theorem getD_range {α : Type} (l : List α) (d : α) : (List.range l.length).map (fun i => l.getD i d) = l := by
  apply List.ext_getElem
  · simp
  · intro i h1 h2
    simp at h1
    simp [h1]
end LwD

namespace L2
open PySem PySem.Spec PyProof.Rows
section
variable {prog : Program} {w : World} {A : Around} {E : Value → Shared → Prop} {s : Shared}
theorem nextT {it t : Addr} {k : Nat} {its : Array Value} {v : Value} {Q : Value → Shared → Prop} (st : s.heap.IsTupleIter it t k) (tu : s.heap.IsTuple t its) (hv : its[k]? = some v)
    (q : ∀ g, g.IsTupleIter it t (k + 1) → Heap.SameBut it s.heap g → Q v { s with heap := g }) : wpAny (model prog w) A (Builtin.SmallTypes.nextOf (.ref it)) Q E s := by
  obtain ⟨oi, gi, ci, di⟩ := id st; obtain ⟨ot, gt, _, nt, dt⟩ := tu
  unfold Builtin.SmallTypes.nextOf
  refine wpAny_bind (wpAny_callSpecial?_slot (name := Str.ofString "__next__") st.typeIs F.slot_tuple_iterator_next (wpAny_call_entry F.slot_tuple_iterator_next st.typeIs F.entry_tuple_iterator_next ?_ (F.args_tuple_iterator_next_1 _)))
  show wpAny _ _ (field (.ref it) 0 >>= _) _ _ _
  refine wpAny_bind (wpAny_field gi di (x := .ref t) rfl ?_)
  show wpAny _ _ (if (Value.ref t == Value.none) = true then _ else _) _ _ _
  rw [if_neg (show ¬ (Value.ref t == Value.none) = true from Bool.false_ne_true)]
  show wpAny _ _ (field (.ref it) 1 >>= _) _ _ _
  refine wpAny_bind (wpAny_field gi di (x := .int k 0) rfl ?_)
  show wpAny _ _ (seqItems? (.ref t) >>= _) _ _ _
  refine wpAny_bind (wpAny_seqItems gt dt ?_)
  simp only [Int.toNat_natCast, hv]
  refine wpAny_bind (wpAny_setField gi di (by simp) (wpAny_pure ⟨v, rfl, wpAny_pure (q _ ⟨_, Heap.get?_update_self _ gi (Obj.isFreed_of_fields (Obj.data_mapFields di _)), (Obj.cls_mapFields ..).trans ci, by rw [Obj.data_mapFields di]; simp [rawInt]⟩ (Heap.SameBut.update ..))⟩))
theorem nextT_end {it t : Addr} {k : Nat} {its : Array Value} {Q : Value → Shared → Prop} (hh : A.handled = none) (st : s.heap.IsTupleIter it t k) (tu : s.heap.IsTuple t its) (hv : its[k]? = none)
    (q : ∀ g e, Heap.ExtBut it s.heap g → (∃ o, g.get? e = some o ∧ o.cls = .type "StopIteration") → E (.ref e) { s with heap := g }) : wpAny (model prog w) A (Builtin.SmallTypes.nextOf (.ref it)) Q E s := by
  obtain ⟨oi, gi, ci, di⟩ := id st; obtain ⟨ot, gt, _, nt, dt⟩ := tu
  unfold Builtin.SmallTypes.nextOf
  refine wpAny_bind (wpAny_callSpecial?_slot (name := Str.ofString "__next__") st.typeIs F.slot_tuple_iterator_next (wpAny_call_entry F.slot_tuple_iterator_next st.typeIs F.entry_tuple_iterator_next ?_ (F.args_tuple_iterator_next_1 _)))
  show wpAny _ _ (field (.ref it) 0 >>= _) _ _ _
  refine wpAny_bind (wpAny_field gi di (x := .ref t) rfl ?_)
  show wpAny _ _ (if (Value.ref t == Value.none) = true then _ else _) _ _ _
  rw [if_neg (show ¬ (Value.ref t == Value.none) = true from Bool.false_ne_true)]
  show wpAny _ _ (field (.ref it) 1 >>= _) _ _ _
  refine wpAny_bind (wpAny_field gi di (x := .int k 0) rfl ?_)
  show wpAny _ _ (seqItems? (.ref t) >>= _) _ _ _
  refine wpAny_bind (wpAny_seqItems gt dt ?_)
  simp only [Int.toNat_natCast, hv]
  refine wpAny_bind (wpAny_rule (wpAny_bind (wpAny_setField gi di (by simp) ?_)))
  show wpAny _ _ (newExc (.type "StopIteration") [] >>= _) _ _ _
  refine wpAny_bind ?_
  simp only [newExc, newTuple]
  refine wpAny_bind (wpAny_newObj_type ?_ (by size_fits))
  refine wpAny_bind (m := firstArgMember _ _) (wpAny_of_eq (a := Value.none) (by first | rfl | (simp only [firstArgMember]; rfl)) ?_)
  refine wpAny_newObj_type ?_ (by size_fits)
  simp only [raiseNew]
  refine wpAny_bind (wpAny_handled ?_)
  first | rw [show A.in1.handled = none from hh] | rw [hh]
  exact wpAny_bind (wpAny_pure (wpAny_throw (q _ _ (((Heap.SameBut.update ..).extBut.push _).push _) ⟨_, Heap.get?_push_size _ rfl, rfl⟩)))
structure ZT (z TI TO i1 i2 l1 l2 : Addr) (k : Nat) (h : Heap) : Prop where
  zz : IsZip h z TI TO .none
  ti : IsPair h TI (.ref i1) (.ref i2)
  to : ∃ a b, IsPair h TO a b
  one : h.IsTupleIter i1 l1 k
  two : h.IsTupleIter i2 l2 k
theorem IsTupleIter.as {h h' : Heap} {a t : Addr} {k : Nat} (x : h.IsTupleIter a t k) (f : ∀ o, h.get? a = some o → h'.get? a = some o) : h'.IsTupleIter a t k := let ⟨o, ho, r⟩ := x; ⟨o, f o ho, r⟩
variable {z TI TO i1 i2 l1 l2 : Addr} {k : Nat} {xs ys : Array Value}
theorem zipT_item {x y : Value} {Q : Option Value → Shared → Prop} (D : ZipApart z TI TO i1 i2 l1 l2) (Z : ZT z TI TO i1 i2 l1 l2 k s.heap) (t1 : s.heap.IsTuple l1 xs) (t2 : s.heap.IsTuple l2 ys) (hx : xs[k]? = some x) (hy : ys[k]? = some y)
    (q : ∀ g, IsZip g z TI TO (rawInt s.heap.objs.size) → IsPair g TO x y → g.IsTupleIter i1 l1 (k + 1) → g.IsTupleIter i2 l2 (k + 1) → IsPair g s.heap.objs.size x y →
      (∀ c o, c ∉ [z, TO, i1, i2] → s.heap.get? c = some o → g.get? c = some o) → Q (some (.ref s.heap.objs.size)) { s with heap := g }) : wpAny (model prog w) A (pyNext (.ref z)) Q E s := by
  obtain ⟨hz, hti, ⟨a, b, hto⟩, s1, s2⟩ := Z
  have T : s.TypeIs (.ref z) "zip" := ⟨_, hz, rfl⟩
  unfold pyNext
  refine wpAny_bind (wpAny_attempt (wpAny_callSpecial?_slot (name := Str.ofString "__next__") T F.slot_zip_next (wpAny_call_entry F.slot_zip_next T F.entry_zip_next ?_ (F.args_zip_next_1 _))))
  show wpAny _ _ (field (.ref z) 2 >>= _) _ _ _
  refine wpAny_bind (wpAny_field hz rfl (x := .bool false) rfl ?_)
  show wpAny _ _ (field (.ref z) 3 >>= _) _ _ _
  refine wpAny_bind (wpAny_field hz rfl (x := .ref TI) rfl (wpAny_bind (wpAny_seqItems hti rfl ?_)))
  show wpAny _ _ (Builtin.SmallTypes.ownedTupleIsFree (.ref z) >>= _) _ _ _
  refine wpAny_bind ?_
  unfold Builtin.SmallTypes.ownedTupleIsFree
  refine wpAny_bind (wpAny_field hz rfl (x := .none) rfl (wpAny_pure ?_))
  simp only [if_true]
  refine wpAny_bind (wpAny_rule (wpAny_bind (wpAny_field hz rfl (x := .ref TO) rfl (wpAny_bind (wpAny_setField_rec hz (by simp) fun g1 z1 b1 => ?_)))))
  replace z1 : IsZip g1 z TI TO .ellipsis := z1
  refine wpAny_bind ?_
  simp only [List.zipIdx_cons, List.zipIdx_nil, List.forIn_cons, List.forIn_nil]
  refine wpAny_bind (wpAny_bind (wpAny_onRaise ?_))
  show wpAny _ _ (Builtin.SmallTypes.nextOf (.ref i1) >>= _) _ _ _
  refine wpAny_bind (nextT (s1.extBut b1.extBut D.i1z) (t1.extBut b1.extBut D.l1z) hx fun g2 n2 b2 => wpAny_pure ?_)
  have o2 : IsPair g2 TO a b := b2.extBut _ _ D.TOi1 (b1.extBut _ _ D.TOz hto)
  refine wpAny_bind (wpAny_seqItems o2 rfl (wpAny_bind (wpAny_updateSeq_pair o2 fun g3 o3 b3 => ?_)))
  replace o3 : IsPair g3 TO x b := o3
  refine wpAny_bind (wpAny_letGo (wpAny_pure (wpAny_bind (wpAny_bind (wpAny_onRaise ?_)))))
  show wpAny _ _ (Builtin.SmallTypes.nextOf (.ref i2) >>= _) _ _ _
  refine wpAny_bind (nextT (((s2.extBut b1.extBut D.i2z).extBut b2.extBut D.i12.symm).extBut b3.extBut D.TOi2.symm) (((t2.extBut b1.extBut D.l2z).extBut b2.extBut D.l2i1).extBut b3.extBut D.l2TO) hy fun g4 n4 b4 => wpAny_pure ?_)
  have o4 : IsPair g4 TO x b := b4.extBut _ _ D.TOi2 o3
  refine wpAny_bind (wpAny_seqItems o4 rfl (wpAny_bind (wpAny_updateSeq_pair o4 fun g5 o5 b5 => ?_)))
  replace o5 : IsPair g5 TO x y := o5
  refine wpAny_bind (wpAny_letGo (wpAny_pure (wpAny_pure (wpAny_bind (wpAny_seqItems o5 rfl (wpAny_bind (wpAny_newTuple ?_)))))))
  have sz : g5.objs.size = s.heap.objs.size := by rw [b5.1, b4.1, b3.1, b2.1, b1.1]
  have z5 : IsZip g5 z TI TO .ellipsis := b5.extBut _ _ D.TOz.symm (b4.extBut _ _ D.i2z.symm (b3.extBut _ _ D.TOz.symm (b2.extBut _ _ D.i1z.symm z1)))
  have k5 : ∀ c o, c ∉ [z, TO, i1, i2] → s.heap.get? c = some o → g5.get? c = some o := fun c o hc e => by
    simp only [List.mem_cons, not_or] at hc
    exact b5.extBut _ _ hc.2.1 (b4.extBut _ _ hc.2.2.2.1 (b3.extBut _ _ hc.2.1 (b2.extBut _ _ hc.2.2.1 (b1.extBut _ _ hc.1 e))))
  have n5 : g5.IsTupleIter i1 l1 (k + 1) := ((n2.extBut b3.extBut D.TOi1.symm).extBut b4.extBut D.i12).extBut b5.extBut D.TOi1.symm
  have m5 : g5.IsTupleIter i2 l2 (k + 1) := n4.extBut b5.extBut D.TOi2.symm
  have zl : z < g5.objs.size := Heap.lt_size z5
  show wpAny _ _ (Builtin.SmallTypes.ownedTupleHandOut (.ref z) (.ref g5.objs.size) >>= _) _ _ _
  refine wpAny_bind ?_
  unfold Builtin.SmallTypes.ownedTupleHandOut
  have z6 : IsZip (g5.push { cls := .type "tuple", data := .seq #[x, y] }) z TI TO .ellipsis := Heap.get?_push_of_some _ z5
  refine wpAny_bind (wpAny_setField_rec z6 (by simp) fun g7 z7 b7 => ?_)
  replace z7 : IsZip g7 z TI TO (rawInt g5.objs.size) := z7
  refine wpAny_setField_rec z7 (by simp) fun g8 z8 b8 => ?_
  replace z8 : IsZip g8 z TI TO (rawInt g5.objs.size) := z8
  have up : ∀ c o, c ≠ z → g5.get? c = some o → g8.get? c = some o := fun c o cz e => b8.extBut _ _ cz (b7.extBut _ _ cz (Heap.get?_push_of_some _ e))
  have nu : IsPair g8 g5.objs.size x y := b8.extBut _ _ (Nat.ne_of_gt zl) (b7.extBut _ _ (Nat.ne_of_gt zl) (Heap.get?_push_size _ rfl))
  rw [sz] at z8 nu
  refine wpAny_pure ⟨_, rfl, wpAny_pure ?_⟩
  show Q (some (.ref g5.objs.size)) _
  rw [sz]
  exact q g8 z8 (up _ _ D.TOz o5) (IsTupleIter.as n5 fun o e => up _ o D.i1z e) (IsTupleIter.as m5 fun o e => up _ o D.i2z e) nu fun c o hc e => up c o (fun h => hc (by simp [h])) (k5 c o hc e)
theorem zipT_end {Q : Option Value → Shared → Prop} (hh : A.handled = none) (D : ZipApart z TI TO i1 i2 l1 l2) (Z : ZT z TI TO i1 i2 l1 l2 k s.heap) (t1 : s.heap.IsTuple l1 xs) (t2 : s.heap.IsTuple l2 ys) (he : xs[k]? = none ∨ ys[k]? = none)
    (q : ∀ g, (∀ c o, c ∉ [z, TO, i1, i2] → s.heap.get? c = some o → g.get? c = some o) → Q none { s with heap := g }) : wpAny (model prog w) A (pyNext (.ref z)) Q E s := by
  obtain ⟨hz, hti, ⟨a, b, hto⟩, s1, s2⟩ := Z
  have T : s.TypeIs (.ref z) "zip" := ⟨_, hz, rfl⟩
  unfold pyNext
  refine wpAny_bind (wpAny_attempt (wpAny_callSpecial?_slot (name := Str.ofString "__next__") T F.slot_zip_next (wpAny_call_entry F.slot_zip_next T F.entry_zip_next ?_ (F.args_zip_next_1 _))))
  have fin : ∀ g (e : Addr), (∀ c o, c ∉ [z, TO, i1, i2] → s.heap.get? c = some o → g.get? c = some o) → (∃ o, g.get? e = some o ∧ o.cls = .type "StopIteration") →
      wpAny (model prog w) A (do if (← isInstance (.ref e) (.type "StopIteration")) then pure none else throw (.ref e)) Q E { s with heap := g } := fun g e hk ⟨o, ho, hc⟩ =>
    wpAny_bind (wpAny_isInstance (T := "StopIteration") (b := true) ⟨o, ho, hc⟩ isSubtype_stop (wpAny_pure (q _ hk)))
  show wpAny _ _ (field (.ref z) 2 >>= _) _ _ _
  refine wpAny_bind (wpAny_field hz rfl (x := .bool false) rfl ?_)
  show wpAny _ _ (field (.ref z) 3 >>= _) _ _ _
  refine wpAny_bind (wpAny_field hz rfl (x := .ref TI) rfl (wpAny_bind (wpAny_seqItems hti rfl ?_)))
  show wpAny _ _ (Builtin.SmallTypes.ownedTupleIsFree (.ref z) >>= _) _ _ _
  refine wpAny_bind ?_
  unfold Builtin.SmallTypes.ownedTupleIsFree
  refine wpAny_bind (wpAny_field hz rfl (x := .none) rfl (wpAny_pure ?_))
  simp only [if_true]
  refine wpAny_bind (wpAny_rule (wpAny_bind (wpAny_field hz rfl (x := .ref TO) rfl (wpAny_bind (wpAny_setField_rec hz (by simp) fun g1 z1 b1 => ?_)))))
  replace z1 : IsZip g1 z TI TO .ellipsis := z1
  refine wpAny_bind ?_
  simp only [List.zipIdx_cons, List.zipIdx_nil, List.forIn_cons, List.forIn_nil]
  refine wpAny_bind (wpAny_bind (wpAny_onRaise ?_))
  show wpAny _ _ (Builtin.SmallTypes.nextOf (.ref i1) >>= _) _ _ _
  cases hx : xs[k]? with
  | none =>
    refine wpAny_bind (nextT_end hh (s1.extBut b1.extBut D.i1z) (t1.extBut b1.extBut D.l1z) hx fun g2 e b2 ⟨oe, he, ce⟩ => ?_)
    have z2 : IsZip g2 z TI TO .ellipsis := b2 _ _ D.i1z.symm z1
    have ez : e ≠ z := fun h => by subst h; rw [z2] at he; cases he; simp at ce
    refine wpAny_setField_rec z2 (by simp) fun g3 _ b3 => fin g3 e (fun c o hc h => ?_) ⟨oe, b3.extBut _ _ ez he, ce⟩
    simp only [List.mem_cons, not_or] at hc
    exact b3.extBut _ _ hc.1 (b2 _ _ hc.2.2.1 (b1.extBut _ _ hc.1 h))
  | some x =>
    have hy : ys[k]? = none := he.resolve_left (by rw [hx]; simp)
    refine wpAny_bind (nextT (s1.extBut b1.extBut D.i1z) (t1.extBut b1.extBut D.l1z) hx fun g2 n2 b2 => wpAny_pure ?_)
    have o2 : IsPair g2 TO a b := b2.extBut _ _ D.TOi1 (b1.extBut _ _ D.TOz hto)
    refine wpAny_bind (wpAny_seqItems o2 rfl (wpAny_bind (wpAny_updateSeq_pair o2 fun g3 o3 b3 => ?_)))
    refine wpAny_bind (wpAny_letGo (wpAny_pure (wpAny_bind (wpAny_bind (wpAny_onRaise ?_)))))
    show wpAny _ _ (Builtin.SmallTypes.nextOf (.ref i2) >>= _) _ _ _
    refine wpAny_bind (nextT_end hh (((s2.extBut b1.extBut D.i2z).extBut b2.extBut D.i12.symm).extBut b3.extBut D.TOi2.symm) (((t2.extBut b1.extBut D.l2z).extBut b2.extBut D.l2i1).extBut b3.extBut D.l2TO) hy fun g4 e b4 ⟨oe, he, ce⟩ => ?_)
    have z4 : IsZip g4 z TI TO .ellipsis := b4 _ _ D.i2z.symm (b3.extBut _ _ D.TOz.symm (b2.extBut _ _ D.i1z.symm z1))
    have ez : e ≠ z := fun h => by subst h; rw [z4] at he; cases he; simp at ce
    refine wpAny_setField_rec z4 (by simp) fun g5 _ b5 => fin g5 e (fun c o hc h => ?_) ⟨oe, b5.extBut _ _ ez he, ce⟩
    simp only [List.mem_cons, not_or] at hc
    exact b5.extBut _ _ hc.1 (b4 _ _ hc.2.2.2.1 (b3.extBut _ _ hc.2.1 (b2.extBut _ _ hc.2.2.1 (b1.extBut _ _ hc.1 h))))
theorem meets_zipT (a b : Addr) (xs ys : Array Value) :
    Meets (Builtin.«zip.__new__» ⟨[.type "zip", .ref a, .ref b], []⟩) (fun _ R s => s.heap.IsTuple a xs ∧ s.heap.IsTuple b ys ∧
      ∀ g, (∀ c o, s.heap.get? c = some o → g.get? c = some o) → ZT (s.heap.objs.size + 4) (s.heap.objs.size + 2) (s.heap.objs.size + 3) s.heap.objs.size (s.heap.objs.size + 1) a b 0 g → R (.ok (.ret (.ref (s.heap.objs.size + 4)))) { s with heap := g }) :=
  .of_wp fun prog w A R s h => by
    obtain ⟨hp, gs, d, tk, os⟩ := s; obtain ⟨t1, t2, h⟩ := h
    have hsub := sub_zip
    have T1 : Heap.IsTuple (Shared.heap ⟨hp, gs, d, tk, os⟩) a xs := t1
    have T2 : Heap.IsTuple (Shared.heap ⟨hp.push { cls := .type "tuple_iterator", data := .fields #[.ref a, .int 0 0] }, gs, d, tk, os⟩) b ys := Heap.IsTuple.push t2 _
    wp_walk using wpAny_pyIter_tuple T1, wpAny_pyIter_tuple T2
    have e1 := fun o => Heap.size_push hp (o := o)
    refine ⟨_, rfl, ?_⟩
    simp only [Heap.size_push] at h ⊢
    refine h _ (fun c o e => Heap.get?_push_of_some _ (Heap.get?_push_of_some _ (Heap.get?_push_of_some _ (Heap.get?_push_of_some _ (Heap.get?_push_of_some _ e))))) ⟨?_, ?_, ?_, ?_, ?_⟩
    · have e := Heap.get?_push_size (((((hp.push { cls := .type "tuple_iterator", data := .fields #[.ref a, .int 0 0] }).push { cls := .type "tuple_iterator", data := .fields #[.ref b, .int 0 0] }).push { cls := .type "tuple", data := .seq #[.ref hp.objs.size, .ref (hp.objs.size + 1)] })).push { cls := .type "tuple", data := .seq #[.none, .none] }) (o := { cls := .type "zip", data := .fields #[.none, .bool false, .bool false, .ref (hp.objs.size + 2), .ref (hp.objs.size + 3)] }) rfl
      simp only [Heap.size_push] at e
      exact e
    · have e := Heap.get?_push_size ((hp.push { cls := .type "tuple_iterator", data := .fields #[.ref a, .int 0 0] }).push { cls := .type "tuple_iterator", data := .fields #[.ref b, .int 0 0] }) (o := { cls := .type "tuple", data := .seq #[.ref hp.objs.size, .ref (hp.objs.size + 1)] }) rfl
      simp only [Heap.size_push] at e
      exact Heap.get?_push_of_some _ (Heap.get?_push_of_some _ e)
    · have e := Heap.get?_push_size ((((hp.push { cls := .type "tuple_iterator", data := .fields #[.ref a, .int 0 0] }).push { cls := .type "tuple_iterator", data := .fields #[.ref b, .int 0 0] }).push { cls := .type "tuple", data := .seq #[.ref hp.objs.size, .ref (hp.objs.size + 1)] })) (o := { cls := .type "tuple", data := .seq #[.none, .none] }) rfl
      simp only [Heap.size_push] at e
      exact ⟨_, _, Heap.get?_push_of_some _ e⟩
    · have e := Heap.get?_push_size hp (o := { cls := .type "tuple_iterator", data := .fields #[.ref a, .int 0 0] }) rfl
      exact ⟨_, Heap.get?_push_of_some _ (Heap.get?_push_of_some _ (Heap.get?_push_of_some _ (Heap.get?_push_of_some _ e))), rfl, rfl⟩
    · have e := Heap.get?_push_size (hp.push { cls := .type "tuple_iterator", data := .fields #[.ref a, .int 0 0] }) (o := { cls := .type "tuple_iterator", data := .fields #[.ref b, .int 0 0] }) rfl
      simp only [Heap.size_push] at e
      exact ⟨_, Heap.get?_push_of_some _ (Heap.get?_push_of_some _ (Heap.get?_push_of_some _ e)), rfl, rfl⟩
theorem call_zipT {a b : Addr} {xs ys : Array Value} {Q : Value → Shared → Prop} (t1 : s.heap.IsTuple a xs) (t2 : s.heap.IsTuple b ys)
    (q : ∀ g, (∀ c o, s.heap.get? c = some o → g.get? c = some o) → ZT (s.heap.objs.size + 4) (s.heap.objs.size + 2) (s.heap.objs.size + 3) s.heap.objs.size (s.heap.objs.size + 1) a b 0 g → Q (.ref (s.heap.objs.size + 4)) { s with heap := g }) :
    wpAny (model prog w) A (call (.type "zip") [.ref a, .ref b]) Q E s :=
  callType_new F.called_zip (by decide) (F.typeCall_zip_2 _ _) (F.newCall_zip_2 _ _) (fun obj => F.args_object_init_3 obj _ _) F.entry_zip_new (meets_zipT a b xs ys) ⟨t1, t2, fun g k Z => ⟨⟨_, Z.zz, rfl⟩, q g k Z⟩⟩
end
section
variable {X : Cx} {pins : List (Addr × Obj)} {σ : St} {H : Hp} {s : Shared} {h' : Heap}
theorem Inv.turnedL {t' : Nat} {fp : List Addr} (I : Inv X pins σ H s) (hf : ∀ b ∈ fp, FpOk X pins H b) (k : ∀ b o, b ∉ fp → s.heap.get? b = some o → h'.get? b = some o) : Inv X pins σ H { s with heap := h', toks := t' } := by
  have nit : ∀ b u, H b = some u → b ∉ fp := fun b u e z => by rw [(hf b z).1] at e; cases e
  refine I.step (g' := s.gens) (d' := s.drawn) (ch := fp) (fun b hb => ⟨(hf b hb).2.2.2.1, (hf b hb).2.1, (hf b hb).2.2.2.2.1, (hf b hb).2.2.2.2.2⟩) (fun b o _ _ hc e _ => k b o hc e) (fun b o _ _ hc e _ => ⟨o.slots, k b o hc e⟩) (fun _ _ _ _ n => n)
    (fun b o hc e => ⟨o, k b o hc e⟩) (fun _ _ e => e) (fun _ _ _ e => e) (fun b ps e => ⟨#[], by rw [e]; simp⟩) (fun m ⟨o, es, ep, ho, r⟩ => ⟨o, es, ep, k _ o (fun z => (hf _ z).2.1 rfl) ho, r⟩) (fun b u e => ?_) I.bare
  refine (I.hok b u e).stay (fun c v hc q => k c v ?_ q) (fun _ q => q) fun _ _ q => q
  rcases hc with z | z
  · rw [z]; exact nit b u e
  · exact nit c _ z
theorem FpOk.apart {a b : Addr} {xs : List V} (I : Inv X pins σ H s) (f : FpOk X pins H b) (h : SqT X.K H a xs) : a ≠ b := by
  rintro rfl
  rcases h with (h | ⟨o, h⟩) | ⟨o, its, n, hk, hc, hs, hz, r⟩
  · rw [f.1] at h; cases h
  · rw [f.1] at h; cases h
  · have hb : X.base.get? a = some o := I.ok.mod.kin a o hk
    rcases f.2.2.2.1 with z | z
    · exact I.ok.noex a o hb z
    · exact absurd (Nat.lt_of_lt_of_le (Heap.lt_size hb) (Nat.le_trans I.ok.bsz z)) (Nat.lt_irrefl _)
end
noncomputable def Itz (K : PySem.W.Frag) (a b : Addr) : It :=
  ⟨fun i H => ∃ xs ys x y, SqT K H a xs ∧ SqT K H b ys ∧ xs[i]? = some x ∧ ys[i]? = some y,
   fun i H v H' => ∃ p x y, H p = none ∧ v = .ref p ∧ H' = upd H p (.tup [x, y]) ∧ (∀ xs, SqT K H a xs → xs[i]? = some x) ∧ (∀ ys, SqT K H b ys → ys[i]? = some y),
   fun i H => ∃ xs ys, SqT K H a xs ∧ SqT K H b ys ∧ (xs.length ≤ i ∨ ys.length ≤ i)⟩
structure Five (z TI TO i1 i2 : Addr) : Prop where
  nd : [z, TI, TO, i1, i2].Nodup
theorem Five.of {z TI TO i1 i2 l1 l2 : Addr} (F : Five z TI TO i1 i2) (h1 : ∀ b ∈ [z, TI, TO, i1, i2], l1 ≠ b) (h2 : ∀ b ∈ [z, TI, TO, i1, i2], l2 ≠ b) : ZipApart z TI TO i1 i2 l1 l2 := by
  have nd := F.nd
  simp only [List.nodup_cons, List.mem_cons, not_or, List.not_mem_nil] at nd
  obtain ⟨⟨a1, a2, a3, a4, _⟩, ⟨b1, b2, b3, _⟩, ⟨c1, c2, _⟩, ⟨d1, _⟩, _⟩ := nd
  exact ⟨Ne.symm a1, Ne.symm a2, Ne.symm a3, Ne.symm a4, b1, b2, b3, c1, c2, d1, h1 _ (by simp), h1 _ (by simp), h1 _ (by simp), h1 _ (by simp), h2 _ (by simp), h2 _ (by simp), h2 _ (by simp), h2 _ (by simp)⟩
theorem turn_zipT {P : Program} {w : World} {K : PySem.W.Frag} {es : List Expr} {x1} {pos : Pos} (l1 l2 : Addr) {z TI TO i1 i2 : Addr} (F : Five z TI TO i1 i2) : Turn P w K (.Tuple es x1 pos) (Itz K l1 l2) [z, TI, TO, i1, i2] z (fun i h => ZT z TI TO i1 i2 l1 l2 i h) where
  mem := by simp
  obj := fun i h Z b hb => by
    simp only [List.mem_cons, List.not_mem_nil, or_false] at hb
    obtain ⟨hz, hti, ⟨a, c, hto⟩, ⟨o1, g1, c1, d1⟩, ⟨o2, g2, c2, d2⟩⟩ := Z
    rcases hb with rfl | rfl | rfl | rfl | rfl
    · exact ⟨_, hz, fun v q => by cases (show Data.fields _ = Data.cell v from q)⟩
    · exact ⟨_, hti, fun v q => by cases (show Data.seq _ _ = Data.cell v from q)⟩
    · exact ⟨_, hto, fun v q => by cases (show Data.seq _ _ = Data.cell v from q)⟩
    · exact ⟨_, g1, fun v q => by rw [d1] at q; cases q⟩
    · exact ⟨_, g2, fun v q => by rw [d2] at q; cases q⟩
  keep := fun i h h' Z k => by
    obtain ⟨hz, hti, ⟨a, c, hto⟩, s1, s2⟩ := Z
    exact ⟨k z (by simp) _ hz, k TI (by simp) _ hti, ⟨a, c, k TO (by simp) _ hto⟩, IsTupleIter.as s1 fun o e => k i1 (by simp) o e, IsTupleIter.as s2 fun o e => k i2 (by simp) o e⟩
  item := by
    intro X hP hw hK hc i pins s σ H E I hf Z hg
    subst hP hw hK
    obtain ⟨xs, ys, x, y, q1, q2, hx, hy⟩ := hg
    obtain ⟨its1, r1, p1, _⟩ := I.tuple q1
    obtain ⟨its2, r2, p2, _⟩ := I.tuple q2
    obtain ⟨u1, hu1, ru1⟩ := r1.get hx
    obtain ⟨u2, hu2, ru2⟩ := r2.get hy
    have D := F.of (fun b hb => FpOk.apart I (hf b hb) q1) (fun b hb => FpOk.apart I (hf b hb) q2)
    refine zipT_item D Z (show s.heap.IsTuple l1 its1.toArray from p1) (show s.heap.IsTuple l2 its2.toArray from p2) (x := u1) (y := u2) (by simpa using hu1) (by simpa using hu2) fun g z1 to1 n1 n2 nu kk => ⟨_, rfl, ?_⟩
    refine wpAny_letOwnedTupleGo_zip z1 fun g2 z2 sb => ?_
    have fr : H s.heap.objs.size = none := I.hok.fresh (Nat.le_refl _)
    have fp : ∀ b ∈ [z, TI, TO, i1, i2], FpOk X pins (upd H s.heap.objs.size (.tup [x, y])) b := fun b hb => by
      have lt : b ≠ s.heap.objs.size := by
        simp only [List.mem_cons, List.not_mem_nil, or_false] at hb
        obtain ⟨hz, hti, ⟨a, c, hto⟩, ⟨o1, g1, _⟩, ⟨o2, g2, _⟩⟩ := Z
        rcases hb with rfl | rfl | rfl | rfl | rfl
        · exact Nat.ne_of_lt (Heap.lt_size hz)
        · exact Nat.ne_of_lt (Heap.lt_size hti)
        · exact Nat.ne_of_lt (Heap.lt_size hto)
        · exact Nat.ne_of_lt (Heap.lt_size g1)
        · exact Nat.ne_of_lt (Heap.lt_size g2)
      exact ⟨by rw [upd_ne lt]; exact (hf b hb).1, (hf b hb).2⟩
    have I1 : Inv X pins σ (upd H s.heap.objs.size (.tup [x, y])) { s with heap := s.heap.push { cls := .type "tuple", data := .seq #[u1, u2] } } := I.laid (t' := s.toks) (fun b u e => Heap.get?_push_of_some _ e) (Nat.le_refl _) ⟨by simp [sizeLine], [u1, u2], .cons ru1 (.cons ru2 .nil), ⟨_, Heap.get?_push_size _ rfl, rfl, _, rfl⟩⟩
    have up : ∀ c o, c ≠ z → g.get? c = some o → g2.get? c = some o := fun c o cz e => sb.extBut _ _ cz e
    have zs : z ≠ s.heap.objs.size := Nat.ne_of_lt (Heap.lt_size Z.zz)
    have I2 : Inv X pins σ (upd H s.heap.objs.size (.tup [x, y])) { s with heap := g2 } := by
      refine Inv.turnedL (s := { s with heap := s.heap.push { cls := .type "tuple", data := .seq #[u1, u2] } }) (h' := g2) (t' := s.toks) I1 fp fun b o hb e => ?_
      have bz : b ≠ z := fun h => hb (by simp [h])
      rcases Heap.get?_push_cases e with ⟨e1, e2⟩ | e1
      · rw [e1, e2]
        exact up _ _ (Ne.symm zs) nu
      · exact up _ _ bz (kk b o (fun h => hb (by simp only [List.mem_cons, List.not_mem_nil, or_false] at h ⊢; rcases h with h | h | h | h <;> simp [h])) e1)
    exact ⟨.ref s.heap.objs.size, _, I2, rfl, ⟨_, x, y, fr, rfl, rfl, fun xs' h => by rw [I.tuple_inj h q1]; exact hx, fun ys' h => by rw [I.tuple_inj h q2]; exact hy⟩, ⟨z2, up _ _ D.TIz (kk _ _ (by simp [D.TIz, D.TITO, D.TIi1, D.TIi2]) Z.ti), ⟨_, _, up _ _ D.TOz to1⟩, IsTupleIter.as n1 fun o e => up _ o D.i1z e, IsTupleIter.as n2 fun o e => up _ o D.i2z e⟩, fun b hb => (fp b hb).1⟩
  done := by
    intro X hP hw hK hc i pins s σ H E I hf Z hg
    subst hP hw hK
    obtain ⟨xs, ys, q1, q2, he⟩ := hg
    obtain ⟨its1, r1, p1, _⟩ := I.tuple q1
    obtain ⟨its2, r2, p2, _⟩ := I.tuple q2
    have D := F.of (fun b hb => FpOk.apart I (hf b hb) q1) (fun b hb => FpOk.apart I (hf b hb) q2)
    have e1 := r1.length; have e2 := r2.length
    refine zipT_end (I.ok.hd hc) D Z (show s.heap.IsTuple l1 its1.toArray from p1) (show s.heap.IsTuple l2 its2.toArray from p2) ?_ fun g kk => ⟨rfl, Inv.turnedL (t' := s.toks) I hf fun b o hb e => kk b o (fun h => hb (by simp only [List.mem_cons, List.not_mem_nil, or_false] at h ⊢; rcases h with h | h | h | h <;> simp [h])) e⟩
    rcases he with h | h
    · exact .inl (by simp; omega)
    · exact .inr (by simp; omega)
  self := fun _ _ _ _ _ Z h => wpAny_pyIter_zip Z.zz h
section
variable {X : Cx}
noncomputable def iZipT (K : PySem.W.Frag) (ta : TA) : TI := fun σ H R => ta σ H fun vs H1 => ∃ a b, vs = [.ref a, .ref b] ∧ (∃ xs, SqT K H1 a xs) ∧ (∃ ys, SqT K H1 b ys) ∧ R (Itz K a b) H1
theorem pi_zipT {es : List Expr} {x1} {tp : Pos} {a b : Expr} {ta : TA} {p pos : Pos} (hg : Gl X "zip") (hm : X.mg "zip" = none) (ha : PA X [a, b] ta) (hs : starEach [a, b] X.env = [(false, eval a X.env), (false, eval b X.env)] := by rfl) (hs2 : starEach [b] X.env = [(false, eval b X.env)] := by rfl) :
    PI X (.Tuple es x1 tp) (.Call (.Name "zip" p) [a, b] [] pos) (iZipT X.K ta) := by
  intro pins s σ H R I h
  refine Call_ (ld_blt I hg hm boot_zip (PyProof.Rows.callWith_type1 (thn (ha pos pins s σ H _ I h) fun us s1 ⟨vs, H1, I1, r1, q1⟩ => ?_) (by rw [hs, hs2]) (by rw [hs2]; rfl)))
  obtain ⟨l1, l2, e, ⟨xs, q1⟩, ⟨ys, q2⟩, q⟩ := q1
  subst e
  cases r1 with
  | cons r rr =>
    cases rr with
    | cons r' rr =>
      cases rr
      cases r
      cases r'
      obtain ⟨its1, _, p1, _⟩ := I1.tuple q1
      obtain ⟨its2, _, p2, _⟩ := I1.tuple q2
      refine call_zipT (show s1.heap.IsTuple l1 its1.toArray from p1) (show s1.heap.IsTuple l2 its2.toArray from p2) fun g k Z => wpAny_pyIter_zip Z.zz ?_
      refine ⟨_, _, _, _, H1, rfl, I1.kept (t' := s1.toks) k, turn_zipT l1 l2 ⟨by simp⟩, Z, fun b hb => ?_, q⟩
      have hb' : s1.heap.objs.size ≤ b := by
        simp only [List.mem_cons, List.not_mem_nil, or_false] at hb
        rcases hb with rfl | rfl | rfl | rfl | rfl <;> first | exact Nat.le_add_right _ _ | exact Nat.le_refl _
      exact I1.fpOk hb' (I1.hok.fresh hb')
end
end L2

namespace LwMx
open PySem PySem.Spec PyProof.Rows L2 Lw
section
variable {prog : Program} {w : World} {A : Around} {R : Result → Shared → Prop} {J : Addr} {fp wr : List Addr} {n : Nat} {Pv : Nat → Value → Prop} {St : Nat → Heap → Prop}
theorem mxname : (toString "max" ++ toString ".loop" : String) = "max.loop" := by decide
theorem mx_turns (Wk : Walks prog w A.in1 J fp wr n Pv St) (gt : Nat → Nat → Bool) (cmp : CmpOf prog w A.in1 .Gt Pv gt) (B : Addr) (out : B ∉ fp) (kws : List (Str × Value)) :
    ∀ (k j : Nat) (s : Shared) (x : Value) (c : Nat), n - (j + 1) = k → j + 1 ≤ n → St (j + 1) s.heap → Pv (argBest gt j) x →
    s.heap.get? B = some { cls := .type "list", dict := none, data := .seq #[x, x] c, slots := #[] } →
    (∀ y h' tk, Pv (argBest gt (n - 1)) y → (∀ b o, b ∉ wr → b ≠ B → s.heap.get? b = some o → h'.get? b = some o) → R (.ok (.ret y)) { s with heap := h', toks := tk }) →
    codeAny (model prog w) A (.builtin "max.loop" ⟨[.ref J, .none, .ref B], kws⟩) R s := by
  have outw : B ∉ wr := fun z => out (Wk.sub _ z)
  intro k
  induction k with
  | zero =>
    intro j s x c hk hj st px hB hR
    have jn : j + 1 = n := by omega
    refine codeAny_builtin PySem.F.entry_max_loop ?_
    rw [Around.under_plainId PySem.F.plain_max_loop _]
    show wpAny _ A.in1 (seqItems? (.ref B) >>= _) _ _ s
    refine wpAny_bind (wpAny_seqItems hB rfl ?_)
    show wpAny _ A.in1 (tryCatch (pyNext (.ref J)) _ >>= _) _ _ s
    refine wpAny_bind (wpAny_tryCatch (Wk.done s _ _ (jn ▸ st) fun h1 t1 k1 => ?_))
    have hB1 := k1 B _ outw hB
    show wpAny _ A.in1 (updateSeq B (fun _ => #[]) >>= _) _ _ _
    refine wpAny_bind (wpAny_updateSeq hB1 rfl (wpAny_bind (wpAny_letGo (wpAny_pure ?_))))
    exact hR x _ t1 (by rw [← jn]; exact px) fun b o n1 n2 e => (Heap.get?_update_other _ _ (Ne.symm n2)).trans (k1 b o n1 e)
  | succ k ih =>
    intro j s x c hk hj st px hB hR
    have jn : j + 1 < n := by omega
    refine codeAny_builtin PySem.F.entry_max_loop ?_
    rw [Around.under_plainId PySem.F.plain_max_loop _]
    show wpAny _ A.in1 (seqItems? (.ref B) >>= _) _ _ s
    refine wpAny_bind (wpAny_seqItems hB rfl ?_)
    show wpAny _ A.in1 (tryCatch (pyNext (.ref J)) _ >>= _) _ _ s
    refine wpAny_bind (wpAny_tryCatch (Wk.item (j + 1) s _ _ jn st fun y h1 t1 py st1 k1 => ?_))
    have hB1 := k1 B _ outw hB
    show wpAny _ A.in1 (tryCatch (holding [y, y] (richCompare .Gt y x >>= _)) _ >>= _) _ _ _
    refine wpAny_bind (wpAny_tryCatch (wpAny_holding (wpAny_bind (cmp (j + 1) (argBest gt j) y x _ _ _ py px ?_))))
    refine wpAny_bind (wpAny_holding (wpAny_truthy_bool (wpAny_bind (wpAny_letGo (wpAny_pure ?_)))))
    cases hb : gt (j + 1) (argBest gt j) with
    | true =>
      simp only [if_true]
      refine wpAny_bind (wpAny_updateSeq hB1 rfl (wpAny_bind (wpAny_letGo ?_)))
      rw [mxname]
      refine wpAny_pure ⟨plainId_quiet PySem.F.plain_max_loop _, ih (j + 1) _ y _ (by omega) jn (Wk.frame _ _ _ st1 fun b hb' o e => ?_) (by simp only [argBest, hb, if_true]; exact py) (Heap.get?_update_self _ hB1 rfl) fun y' h2 t2 p2 k2 => ?_⟩
      · exact (Heap.get?_update_other _ _ (fun z : B = b => out (by rw [z]; exact hb'))).trans e
      · exact hR y' h2 t2 p2 fun b o n1 n2 e => k2 b o n1 n2 ((Heap.get?_update_other _ _ (Ne.symm n2)).trans (k1 b o n1 e))
    | false =>
      simp only [Bool.false_eq_true, if_false]
      refine wpAny_bind (wpAny_letGo ?_)
      rw [mxname]
      refine wpAny_pure ⟨plainId_quiet PySem.F.plain_max_loop _, ih (j + 1) _ x c (by omega) jn st1 (by simp only [argBest, hb, Bool.false_eq_true, if_false]; exact px) hB1 fun y' h2 t2 p2 k2 => ?_⟩
      exact hR y' h2 t2 p2 fun b o n1 n2 e => k2 b o n1 n2 (k1 b o n1 e)
theorem mx_start (Wk : Walks prog w A.in1 J fp wr n Pv St) (gt : Nat → Nat → Bool) (cmp : CmpOf prog w A.in1 .Gt Pv gt) (B : Addr) (out : B ∉ fp) (d : Value) {s : Shared} {c : Nat} (st : St 0 s.heap)
    (hB : s.heap.get? B = some { cls := .type "list", dict := none, data := .seq #[] c, slots := #[] })
    (h0 : n = 0 → ∀ h' tk, (∀ b o, b ∉ wr → b ≠ B → s.heap.get? b = some o → h'.get? b = some o) → R (.ok (.ret d)) { s with heap := h', toks := tk })
    (hR : 0 < n → ∀ y h' tk, Pv (argBest gt (n - 1)) y → (∀ b o, b ∉ wr → b ≠ B → s.heap.get? b = some o → h'.get? b = some o) → R (.ok (.ret y)) { s with heap := h', toks := tk }) :
    codeAny (model prog w) A (.builtin "max.loop" ⟨[.ref J, .none, .ref B], [("default", d)]⟩) R s := by
  have outw : B ∉ wr := fun z => out (Wk.sub _ z)
  refine codeAny_builtin PySem.F.entry_max_loop ?_
  rw [Around.under_plainId PySem.F.plain_max_loop _]
  show wpAny _ A.in1 (seqItems? (.ref B) >>= _) _ _ s
  refine wpAny_bind (wpAny_seqItems hB rfl ?_)
  show wpAny _ A.in1 (tryCatch (pyNext (.ref J)) _ >>= _) _ _ s
  by_cases hn : 0 < n
  · refine wpAny_bind (wpAny_tryCatch (Wk.item 0 s _ _ hn st fun y h1 t1 py st1 k1 => ?_))
    have hB1 := k1 B _ outw hB
    show wpAny _ A.in1 (updateSeq B (fun _ => #[y, y]) >>= _) _ _ _
    refine wpAny_bind (wpAny_updateSeq hB1 rfl ?_)
    rw [mxname]
    refine wpAny_pure ⟨plainId_quiet PySem.F.plain_max_loop _, mx_turns Wk gt cmp B out _ _ 0 _ y _ rfl hn (Wk.frame _ _ _ st1 fun b hb' o e => ?_) py (Heap.get?_update_self _ hB1 rfl) fun y' h2 t2 p2 k2 => ?_⟩
    · exact (Heap.get?_update_other _ _ (fun z : B = b => out (by rw [z]; exact hb'))).trans e
    · exact hR hn y' h2 t2 p2 fun b o n1 n2 e => k2 b o n1 n2 ((Heap.get?_update_other _ _ (Ne.symm n2)).trans (k1 b o n1 e))
  · have z : n = 0 := by omega
    subst z
    refine wpAny_bind (wpAny_tryCatch (Wk.done s _ _ st fun h1 t1 k1 => ?_))
    refine wpAny_bind (wpAny_rule (wpAny_pure ?_))
    exact h0 rfl _ t1 fun b o n1 n2 e => k1 b o n1 e
end
theorem mx_args (a v : Value) : argsOk "max" ⟨[a], [(Str.ofString "default", v)]⟩ := by unfold argsOk; kernel_rfl
section
variable {prog : Program} {w : World} {A : Around} {E : Value → Shared → Prop} {s : Shared}
theorem mx_call {x d : Value} {Q : Value → Shared → Prop}
    (h : wpAny (model prog w) A.in1 (pyIter x) (fun it s₂ => ∃ J fp wr n Pv St gt, it = .ref J ∧ Walks prog w A.in1 J fp wr n Pv St ∧ St 0 s₂.heap ∧ (∀ b ∈ fp, b < s₂.heap.objs.size) ∧ CmpOf prog w A.in1 .Gt Pv gt ∧
      (n = 0 → ∀ h' tk, (∀ b o, b ∉ wr → s₂.heap.get? b = some o → h'.get? b = some o) → Q d { s₂ with heap := h', toks := tk }) ∧
      (0 < n → ∀ v h' tk, Pv (argBest gt (n - 1)) v → (∀ b o, b ∉ wr → s₂.heap.get? b = some o → h'.get? b = some o) → Q v { s₂ with heap := h', toks := tk })) E s) :
    wpAny (model prog w) A (call (.builtin "max") [x] [(Str.ofString "default", d)]) Q E s := by
  refine kmb_tree PySem.F.kind_max PySem.F.plain_max PySem.F.entry_max (mx_args _ _) ?_
  show wpAny _ A.in1 (Builtin.Builtins.bindParams "max" ["key", "default"] 0 ⟨[], [(Str.ofString "default", d)]⟩ >>= _) _ _ s
  refine wpAny_bind (wpAny_of_eq (show Builtin.Builtins.bindParams "max" ["key", "default"] 0 ⟨[], [(Str.ofString "default", d)]⟩ = pure [none, some d] from rfl) ?_)
  refine wpAny_bind (wpAny_pure (wpAny_bind (wpAny_mono h (fun it s₂ h₂ => ?_) fun _ _ e => e)))
  obtain ⟨J, fp, wr, n, Pv, St, gt, rfl, Wk, st, lt, cmp, q0, q1⟩ := h₂
  refine wpAny_bind (wpAny_newObj_type ?_)
  have out : s₂.heap.objs.size ∉ fp := fun z => Nat.lt_irrefl _ (lt _ z)
  rw [mxname]
  have up : ∀ (h' : Heap), (∀ b o, b ∉ wr → b ≠ s₂.heap.objs.size → (s₂.heap.push { cls := .type "list", data := .seq ([] : List Value).toArray }).get? b = some o → h'.get? b = some o) → ∀ b o, b ∉ wr → s₂.heap.get? b = some o → h'.get? b = some o := fun h' k b o n1 e =>
    k b o n1 (Nat.ne_of_lt (Heap.lt_size e)) (Heap.get?_push_of_some _ e)
  refine wpAny_pure ⟨plainId_quiet PySem.F.plain_max_loop _, mx_start Wk gt cmp s₂.heap.objs.size out d (Wk.frame _ _ _ st fun b _ o e => Heap.get?_push_of_some _ e) (Heap.get?_push_size _ rfl) (fun z h' tk k => q0 z h' tk (up h' k)) fun z v h' tk p k => q1 z v h' tk p (up h' k)⟩
end
theorem best_is (ns : List Int) : ∀ k, k < ns.length → (argBest (fun i j => decide (ns.getD i 0 > ns.getD j 0)) k) ≤ k ∧ ∀ j, j ≤ k → ns.getD j 0 ≤ ns.getD (argBest (fun i j => decide (ns.getD i 0 > ns.getD j 0)) k) 0
  | 0, _ => ⟨Nat.le_refl _, fun j hj => by have : j = 0 := by omega
                                           subst this; exact Int.le_refl _⟩
  | k + 1, h => by
    obtain ⟨h1, h2⟩ := best_is ns k (by omega)
    simp only [argBest]
    split
    · rename_i hb
      have hb := of_decide_eq_true hb
      refine ⟨Nat.le_refl _, fun j hj => ?_⟩
      rcases Nat.lt_or_ge j (k + 1) with z | z
      · have := h2 j (by omega)
        omega
      · have : j = k + 1 := by omega
        subst this
        exact Int.le_refl _
    · rename_i hb
      refine ⟨by omega, fun j hj => ?_⟩
      rcases Nat.lt_or_ge j (k + 1) with z | z
      · exact h2 j (by omega)
      · have e : j = k + 1 := by omega
        have : ¬ ns.getD (k + 1) 0 > ns.getD (argBest (fun i j => decide (ns.getD i 0 > ns.getD j 0)) k) 0 := fun y => hb (decide_eq_true y)
        rw [e]
        omega
section
variable {X : Cx}
noncomputable def rMaxD (d : Int) : List V → Hp → VK → Prop := fun xs H Q => ∃ (l : Addr) (ns : List Int), xs = [.ref l] ∧ H l = some (.lst (ns.map V.int)) ∧ (ns = [] → Q (.int d) H) ∧ ∀ m, m ∈ ns → (∀ x ∈ ns, x ≤ m) → Q (.int m) H
theorem call_maxD {pins : List (Addr × Obj)} {σ : L2.St} {H : Hp} {s : Shared} {l : Addr} {ns : List Int} {d : Int} {t : Tok} {Q : VK} (hc : X.calm = true) (I : Inv X pins σ H s) (hl : H l = some (.lst (ns.map V.int)))
    (q0 : ns = [] → Q (.int d) H) (q1 : ∀ m, m ∈ ns → (∀ x ∈ ns, x ≤ m) → Q (.int m) H) : wpAny (model X.prog X.w) X.A (call (.builtin "max") [.ref l] [(Str.ofString "default", .int d t)]) (EP X pins σ Q) X.xe s := by
  obtain ⟨its, rv, p, _⟩ := I.list (SqL.of hl)
  have i1 : IntsAre its ns := intsAre_of rv
  have il := ints_len i1
  have ha : l < s.heap.objs.size := by
    obtain ⟨o, _, e, _⟩ := p
    exact Heap.lt_size e
  have p' : s.heap.IsList l its.toArray := by
    obtain ⟨o, n, e, e2, _, e3⟩ := p
    exact ⟨o, e, e2, ⟨n, e3⟩⟩
  refine mx_call (wpAny_pyIter_list p' ?_)
  refine ⟨s.heap.objs.size, _, _, _, _, _, fun i j => decide (ns.getD i 0 > ns.getD j 0), rfl, Walks.list (show X.A.in1.handled = none from I.ok.hd hc) s.heap.objs.size l (Nat.ne_of_lt ha) its.toArray, ⟨⟨_, Heap.get?_push_size _ rfl, rfl, rfl⟩, p'.push _⟩, ?_, ?_, ?_, ?_⟩
  · intro b hb
    show b < (s.heap.push _).objs.size
    rw [Heap.size_push]
    simp only [List.mem_cons, List.not_mem_nil, or_false] at hb
    rcases hb with rfl | rfl
    · exact Nat.lt_succ_self _
    · exact Nat.lt_succ_of_lt ha
  · refine CmpOf.ints_gt (fun i => ns.getD i 0) fun i v hv => ?_
    have hv' : its[i]? = some v := by simpa using hv
    obtain ⟨hi, e⟩ := List.getElem?_eq_some_iff.mp hv'
    obtain ⟨n, t, e1, e2⟩ := ints_get i1 hi
    exact ⟨t, by rw [← e, e2, List.getD_eq_getElem?_getD, e1]; rfl⟩
  · intro z h' tk k
    have z' : ns = [] := by
      have : its.length = 0 := by simpa using z
      exact List.length_eq_zero_iff.mp (by omega)
    refine ⟨.int d, H, I.kept (t' := tk) (fun b o e => k b o ?_ (Heap.get?_push_of_some _ e)), ⟨t, rfl⟩, q0 z'⟩
    simp
    exact Nat.ne_of_lt (Heap.lt_size e)
  · intro z v h' tk hv k
    have z' : 0 < ns.length := by
      have : 0 < its.length := by simpa using z
      omega
    have sz : its.toArray.size = ns.length := by rw [List.size_toArray, il]
    rw [sz] at hv
    obtain ⟨b1, b2⟩ := best_is ns (ns.length - 1) (by omega)
    generalize argBest (fun i j => decide (ns.getD i 0 > ns.getD j 0)) (ns.length - 1) = i at hv b1 b2
    have hv' : its[i]? = some v := by simpa using hv
    obtain ⟨hi, e⟩ := List.getElem?_eq_some_iff.mp hv'
    obtain ⟨n, t, e1, e2⟩ := ints_get i1 hi
    have en : ns.getD i 0 = n := by rw [List.getD_eq_getElem?_getD, e1]; rfl
    refine ⟨.int n, H, I.kept (t' := tk) (fun b o e => k b o ?_ (Heap.get?_push_of_some _ e)), ⟨t, by rw [← e, e2]⟩, q1 n (List.mem_of_getElem? e1) fun x hx => ?_⟩
    · simp
      exact Nat.ne_of_lt (Heap.lt_size e)
    · obtain ⟨j, hj⟩ := List.mem_iff_getElem?.mp hx
      have hjl := (List.getElem?_eq_some_iff.mp hj).1
      have := b2 j (by omega)
      rw [en, List.getD_eq_getElem?_getD, hj] at this
      exact this
variable {p pos kpos : Pos} {e e2 : Expr} {es : List Expr} {t tk : TA}
noncomputable def tMaxD (t tk : TA) : TE := fun σ H Q => t σ H fun vs H1 => tk σ H1 fun zs H2 => ∃ d, zs = [.int d] ∧ rMaxD d vs H2 Q
theorem pe_maxD (hc : X.calm = true) (hg : Gl X "max") (hm : X.mg "max" = none) (ha : PA X [e] t) (hk : PK X [⟨some "default", e2, kpos⟩] tk)
    (hall : (backToKw pos (keywordEach [⟨some "default", e2, kpos⟩] X.env)).all (·.1.isSome) = true := by rfl) (hks : (backToKw pos (keywordEach [⟨some "default", e2, kpos⟩] X.env)).filterMap (·.1) = [Str.ofString "default"] := by rfl)
    (he : starEach [e] X.env = [(false, eval e X.env)] := by rfl)
    (hpl : ((backTo pos (starEach [e] X.env)).any (·.1) || (backToKw pos (keywordEach [⟨some "default", e2, kpos⟩] X.env)).any (·.1.isNone)) = false := by rfl) :
    PE X (.Call (.Name "max" p) [e] [⟨some "default", e2, kpos⟩] pos) (tMaxD t tk) := by
  intro pins s σ H Q I h
  refine wpAny_Call_Name_kw (ld_blt I hg hm (show bootBuiltins "max" = some (.builtin "max") by decide +kernel) ?_ (by decide) (by decide))
  refine PySem.W.callWith_of (P := fun _ => True) hpl (fun _ _ => ⟨_, .inr (.inl rfl), PySem.W.Looks.of_pure rfl⟩) (evalArgs_kw2 hall (thn (ha pos pins s σ H _ I h) fun us s1 ⟨vs, H1, I1, r, q⟩ => ?_) he)
  refine thn (hk pos pins s1 σ H1 _ I1 q) fun ws s2 ⟨zs, H2, I2, rz, q2⟩ => ⟨trivial, ?_⟩
  rw [hks]
  obtain ⟨d, rfl, l, ns, rfl, hl, q0, q1⟩ := q2
  obtain ⟨u, rfl, ru⟩ := vals1 r
  cases ru
  obtain ⟨u, rfl, ⟨t, rfl⟩⟩ := vals1 rz
  exact call_maxD hc I2 hl q0 q1
noncomputable def rMax1 : List V → Hp → VK → Prop := fun xs H Q => ∃ (l : Addr) (ns : List Int), xs = [.ref l] ∧ H l = some (.lst (ns.map V.int)) ∧ ns ≠ [] ∧ ∀ m, m ∈ ns → (∀ x ∈ ns, x ≤ m) → Q (.int m) H
theorem call_max1 (hc : X.calm = true) : CallR X (.builtin "max") rMax1 := by
  intro pins s σ H xs us Q I r h
  obtain ⟨l, ns, rfl, hl, hne, q1⟩ := h
  obtain ⟨u, rfl, ru⟩ := vals1 r
  cases ru
  obtain ⟨its, rv, p, _⟩ := I.list (SqL.of hl)
  have i1 : IntsAre its ns := intsAre_of rv
  have il := ints_len i1
  have ha : l < s.heap.objs.size := by
    obtain ⟨o, _, e, _⟩ := p
    exact Heap.lt_size e
  have p' : s.heap.IsList l its.toArray := by
    obtain ⟨o, n, e, e2, _, e3⟩ := p
    exact ⟨o, e, e2, ⟨n, e3⟩⟩
  have np : 0 < ns.length := List.length_pos_iff.mpr hne
  refine call_max_walk (wpAny_pyIter_list p' ?_)
  refine ⟨s.heap.objs.size, _, _, _, _, _, fun i j => decide (ns.getD i 0 > ns.getD j 0), rfl, Walks.list (show X.A.in1.handled = none from I.ok.hd hc) s.heap.objs.size l (Nat.ne_of_lt ha) its.toArray, ⟨⟨_, Heap.get?_push_size _ rfl, rfl, rfl⟩, p'.push _⟩, ?_, ?_, ?_, ?_⟩
  · intro b hb
    show b < (s.heap.push _).objs.size
    rw [Heap.size_push]
    simp only [List.mem_cons, List.not_mem_nil, or_false] at hb
    rcases hb with rfl | rfl
    · exact Nat.lt_succ_self _
    · exact Nat.lt_succ_of_lt ha
  · rw [List.size_toArray, il]
    exact np
  · refine CmpOf.ints_gt (fun i => ns.getD i 0) fun i v hv => ?_
    have hv' : its[i]? = some v := by simpa using hv
    obtain ⟨hi, e⟩ := List.getElem?_eq_some_iff.mp hv'
    obtain ⟨n, t, e1, e2⟩ := ints_get i1 hi
    exact ⟨t, by rw [← e, e2, List.getD_eq_getElem?_getD, e1]; rfl⟩
  · intro v h' tk hv k
    have sz : its.toArray.size = ns.length := by rw [List.size_toArray, il]
    rw [sz] at hv
    obtain ⟨b1, b2⟩ := best_is ns (ns.length - 1) (by omega)
    generalize argBest (fun i j => decide (ns.getD i 0 > ns.getD j 0)) (ns.length - 1) = i at hv b1 b2
    have hv' : its[i]? = some v := by simpa using hv
    obtain ⟨hi, e⟩ := List.getElem?_eq_some_iff.mp hv'
    obtain ⟨n, t, e1, e2⟩ := ints_get i1 hi
    have en : ns.getD i 0 = n := by rw [List.getD_eq_getElem?_getD, e1]; rfl
    refine ⟨.int n, H, I.kept (t' := tk) (fun b o e => k b o ?_ (Heap.get?_push_of_some _ e)), ⟨t, by rw [← e, e2]⟩, q1 n (List.mem_of_getElem? e1) fun x hx => ?_⟩
    · simp
      exact Nat.ne_of_lt (Heap.lt_size e)
    · obtain ⟨j, hj⟩ := List.mem_iff_getElem?.mp hx
      have hjl := (List.getElem?_eq_some_iff.mp hj).1
      have := b2 j (by omega)
      rw [en, List.getD_eq_getElem?_getD, hj] at this
      exact this
end
end LwMx

namespace L2
open PySem PySem.Spec PyProof.Rows
section
variable {prog : Program} {w : World} {A : Around} {E : Value → Shared → Prop} {s : Shared}
structure ZU (z TI TO i1 i2 l1 l2 : Addr) (k : Nat) (h : Heap) : Prop where
  zz : IsZip h z TI TO .none
  ti : IsPair h TI (.ref i1) (.ref i2)
  to : ∃ a b, IsPair h TO a b
  one : h.IsTupleIter i1 l1 k
  two : h.IsListIter i2 l2 k
variable {z TI TO i1 i2 l1 l2 : Addr} {k : Nat} {xs ys : Array Value}
end
section
variable {X : Cx} {pins : List (Addr × Obj)} {σ : St} {H : Hp} {s : Shared} {h' : Heap}
theorem FpOk.apartL {a b : Addr} {xs : List V} (I : Inv X pins σ H s) (f : FpOk X pins H b) (h : SqL X.K H a xs) : a ≠ b := by
  rintro rfl
  rcases h with (h | ⟨o, h⟩) | ⟨o, its, n, hk, hc, hs, hz, r⟩
  · rw [f.1] at h; cases h
  · rw [f.1] at h; cases h
  · have hb : X.base.get? a = some o := I.ok.mod.kin a o hk
    rcases f.2.2.2.1 with z | z
    · exact I.ok.noex a o hb z
    · exact absurd (Nat.lt_of_lt_of_le (Heap.lt_size hb) (Nat.le_trans I.ok.bsz z)) (Nat.lt_irrefl _)
end
section
variable {X : Cx}
end
end L2

namespace L2
open PySem PySem.Spec PyProof.Rows
section
open AutoSeq1 (wpAny_loadPart')
end
section
variable {prog : Program} {w : World} {A : Around} {E : Value → Shared → Prop} {s : Shared}
end
section
variable {X : Cx}
end
theorem for_zipT {K : PySem.W.Frag} {a b : Addr} {xs ys : List V} {g : TG} {tb : TS} {D : Ends} {σ : St} {H : Hp} (Pv : Nat → St → Hp → Prop) (le : xs.length = ys.length) (h0 : Pv 0 σ H) (hl : ∀ i σ H, i ≤ xs.length → Pv i σ H → SqT K H a xs ∧ SqT K H b ys)
    (hs : ∀ i x y p σ H, xs[i]? = some x → ys[i]? = some y → H p = none → Pv i σ H → g (.ref p) σ (upd H p (.tup [x, y])) fun σ2 H2 => tb { D with nx := Pv (i + 1), ct := Pv (i + 1), bk := D.nx } σ2 H2) (hd : ∀ σ H, Pv xs.length σ H → D.nx σ H) :
    ∃ W : Nat → Nat → St → Hp → Prop, (∃ m, W 0 m σ H) ∧ ∀ i m σ H, W i m σ H →
      ((Itz K a b).stop i H ∧ D.nx σ H) ∨ ((Itz K a b).go i H ∧ ∃ N : St → Hp → Prop, (∀ σ' H', N σ' H' → ∃ m', m' < m ∧ W (i + 1) m' σ' H') ∧ ∀ x H', (Itz K a b).yld i H x H' → g x σ H' fun σ2 H2 => tb { D with nx := N, ct := N, bk := D.nx } σ2 H2) := by
  refine ⟨fun i m σ H => m = xs.length - i ∧ i ≤ xs.length ∧ Pv i σ H, ⟨xs.length, by simp, Nat.zero_le _, h0⟩, ?_⟩
  rintro i m σ H ⟨rfl, hi, p⟩
  obtain ⟨q1, q2⟩ := hl i σ H hi p
  by_cases hlt : i < xs.length
  · refine .inr ⟨⟨xs, ys, xs[i], ys[i]'(by omega), q1, q2, by simp [hlt], by simp [le ▸ hlt]⟩, Pv (i + 1), fun σ' H' p' => ⟨xs.length - (i + 1), by omega, rfl, hlt, p'⟩, fun v H' y => ?_⟩
    obtain ⟨r, x, y, hr, rfl, rfl, hx, hy⟩ := y
    exact hs i x y r σ H (hx xs q1) (hy ys q2) hr p
  · have ei : i = xs.length := by omega
    subst ei
    exact .inl ⟨⟨xs, ys, q1, q2, .inl (Nat.le_refl _)⟩, hd σ H p⟩
end L2

namespace LwD
open PySem PySem.Spec PyProof.Rows L2 Lw
section
variable {X : Cx}
end
end LwD

namespace LwD
open PySem PySem.Spec PyProof.Rows L2 Lw
section
variable {X : Cx} {pins : List (Addr × Obj)} {σ : L2.St} {H : Hp} {s : Shared}
theorem Inv.freeze {d : Addr} {kvs : List (List Key × V)} (I : Inv X pins σ H s) (e : H d = some (.dT kvs)) : ∃ o, Inv X pins σ (upd H d (.frz o (.dT kvs))) s := by
  have ob : ObjOk X.prog X.w H s.heap d (.dT kvs) := I.hok d _ e
  obtain ⟨z, lo, xs, rel, o, es, ep, ho, r⟩ := id ob
  refine ⟨o, ?_⟩
  have ne : ∀ {b : Addr} {u : HO}, H b = some u → (∀ k, u ≠ .dT k) → upd H d (.frz o (.dT kvs)) b = some u := fun {b u} q n => by
    rw [upd_ne (fun y => by rw [y, e] at q; cases q; exact n _ rfl)]
    exact q
  refine I.step (h' := s.heap) (g' := s.gens) (t' := s.toks) (d' := s.drawn) (ch := []) (fun _ y => nomatch y) (fun b u _ _ _ q _ => q) (fun b u _ _ _ q _ => ⟨u.slots, q⟩) (fun b u _ _ q => ?_) (fun b u _ q => ⟨u, q⟩) (fun b xs q => ne q fun _ y => by cases y) (fun b u v q => ne q fun _ y => by cases y)
    (fun b ps q => ⟨#[], by rw [ne q fun _ y => by cases y]; simp⟩) (fun m hm => hm) ?_ I.bare
  · rw [upd_ne (fun y => by rw [y, e] at q; cases q)]
    exact q
  · intro b u q
    by_cases hb : b = d
    · subst hb
      rw [upd_same] at q
      cases q
      exact ⟨ho, ob.stay (fun c v _ q => q) (fun c q => ne q fun _ y => by cases y) fun c xs q => ne q fun _ y => by cases y⟩
    · rw [upd_ne hb] at q
      exact (I.hok b u q).stay (fun c v _ q => q) (fun c q => ne q fun _ y => by cases y) fun c xs q => ne q fun _ y => by cases y
end
section
variable {X : Cx}
noncomputable def tFrz (te : TE) : TE := fun σ H Q => te σ H fun v H1 => ∃ d kvs, v = .ref d ∧ H1 d = some (.dT kvs) ∧ ∀ o, Q v (upd H1 d (.frz o (.dT kvs)))
theorem pe_frz {e : Expr} {te : TE} (h : PE X e te) : PE X e (tFrz te) := by
  intro pins s σ H Q I hq
  refine thn (h pins s σ H _ I hq) fun u s1 ⟨x, H1, I1, r1, q1⟩ => ?_
  obtain ⟨d, kvs, rfl, hd, k⟩ := q1
  obtain ⟨o, I2⟩ := Inv.freeze I1 hd
  exact ⟨.ref d, _, I2, r1, k o⟩
end
noncomputable def Itk (d : Addr) (o : Obj) (kvs : List (List Key × V)) (ys : List V) : It :=
  ⟨fun i H => H d = some (.frz o (.dT kvs)) ∧ i < ys.length, fun i H x H' => H' = H ∧ ys[i]? = some x, fun i H => H d = some (.frz o (.dT kvs)) ∧ i = ys.length⟩
theorem turn_keys {P : Program} {w : World} {K : PySem.W.Frag} {tg : Expr} (d it : Addr) {o : Obj} {es : Array DictEntry} {ep : Nat} {kvs : List (List Key × V)} {ys : List V} (xo : o.ExactDict) (ho : o.data = .dict es ep)
    (hy : ∀ (i : Nat) (h : i < es.size), ∃ b, es[i].key = .ref b ∧ ys[i]? = some (.ref b)) (hl : ys.length = es.size) : Turn P w K tg (Itk d o kvs ys) [it] it (fun i h => h.IsKeyIter it d i es.size ep) where
  mem := by simp
  obj := fun i h st b hb => by
    have e : b = it := by simpa using hb
    subst e
    obtain ⟨o, e, c, d⟩ := st
    exact ⟨o, e, fun v z => by rw [d] at z; cases z⟩
  keep := fun i h h' st k => st.at fun o e => k it (by simp) o e
  item := by
    intro X hP hw hK hc i pins s σ H E I hf st hg
    subst hP hw hK
    obtain ⟨hd, hi⟩ := hg
    have raw : Raw s.heap d es ep := ⟨o, (I.hok d _ hd).1, xo, ho⟩
    obtain ⟨b, eb, yb⟩ := hy i (by omega)
    obtain ⟨f0, f1, f2, f3, f4, f5⟩ := hf it (by simp)
    refine raw_next st raw (by omega) fun h' st' sb => ?_
    have I1 : Inv X pins σ H { s with heap := h' } := I.turned (t' := s.toks) (fun b o hb e => (sb.2 b hb).trans e) f0 f1 f3 f4 f5
    obtain ⟨oi, e, c, dd⟩ := id st'
    exact ⟨_, rfl, go_of (s := { s with heap := h' }) e c dd (by decide) ⟨.ref b, H, I1, by rw [eb]; rfl, ⟨rfl, yb⟩, st', fun b hb => (hf b hb).1⟩⟩
  done := by
    intro X hP hw hK hc i pins s σ H E I hf st hg
    subst hP hw hK
    obtain ⟨hd, hi⟩ := hg
    have raw : Raw s.heap d es ep := ⟨o, (I.hok d _ hd).1, xo, ho⟩
    obtain ⟨f0, f1, f2, f3, f4, f5⟩ := hf it (by simp)
    rw [hi, hl] at st
    exact raw_end (I.ok.hd hc) st raw fun h' eb => ⟨rfl, I.turned (t' := s.toks) (fun b o hb e => eb b o hb e) f0 f1 f3 f4 f5⟩
  self := fun _ _ _ _ _ st h => wpAny_pyIter_keyiter st h
section
variable {X : Cx}
noncomputable def iKeys (te : TE) : TI := fun σ H R => te σ H fun v H1 => ∃ d o kvs, v = .ref d ∧ H1 d = some (.frz o (.dT kvs)) ∧ (∀ p ∈ kvs, ∃ ns : List Int, p.1 = ik ns) ∧ ∀ ys, Keyed H1 ys kvs → R (Itk d o kvs ys) H1
theorem pi_keys {tg l : Expr} {tl : TE} (hl : PE X l tl) : PI X tg l (iKeys tl) := by
  intro pins s σ H R I h
  refine thn (hl pins s σ H _ I h) fun v s1 ⟨x, H1, I1, r1, q1⟩ => ?_
  obtain ⟨d, o, kvs, rfl, hd, hk, q⟩ := q1
  cases r1
  obtain ⟨go, ob⟩ := I1.hok d _ hd
  obtain ⟨z, lo, ks, rel, o', es, ep, ho, xo, hdat, he, hn⟩ := (show ObjOk X.prog X.w H1 s1.heap d (.dT kvs) from ob)
  rw [go] at ho
  cases ho
  have esz : es.size = kvs.length := by rw [size_of_entries he, ← Paired.length rel]
  have itup : ∀ (j : Nat) (h : j < es.size), ∃ (b : Addr) (ns : List Int) (v : V), es[j].key = .ref b ∧ H1 b = some (.tup (ns.map V.int)) ∧ kvs[j]? = some (ik ns, v) := fun j hj => by
    have e1 := entry_at he j
    rw [Array.getElem?_eq_getElem hj] at e1
    cases e2 : ks[j]? with
    | none => rw [e2] at e1; cases e1
    | some x =>
      rw [e2] at e1
      have e3 : es[j] = entryOfKey _ x := Option.some.inj e1
      obtain ⟨v, m1, m2⟩ := KTgetI rel e2
      obtain ⟨ns, n1⟩ := hk _ (List.mem_of_getElem? m1)
      dsimp only at n1
      rw [n1] at m1 m2
      rw [ik_map] at m2
      exact ⟨x.2.1, ns, v, by rw [e3]; rfl, m2, m1⟩
  have kref : ∀ (j : Nat) (h : j < es.size), ∃ b : Addr, es[j].key = .ref b := fun j hj => let ⟨b, _, _, e, _⟩ := itup j hj; ⟨b, e⟩
  refine raw_iter lo ⟨o, go, xo, hdat⟩ ?_
  refine ⟨s1.heap.objs.size, [s1.heap.objs.size], _, _, H1, rfl, I1.kept (t' := s1.toks) fun b o e => Heap.get?_push_of_some _ e, turn_keys (kvs := kvs) d _ xo hdat (ys := es.toList.map fun e => match e.key with | .ref b => V.ref b | _ => V.non) ?_ (by simp), ⟨_, Heap.get?_push_size _ rfl, rfl, rfl⟩, fun b hb => ?_, q _ ⟨by simp [esz], fun i y p ey ep => ?_⟩⟩
  · intro i hi
    obtain ⟨b, e⟩ := kref i hi
    refine ⟨b, e, ?_⟩
    simp only [List.getElem?_map, Array.getElem?_toList, Array.getElem?_eq_getElem hi, Option.map_some, e]
  · have e : b = s1.heap.objs.size := by simpa using hb
    rw [e]
    exact I1.fpOk (Nat.le_refl _) (I1.hok.fresh (Nat.le_refl _))
  · have hi : i < es.size := by
      have := (List.getElem?_eq_some_iff.mp ey).1
      simpa using this
    obtain ⟨b, ns, v, e1, e2, e3⟩ := itup i hi
    simp only [List.getElem?_map, Array.getElem?_toList, Array.getElem?_eq_getElem hi, Option.map_some, e1, Option.some.injEq] at ey
    rw [e3] at ep
    cases ep
    exact ⟨b, ns, ey.symm, e2, rfl⟩
end
theorem for_keys {d : Addr} {o : Obj} {kvs : List (List Key × V)} {xs : List V} {g : TG} {tb : TS} {D : Ends} {σ : L2.St} {H : Hp} (Pv : Nat → L2.St → Hp → Prop) (h0 : Pv 0 σ H) (hl : ∀ i σ H, Pv i σ H → H d = some (.frz o (.dT kvs)))
    (hs : ∀ i x σ H, xs[i]? = some x → Pv i σ H → g x σ H fun σ2 H2 => tb { D with nx := Pv (i + 1), ct := Pv (i + 1), bk := D.nx } σ2 H2) (hd : ∀ σ H, Pv xs.length σ H → D.nx σ H) :
    ∃ W : Nat → Nat → L2.St → Hp → Prop, (∃ m, W 0 m σ H) ∧ ∀ i m σ H, W i m σ H →
      ((Itk d o kvs xs).stop i H ∧ D.nx σ H) ∨ ((Itk d o kvs xs).go i H ∧ ∃ N : L2.St → Hp → Prop, (∀ σ' H', N σ' H' → ∃ m', m' < m ∧ W (i + 1) m' σ' H') ∧ ∀ x H', (Itk d o kvs xs).yld i H x H' → g x σ H' fun σ2 H2 => tb { D with nx := N, ct := N, bk := D.nx } σ2 H2) := by
  refine ⟨fun i m σ H => m = xs.length - i ∧ i ≤ xs.length ∧ Pv i σ H, ⟨xs.length, by simp, Nat.zero_le _, h0⟩, ?_⟩
  rintro i m σ H ⟨rfl, hi, p⟩
  have q := hl i σ H p
  by_cases hlt : i < xs.length
  · refine .inr ⟨⟨q, hlt⟩, Pv (i + 1), fun σ' H' p' => ⟨xs.length - (i + 1), by omega, rfl, hlt, p'⟩, fun x H' y => ?_⟩
    obtain ⟨e, y⟩ := y
    subst e
    exact hs i x σ _ y p
  · have ei : i = xs.length := by omega
    subst ei
    exact .inl ⟨⟨q, rfl⟩, hd σ H p⟩
section
variable {X : Cx}
noncomputable def CDivP (i j : Int) : Prop := 0 < j ∧ Builtin.divisionGoesByPylong i j = false
theorem op_fdivP : OpR X (binaryOp .FloorDiv) (rI CDivP fun i j => .int (i / j)) := opI fun i j _ _ _ _ _ hc q => by
  refine floordiv_int (by have := hc.1; omega) ?_ (.inl hc.2)
  rw [Int.fdiv_eq_ediv_of_nonneg _ (Int.le_of_lt hc.1)]
  exact q
theorem cdivp_of {i j : Int} (h : CDivL i j) : CDivP i j := ⟨h.1, PyProof.noPylong_of_log2 (Nat.lt_of_lt_of_le (LwM.log2_lt (by decide) h.2) (by decide))⟩
theorem cdivp_near {i j : Int} {m : Nat} (hj : 0 < j) (hm : m ≤ 13400) (hi : i.natAbs < 2 ^ m) : CDivP i j := by
  refine ⟨hj, ?_⟩
  by_cases h9 : j.natAbs.log2 < 9000
  · exact PyProof.noPylong_of_log2 h9
  · show (decide ((if j == 0 then 0 else j.natAbs.log2 / 30 + 1) > 300) && decide ((if i == 0 then 0 else i.natAbs.log2 / 30 + 1) > (if j == 0 then 0 else j.natAbs.log2 / 30 + 1) + 150)) = false
    rw [Bool.and_eq_false_iff]
    right
    refine decide_eq_false ?_
    have j0 : (j == 0) = false := by
      rw [beq_eq_false_iff_ne]
      omega
    rw [j0]
    simp only [Bool.false_eq_true, if_false]
    have : i.natAbs.log2 < 13440 := by
      by_cases z : i.natAbs = 0
      · rw [z]; decide +kernel
      · exact (Nat.log2_lt z).mpr (Nat.lt_of_lt_of_le hi (Nat.pow_le_pow_right (by decide) (by omega)))
    split <;> omega
end
end LwD

namespace LwD
open PySem PySem.W PySem.Spec PyProof.Rows
noncomputable def TruT {α : Type} (lt : Nat → Nat → Bool) (n : Nat) : KasT α → (α → Prop) → Prop
  | .ret a, P => P a
  | .ask i j k, P => i < n ∧ j < n ∧ TruT lt n (k (lt i j)) P
theorem TruT.bind {α β : Type} {lt : Nat → Nat → Bool} {n : Nat} {f : α → KasT β} {P : α → Prop} {R : β → Prop} : ∀ {t : KasT α}, TruT lt n t P → (∀ a, P a → TruT lt n (f a) R) → TruT lt n (t.bind f) R
  | .ret a, h, g => g a h
  | .ask _ _ _, h, g => ⟨h.1, h.2.1, TruT.bind h.2.2 g⟩
theorem TruT.mono {α : Type} {lt : Nat → Nat → Bool} {n : Nat} {P R : α → Prop} (g : ∀ a, P a → R a) : ∀ {t : KasT α}, TruT lt n t P → TruT lt n t R
  | .ret a, h => g a h
  | .ask _ _ _, h => ⟨h.1, h.2.1, TruT.mono g h.2.2⟩
structure Strict (lt : Nat → Nat → Bool) (n : Nat) : Prop where
  tr : ∀ a b c, lt a b = true → lt b c = true → lt a c = true
  as : ∀ a b, lt a b = true → lt b a = false
  tot : ∀ a b, a < n → b < n → a ≠ b → lt a b = false → lt b a = true
noncomputable def Up (lt : Nat → Nat → Bool) (p : Array Nat) (m : Nat) : Prop := ∀ a b, a < b → b < m → lt (p.getD a 0) (p.getD b 0) = true
noncomputable def Dn (lt : Nat → Nat → Bool) (p : Array Nat) (m : Nat) : Prop := ∀ a b, a < b → b < m → lt (p.getD b 0) (p.getD a 0) = true
theorem Pm.ne {n : Nat} {p : Array Nat} (h : Pm n p) {a b : Nat} (hab : a < b) (hb : b < n) : p.getD a 0 ≠ p.getD b 0 := by
  have sz := h.size
  have nd : p.toList.Nodup := h.nodup_iff.mpr List.nodup_range
  have ha' : a < p.toList.length := by simp [sz]; omega
  have hb' : b < p.toList.length := by simp [sz]; omega
  intro e
  have e1 : p.toList[a] = p.toList[b] := by
    have h1 : p.getD a 0 = p.toList[a] := by simp [Array.getD, show a < p.size by omega]
    have h2 : p.getD b 0 = p.toList[b] := by simp [Array.getD, show b < p.size by omega]
    rw [← h1, ← h2, e]
  have := (List.getElem_inj nd).mp e1
  omega
section
variable {lt : Nat → Nat → Bool} {n : Nat}
theorem Up.snoc (O : Strict lt n) {p : Array Nat} {m : Nat} (u : Up lt p m) (h : 0 < m → lt (p.getD (m - 1) 0) (p.getD m 0) = true) : Up lt p (m + 1) := by
  intro a b hab hb
  by_cases hbm : b < m
  · exact u a b hab hbm
  · have : b = m := by omega
    subst this
    by_cases ha : a = b - 1
    · rw [ha]; exact h (by omega)
    · exact O.tr _ _ _ (u a (b - 1) (by omega) (by omega)) (h (by omega))
theorem Dn.snoc (O : Strict lt n) {p : Array Nat} {m : Nat} (u : Dn lt p m) (h : 0 < m → lt (p.getD m 0) (p.getD (m - 1) 0) = true) : Dn lt p (m + 1) := by
  intro a b hab hb
  by_cases hbm : b < m
  · exact u a b hab hbm
  · have : b = m := by omega
    subst this
    by_cases ha : a = b - 1
    · rw [ha]; exact h (by omega)
    · exact O.tr _ _ _ (h (by omega)) (u a (b - 1) (by omega) (by omega))
theorem tru_asc (O : Strict lt n) {p : Array Nat} (h : Pm n p) (hn : 0 < n) : ∀ (f k : Nat), 1 ≤ k → k + f = n → Up lt p k → TruT lt n (kas_asc p f k) fun m => k ≤ m ∧ m ≤ n ∧ Up lt p m ∧ (m < n → lt (p.getD m 0) (p.getD (m - 1) 0) = true)
  | 0, k, h1, h2, u => ⟨Nat.le_refl _, by omega, u, fun z => by omega⟩
  | f + 1, k, h1, h2, u => by
    refine ⟨h.lt hn, h.lt hn, ?_⟩
    cases hb : lt (p.getD k 0) (p.getD (k - 1) 0) with
    | true => exact ⟨Nat.le_refl _, by omega, u, fun _ => hb⟩
    | false =>
      have up : Up lt p (k + 1) := u.snoc O fun _ => O.tot _ _ (h.lt hn) (h.lt hn) (Ne.symm (h.ne (by omega) (by omega))) hb
      refine (tru_asc O h hn f (k + 1) (by omega) (by omega) up).mono fun m hm => ⟨by omega, hm.2⟩
theorem tru_desc (O : Strict lt n) (hn : 0 < n) {p : Array Nat} (h : Pm n p) : ∀ (f k : Nat), 1 ≤ k → k + f = n → Dn lt p k → TruT lt n (kas_desc f p k 0) fun r => r.1 = p ∧ r.2.2 = 0 ∧ k ≤ r.2.1 ∧ r.2.1 ≤ n ∧ Dn lt p r.2.1
  | 0, k, _, h2, d => ⟨rfl, rfl, Nat.le_refl _, (show k ≤ n by omega), d⟩
  | f + 1, k, h1, h2, d => by
    refine ⟨h.lt hn, h.lt hn, ?_⟩
    cases hb : lt (p.getD k 0) (p.getD (k - 1) 0) with
    | true =>
      have dn : Dn lt p (k + 1) := d.snoc O fun _ => hb
      exact (tru_desc O hn h f (k + 1) (by omega) (by omega) dn).mono fun r hr => ⟨hr.1, hr.2.1, by omega, hr.2.2.2⟩
    | false =>
      refine ⟨h.lt hn, h.lt hn, ?_⟩
      have : lt (p.getD (k - 1) 0) (p.getD k 0) = true := O.tot _ _ (h.lt hn) (h.lt hn) (Ne.symm (h.ne (by omega) (by omega))) hb
      rw [this]
      exact ⟨rfl, rfl, Nat.le_refl _, (show k ≤ n by omega), d⟩
theorem getD_of? {p : Array Nat} {i : Nat} {q : Array Nat} {j : Nat} (h : p[i]? = q[j]?) : p.getD i 0 = q.getD j 0 := by
  rw [Array.getD_eq_getD_getElem?, Array.getD_eq_getD_getElem?, h]
theorem rev_up {p : Array Nat} (sz : p.size = n) {k : Nat} (hk : k ≤ n) (d : Dn lt p k) : Up lt (kas_rev p 0 k) k := by
  intro a b hab hb
  have e : ∀ c, c < k → (kas_rev p 0 k).getD c 0 = p.getD (k - 1 - c) 0 := fun c hc => by
    refine getD_of? ?_
    unfold kas_rev
    rw [getElem?_mirror_all (by omega), if_pos ⟨Nat.zero_le _, hc⟩, Nat.zero_add]
  rw [e a (by omega), e b hb]
  exact d (k - 1 - b) (k - 1 - a) (by omega) (by omega)
theorem tru_count (O : Strict lt n) (hn : 0 < n) : TruT lt n (kas_count n (List.toArray (List.range n))) fun r => Pm n r.2 ∧ 1 ≤ r.1 ∧ r.1 ≤ n ∧ Up lt r.2 r.1 := by
  have h : Pm n (List.toArray (List.range n)) := by unfold Pm; simp
  generalize List.toArray (List.range n) = p at h
  have u1 : Up lt p 1 := fun a b h1 h2 => by omega
  refine (tru_asc O h hn (n - 1) 1 (by omega) (by omega) u1).bind fun m hm => ?_
  obtain ⟨m1, m2, um, hlt⟩ := hm
  by_cases e : m = n
  · rw [if_pos (by simp [e])]
    exact ⟨h, m1, m2, um⟩
  · rw [if_neg (by simp [e])]
    by_cases m3 : m > 1
    · rw [if_pos m3]
      refine ⟨h.lt hn, h.lt hn, ?_⟩
      rw [um 0 (m - 1) (by omega) (by omega)]
      exact ⟨h, m1, m2, um⟩
    · rw [if_neg m3]
      have m4 : m = 1 := by omega
      subst m4
      have d2 : Dn lt p 2 := by
        intro a b hab hb
        have hl := hlt (by omega)
        have : a = 0 ∧ b = 1 := by omega
        rw [this.1, this.2]
        exact hl
      unfold kas_descPart
      refine (tru_desc O hn h (n - (1 + 1)) (1 + 1) (by omega) (by omega) d2).bind fun r hr => ?_
      obtain ⟨r1, r2, r3, r4, r5⟩ := hr
      rw [if_neg (by rw [r2]; decide), r1]
      unfold kas_tail3
      have hv : Pm n (kas_rev p 0 r.2.1) := h.rev _ _
      refine (tru_asc O hv hn (n - r.2.1) r.2.1 (by omega) (by omega) (rev_up h.size r4 r5)).bind fun k hk => ?_
      exact ⟨hv, by omega, hk.2.1, hk.2.2.1⟩
theorem tru_place (O : Strict lt n) (hn : 0 < n) {p : Array Nat} (h : Pm n p) {k : Nat} (hk : k < n) (u : Up lt p k) : ∀ (f l r : Nat), l ≤ r → r ≤ k → r - l ≤ f → (∀ a, a < l → lt (p.getD a 0) (p.getD k 0) = true) → (∀ a, r ≤ a → a < k → lt (p.getD k 0) (p.getD a 0) = true) →
    TruT lt n (kas_place p k f l r) fun x => x ≤ k ∧ (∀ a, a < x → lt (p.getD a 0) (p.getD k 0) = true) ∧ ∀ a, x ≤ a → a < k → lt (p.getD k 0) (p.getD a 0) = true
  | 0, l, r, h1, h2, h3, hl, hr => ⟨by omega, hl, fun a ha => hr a (by omega)⟩
  | f + 1, l, r, h1, h2, h3, hl, hr => by
    show TruT lt n (if l ≥ r then _ else _) _
    split
    · exact ⟨by omega, hl, fun a ha => hr a (by omega)⟩
    · refine ⟨h.lt hn, h.lt hn, ?_⟩
      have mk : (l + r) / 2 < k := by omega
      cases hb : lt (p.getD k 0) (p.getD ((l + r) / 2) 0) with
      | true =>
        refine tru_place O hn h hk u f l ((l + r) / 2) (by omega) (by omega) (by omega) hl fun a ha hak => ?_
        by_cases e : a = (l + r) / 2
        · rw [e]; exact hb
        · exact O.tr _ _ _ hb (u _ _ (by omega) hak)
      | false =>
        have hm : lt (p.getD ((l + r) / 2) 0) (p.getD k 0) = true := O.tot _ _ (h.lt hn) (h.lt hn) (Ne.symm (h.ne mk hk)) hb
        refine tru_place O hn h hk u f ((l + r) / 2 + 1) r (by omega) h2 (by omega) (fun a ha => ?_) hr
        by_cases e : a = (l + r) / 2
        · rw [e]; exact hm
        · exact O.tr _ _ _ (u a _ (by omega) mk) hm
theorem bub_up {p : Array Nat} (sz : p.size = n) {k l : Nat} (hk : k < n) (hl : l ≤ k) (u : Up lt p k) (h1 : ∀ a, a < l → lt (p.getD a 0) (p.getD k 0) = true) (h2 : ∀ a, l ≤ a → a < k → lt (p.getD k 0) (p.getD a 0) = true) : Up lt (bubble p k (k - l)) (k + 1) := by
  have e : ∀ c, (bubble p k (k - l)).getD c 0 = if c = l then p.getD k 0 else if l < c ∧ c ≤ k then p.getD (c - 1) 0 else p.getD c 0 := fun c => by
    have := getElem?_bubble (xs := p) (src := k) (by omega) (k - l) (by omega) c
    have z : k - (k - l) = l := by omega
    rw [z] at this
    split
    · rename_i hc
      rw [if_pos hc] at this
      exact getD_of? this
    · rename_i hc
      rw [if_neg hc] at this
      split
      · rename_i hc2
        rw [if_pos hc2] at this
        exact getD_of? this
      · rename_i hc2
        rw [if_neg hc2] at this
        exact getD_of? this
  intro a b hab hb
  rw [e a, e b]
  by_cases a1 : a = l
  · rw [if_pos a1, if_neg (by omega), if_pos ⟨by omega, by omega⟩]
    exact h2 _ (by omega) (by omega)
  · rw [if_neg a1]
    by_cases a2 : l < a ∧ a ≤ k
    · rw [if_pos a2, if_neg (by omega), if_pos ⟨by omega, by omega⟩]
      exact u _ _ (by omega) (by omega)
    · rw [if_neg a2]
      by_cases b1 : b = l
      · rw [if_pos b1]
        exact h1 a (by omega)
      · rw [if_neg b1]
        by_cases b2 : l < b ∧ b ≤ k
        · rw [if_pos b2]
          by_cases ab : a = b - 1
          · omega
          · exact u _ _ (by omega) (by omega)
        · rw [if_neg b2]
          exact u _ _ hab (by omega)
theorem tru_bin (O : Strict lt n) (hn : 0 < n) : ∀ (f : Nat) {p : Array Nat} (_ : Pm n p) (k : Nat), k + f = n → Up lt p k → TruT lt n (kas_bin f p k) fun q => Pm n q ∧ Up lt q n
  | 0, p, h, k, hk, u => ⟨h, by have : k = n := by omega
                                rw [← this]; exact u⟩
  | f + 1, p, h, k, hk, u => by
    refine (tru_place O hn h (by omega) u k 0 k (Nat.zero_le _) (Nat.le_refl _) (by omega) (fun a ha => by omega) (fun a h1 h2 => by omega)).bind fun l hl => ?_
    exact tru_bin O hn f (h.bub _ _) (k + 1) (by omega) (bub_up h.size (by omega) hl.1 u hl.2.1 hl.2.2)
theorem tru_sort (O : Strict lt n) (hn : 0 < n) : TruT lt n (kas_sort n) fun q => Pm n q ∧ Up lt q n := by
  refine (tru_count O hn).bind fun r hr => ?_
  obtain ⟨h1, h2, h3, h4⟩ := hr
  split
  · rw [show max r.1 1 = r.1 by omega]
    exact tru_bin O hn _ h1 _ (by omega) h4
  · have : r.1 = n := by omega
    exact ⟨h1, this ▸ h4⟩
theorem wp_tru {α : Type} {cmp : Nat → Nat → (Bool → Shared → Prop) → Shared → Prop} {s : Shared} (hc : ∀ i j C, i < n → j < n → C (lt i j) s → cmp i j C s) {P : α → Prop} {Q : α → Shared → Prop} (hq : ∀ a, P a → Q a s) : ∀ {t : KasT α}, TruT lt n t P → t.kasWp cmp Q s
  | .ret a, h => hq a h
  | .ask i j k, h => hc i j _ h.1 h.2.1 (wp_tru hc hq h.2.2)
end
end LwD

namespace LwD
open PySem PySem.Spec PyProof.Rows L2 Lw
noncomputable def lexI : List Int → List Int → Bool
  | x :: xs, y :: ys => if x = y then lexI xs ys else decide (x < y)
  | [], _ :: _ => true
  | _, [] => false
theorem lexI_tr : ∀ a b c : List Int, lexI a b = true → lexI b c = true → lexI a c = true
  | [], [], _, h, _ => by simp [lexI] at h
  | [], _ :: _, [], _, h => by simp [lexI] at h
  | [], _ :: _, _ :: _, _, _ => by simp [lexI]
  | _ :: _, [], _, h, _ => by simp [lexI] at h
  | _ :: _, _ :: _, [], _, h => by simp [lexI] at h
  | x :: xs, y :: ys, z :: zs, h1, h2 => by
    have ih := lexI_tr xs ys zs
    simp only [lexI] at h1 h2 ⊢
    by_cases e1 : x = y
    · subst e1
      rw [if_pos rfl] at h1
      by_cases e2 : x = z
      · rw [if_pos e2] at h2 ⊢
        exact ih h1 h2
      · rw [if_neg e2] at h2 ⊢
        exact h2
    · rw [if_neg e1] at h1
      have h1 := of_decide_eq_true h1
      by_cases e2 : y = z
      · subst e2
        rw [if_neg e1]
        exact decide_eq_true h1
      · rw [if_neg e2] at h2
        have h2 := of_decide_eq_true h2
        rw [if_neg (by omega)]
        exact decide_eq_true (by omega)
theorem lexI_as : ∀ a b : List Int, lexI a b = true → lexI b a = false
  | [], [], h => by simp [lexI] at h
  | [], _ :: _, _ => by simp [lexI]
  | _ :: _, [], h => by simp [lexI] at h
  | x :: xs, y :: ys, h => by
    have ih := lexI_as xs ys
    simp only [lexI] at h ⊢
    by_cases e1 : x = y
    · subst e1
      rw [if_pos rfl] at h ⊢
      exact ih h
    · rw [if_neg e1] at h
      have h := of_decide_eq_true h
      rw [if_neg (by omega)]
      exact decide_eq_false (by omega)
theorem lexI_tot : ∀ a b : List Int, a ≠ b → lexI a b = false → lexI b a = true
  | [], [], n, _ => absurd rfl n
  | [], _ :: _, _, h => by simp [lexI] at h
  | _ :: _, [], _, _ => by simp [lexI]
  | x :: xs, y :: ys, n, h => by
    have ih := lexI_tot xs ys
    simp only [lexI] at h ⊢
    by_cases e1 : x = y
    · subst e1
      rw [if_pos rfl] at h ⊢
      exact ih (fun z => n (by rw [z])) h
    · rw [if_neg e1] at h
      have h := of_decide_eq_false h
      rw [if_neg (by omega)]
      exact decide_eq_true (by omega)
noncomputable def lexG (fin : Bool) : List Int → List Int → Bool
  | x :: xs, y :: ys => if x = y then lexG fin xs ys else decide (x < y)
  | _, _ => fin
theorem lexG_is : ∀ a b : List Int, lexG (decide (a.length < b.length)) a b = lexI a b
  | [], [] => rfl
  | [], _ :: _ => by simp [lexG, lexI]
  | _ :: _, [] => by simp [lexG, lexI]
  | x :: xs, y :: ys => by
    have ih := lexG_is xs ys
    simp only [lexG, lexI, List.length_cons, Nat.add_lt_add_iff_right]
    rw [ih]
noncomputable def kInts (k : List Key) : List Int := k.filterMap fun | .inl i => some i | .inr _ => none
theorem kInts_ik (ns : List Int) : kInts (ik ns) = ns := by
  unfold kInts ik
  induction ns with
  | nil => rfl
  | cons n r ih => simp [ih]
theorem KTkeys {H : Hp} {kvs : List (List Key × V)} {xs : List (List Key × Addr × Value)} (r : KT H kvs xs) : kvs.map (·.1) = xs.map (·.1) := by
  induction r with
  | nil => rfl
  | cons h _ ih => rw [List.map_cons, List.map_cons, ih, h.1]
section
variable {prog : Program} {w : World} {A : Around} {E : Value → Shared → Prop} {s : Shared}
theorem lex_true {b fin : Bool} {Q : Bool → Shared → Prop} : ∀ {as bs : List Value} {xs ys : List Int} (_ : IntsAre as xs) (_ : IntsAre bs ys) (_ : Q (lexG fin xs ys) s) (i : Nat), PySem.W.KatLex prog w A b fin Q (as.zip bs) i s
  | _, _, _, _, .nil, _, h, _ => by
    rw [List.zip_nil_left]
    exact PySem.W.kat_nil (by simpa [lexG] using h)
  | _, _, _, _, .cons _ _ _, .nil, h, _ => by
    rw [List.zip_nil_right]
    exact PySem.W.kat_nil (by simpa [lexG] using h)
  | _, _, _, _, .cons n t r, .cons m u r2, h, i => by
    rw [List.zip_cons_cons]
    simp only [lexG] at h
    refine PySem.W.kat_cons (SeqAt.EqAt.int_int _ _ _ _ prog w _ _ ?_)
    refine PySem.W.kat_go (fun e => PySem.W.kat_yes (lex_true r r2 (by rwa [if_pos (by simpa using e)] at h) (i + 1))) fun e => PySem.W.kat_no ?_
    rw [if_neg (by simpa using e)] at h
    cases hb : (b && i == 0) with
    | true => exact oneLt_int h
    | false => exact PySem.W.kat_one _ _ (lt_int h)
end
section
variable {X : Cx}
noncomputable def rSortS : List V → Hp → VK → Prop := fun xs H Q => ∃ (a : Addr) (kvs : List (List Key × V)), xs = [.ref a] ∧ Rd H a (.dT kvs) ∧ kvs.length < 64 ∧ (∀ p ∈ kvs, ∃ ns : List Int, p.1 = ik ns ∧ ns ≠ []) ∧
  ∀ (ys : List V) (zs : List (List Key × V)), zs.Perm kvs → Keyed H ys zs → zs.Pairwise (fun p q => lexI (kInts p.1) (kInts q.1) = true) → New H (.lst ys) Q
theorem call_sortS (hc : X.calm = true) : CallR X (.builtin "sorted") rSortS := by
  intro pins s σ H xs us Q I r h
  obtain ⟨a, kvs, rfl, ha, h64, hk, q⟩ := h
  obtain ⟨u, rfl, ru⟩ := vals1 r
  cases ru
  obtain ⟨z, lo, ks, rel, dd⟩ := dt_rd I.hok ha
  obtain ⟨o, es, ep, hd1, hd2, hd3, he, his, hn⟩ := id dd
  have raw : Raw s.heap a es ep := ⟨o, hd1, hd2, hd3⟩
  have esz : es.size = kvs.length := by rw [size_of_entries he, ← Paired.length rel]
  obtain ⟨m, F⟩ := I.fr
  have kn : (kvs.map (·.1)).Nodup := by rw [KTkeys rel]; exact hn
  have itup : ∀ (j : Nat) (h : j < es.size), ∃ (b : Addr) (ns : List Int) (v : V), es[j].key = .ref b ∧ H b = some (.tup (ns.map V.int)) ∧ kvs[j]? = some (ik ns, v) ∧ ns ≠ [] := fun j hj => by
    have e1 := entry_at he j
    rw [Array.getElem?_eq_getElem hj] at e1
    cases e2 : ks[j]? with
    | none => rw [e2] at e1; cases e1
    | some x =>
      rw [e2] at e1
      have e3 : es[j] = entryOfKey _ x := Option.some.inj e1
      obtain ⟨v, m1, m2⟩ := KTgetI rel e2
      obtain ⟨ns, n1, n2⟩ := hk _ (List.mem_of_getElem? m1)
      dsimp only at n1
      rw [n1] at m1 m2
      rw [ik_map] at m2
      exact ⟨x.2.1, ns, v, by rw [e3]; rfl, m2, m1, n2⟩
  refine PySem.W.kdu_sorted (raw_src lo) (I.ok.hd hc) F news_all raw (by rw [esz]; exact z) fun D h' tk vs F' N' lt hlen hP => ?_
  have vtup : ∀ (j : Nat) (hj : j < vs.length), ∃ (b : Addr) (ns : List Int) (v : V), vs[j] = .ref b ∧ H b = some (.tup (ns.map V.int)) ∧ kvs[j]? = some (ik ns, v) ∧ ns ≠ [] := fun j hj => by
    obtain ⟨h1, h2⟩ := hP j vs[j] (by simp [hj])
    rw [h2]
    exact itup j h1
  have vl : vs.length = kvs.length := by rw [hlen, esz]
  have kvI : ∀ (j : Nat) (ns : List Int) (v : V), kvs[j]? = some (ik ns, v) → kInts (kvs.getD j ([], .non)).1 = ns := fun j ns v e => by rw [List.getD_eq_getElem?_getD, e]; exact kInts_ik ns
  have O : Strict (fun i j => lexI (kInts (kvs.getD i ([], .non)).1) (kInts (kvs.getD j ([], .non)).1)) vs.length := by
    refine ⟨fun a b c => lexI_tr _ _ _, fun a b => lexI_as _ _, fun a b ha hb hab hf => ?_⟩
    obtain ⟨_, ns, v, _, _, e3, _⟩ := vtup a ha
    obtain ⟨_, ms, v', _, _, e3', _⟩ := vtup b hb
    rw [kvI _ _ _ e3, kvI _ _ _ e3'] at hf
    show lexI (kInts (kvs.getD b ([], .non)).1) (kInts (kvs.getD a ([], .non)).1) = true
    rw [kvI _ _ _ e3, kvI _ _ _ e3']
    refine lexI_tot _ _ (fun z => hab ?_) hf
    have i1 : (kvs.map (·.1))[a]? = some (ik ns) := by rw [List.getElem?_map, e3]; rfl
    have i2 : (kvs.map (·.1))[b]? = some (ik ns) := by rw [List.getElem?_map, e3', z]; rfl
    exact (List.getElem?_inj (by rw [List.length_map]; omega) kn).mp (i1.trans i2.symm)
  -- the values in another order
  have fin : ∀ (idx : List Nat) (h3 : Heap) (c tk3 : Nat), idx.Perm (List.range kvs.length) → idx.Pairwise (fun i j => lexI (kInts (kvs.getD i ([], .non)).1) (kInts (kvs.getD j ([], .non)).1) = true) → Fr X.base X.env.locals h3 m → News X.base X.env.locals h3 ((D, PySem.W.listOf (idx.map fun i => vs.getD i Value.none).toArray c) :: allNews X.base s.heap X.env.locals) →
      EP X pins σ Q (.ref D) { s with heap := h3, toks := tk3 } := fun idx h3 c tk3 pm pw F3 N3 => by
    have il : idx.length = kvs.length := by rw [pm.length_eq, List.length_range]
    have im : ∀ i ∈ idx, i < kvs.length := fun i hi => List.mem_range.mp (pm.mem_iff.mp hi)
    have tr : ∀ js : List Nat, (∀ i ∈ js, i < kvs.length) → ∃ ys : List V, Vals ys (js.map fun i => vs.getD i Value.none) ∧ Keyed H ys (js.map fun i => kvs.getD i ([], .non)) := by
      intro js
      induction js with
      | nil => exact fun _ => ⟨[], .nil, rfl, fun i y p e => by simp at e⟩
      | cons j js ih =>
        intro hj
        obtain ⟨ys, r1, r2, r3⟩ := ih fun i hi => hj i (List.mem_cons_of_mem _ hi)
        have hj1 := hj j (List.mem_cons_self ..)
        obtain ⟨b, ns, x, e1, e2, e3, _⟩ := vtup j (by rw [vl]; exact hj1)
        refine ⟨.ref b :: ys, ?_, by simp [r2], fun i y p ey ep => ?_⟩
        · rw [List.map_cons]
          refine .cons ?_ r1
          rw [List.getD_eq_getElem?_getD, List.getElem?_eq_getElem (by rw [vl]; exact hj1), e1]
          rfl
        · cases i with
          | zero =>
            simp only [List.map_cons, List.getElem?_cons_zero, Option.some.injEq] at ey ep
            rw [List.getD_eq_getElem?_getD, e3] at ep
            subst ey
            subst ep
            exact ⟨b, ns, rfl, e2, rfl⟩
          | succ i =>
            simp only [List.map_cons, List.getElem?_cons_succ] at ey ep
            exact r3 i y p ey ep
    obtain ⟨ys, rv, hy⟩ := tr idx im
    have yl : ys.length = kvs.length := by rw [hy.1, List.length_map]; exact il
    have nb := new_by_news (ho := .lst ys) (tk := tk3) I F F3 N3 lt fun e => ⟨by rw [yl]; exact z, _, c, rv, e⟩
    have pz : (idx.map fun i => kvs.getD i ([], .non)).Perm kvs := by
      have := pm.map fun i => kvs.getD i ([], V.non)
      rw [getD_range] at this
      exact this
    exact ⟨.ref D, _, nb.2, rfl, (q ys _ pz hy (List.pairwise_map.mpr pw)).at nb.1⟩
  have nD := N' (D, PySem.W.listOf vs.toArray 0) (List.mem_cons_self ..)
  by_cases h2 : vs.length < 2
  · refine sort_small (n := 0) nD.1 h2 ?_
    obtain ⟨c, hat⟩ := sortedHeap_at (vs := vs) (n := 0) (out := vs.toArray) nD.1
    have old : ∀ b u, b ≠ D → h'.get? b = some u → (sortedHeap h' D vs vs.toArray).get? b = some u := fun b u hb e => by
      rw [sortedHeap_old hb (Heap.lt_size e)]
      exact e
    have er : (List.range kvs.length).map (fun i => vs.getD i Value.none) = vs := by rw [← vl]; exact getD_range vs _
    refine fin (List.range kvs.length) _ c tk (List.Perm.refl _) (by
      rw [← vl]
      have : vs.length = 0 ∨ vs.length = 1 := by omega
      rcases this with z | z <;> rw [z] <;> simp) ⟨?_, fun b u e => old b u (fun y => by rw [y, nD.2.2] at e; cases e) (F'.keep b u e), F'.above⟩ (fun p hp => ?_)
    · obtain ⟨ob, es', ep', e1, e2⟩ := F'.ns
      exact ⟨ob, es', ep', old _ _ (Ne.symm nD.2.1) e1, e2⟩
    · rw [er] at hp
      rcases List.mem_cons.mp hp with rfl | hp
      · exact ⟨hat, nD.2⟩
      · have y := N' p (List.mem_cons_of_mem _ hp)
        exact ⟨old _ _ (Nat.ne_of_lt (lt p hp)) y.1, y.2⟩
  · have hd : ∀ q ∈ allNews X.base s.heap X.env.locals, q.1 ≠ D := fun q hq => Nat.ne_of_lt (lt q hq)
    refine PySem.W.kat_lsort (vs := vs) (its := vs.toArray) F' N' (.head hd) rfl (by omega) (by omega) fun e1 h4 F4 N4 => ?_
    have in4 : ∀ b xs, H b = some (.tup xs) → ∃ its : List Value, Vals xs its ∧ IsTup h4 b its.toArray := fun b xs e => by
      obtain ⟨_, its, rv, ob, ho, hc2⟩ := (show ObjOk X.prog X.w H s.heap b (.tup xs) from I.hok b _ e)
      refine ⟨its, rv, ob, ?_, hc2⟩
      cases y : X.base.get? b with
      | some u =>
        have y2 := I.bk b u y
        rw [ho] at y2
        cases y2
        exact F4.keep b _ y
      | none => exact (N4 (b, ob) (List.mem_cons_of_mem _ (mem_allNews (fun y2 => by rw [y2, I.free] at e; cases e) y ho))).1
    have tups : ∀ l : List Value, (∀ v ∈ l, v ∈ vs) → ∃ fs : List Value, PySem.W.KatTups h4 l fs ∧ fs.length = l.length ∧ ∀ f ∈ fs, ∃ n t, f = Value.int n t := by
      intro l
      induction l with
      | nil => exact fun _ => ⟨[], .nil, rfl, fun _ y => nomatch y⟩
      | cons v r ih =>
        intro hm
        obtain ⟨fs, t1, t2, t3⟩ := ih fun v' hv' => hm v' (List.mem_cons_of_mem _ hv')
        obtain ⟨j, hj, ev⟩ := List.getElem_of_mem (hm v (List.mem_cons_self ..))
        obtain ⟨b, ns, x, g1, g2, g3, g4⟩ := vtup j hj
        obtain ⟨its, rv, ob, ho, hc2, nn, hdt⟩ := in4 b _ g2
        match ns, g4, rv with
        | n :: nr, _, .cons (b := iv) (l₂ := ir) rr rt =>
          obtain ⟨tt, rfl⟩ := rr
          rw [← ev, g1]
          exact ⟨.int n tt :: fs, .cons ho hc2 hdt (by simp) t1, by simp [t2], fun f hf => (List.mem_cons.mp hf).elim (fun y => ⟨n, tt, y⟩) (t3 f)⟩
    obtain ⟨fs, t1, t2, t3⟩ := tups vs fun _ y => y
    refine PySem.W.kat_kind (T := .type "int") t1 (by omega) (fun f hf => ?_) (by decide) ?_
    · obtain ⟨n, t, rfl⟩ := t3 f hf
      exact PySem.W.Looks.of_pure rfl
    · refine wp_tru (n := vs.length) (P := fun q => Pm vs.length q ∧ Up (fun i j => lexI (kInts (kvs.getD i ([], .non)).1) (kInts (kvs.getD j ([], .non)).1)) q vs.length) (fun i j C hi hj hC => ?_) (fun p hp => ?_) (tru_sort O (by omega))
      · obtain ⟨b, ns, x, g1, g2, g3, _⟩ := vtup i hi
        obtain ⟨b', ns', x', g1', g2', g3', _⟩ := vtup j hj
        obtain ⟨its, rv, ob, ho, hc2, nn, hdt⟩ := in4 b _ g2
        obtain ⟨its', rv', ob', ho', hc2', nn', hdt'⟩ := in4 b' _ g2'
        unfold PySem.W.kas_ask
        rw [show vs.getD i Value.none = .ref b by rw [List.getD_eq_getElem?_getD, List.getElem?_eq_getElem hi, g1]; rfl, show vs.getD j Value.none = .ref b' by rw [List.getD_eq_getElem?_getD, List.getElem?_eq_getElem hj, g1']; rfl]
        rw [kvI _ _ _ g3, kvI _ _ _ g3'] at hC
        have i1 := intsAre_of rv
        have i2 := intsAre_of rv'
        refine PySem.W.kat_lt ho hdt ho' hdt' (lex_true i1 i2 ?_ 0)
        rw [List.size_toArray, List.size_toArray, ints_len i1, ints_len i2, lexG_is]
        exact hC
      · refine PySem.W.KasFin.intro F4 N4 (.head hd) fun h5 c F5 N5 => fin p.toList h5 c tk ?_ ?_ F5 N5
        · rw [← vl]
          exact hp.1
        · have sz := hp.1.size
          refine List.pairwise_iff_getElem.mpr fun a b ha hb hab => ?_
          have ha' : a < p.size := by simpa using ha
          have hb' : b < p.size := by simpa using hb
          have := hp.2 a b hab (by omega)
          simpa [Array.getD, ha', hb'] using this
end
end LwD

namespace LwD
open PySem PySem.Spec PyProof.Rows L2 Lw
theorem miss_keys : typeLookup (.type "tuple") "keys" = pure none := am_miss_of_fast (by decide +kernel)
theorem tup_hook : typeLookup (.type "tuple") "__getattr__" = pure none := by rw [typeLookup_type, builtinLookup_eq_fast]; kernel_rfl
section
variable {prog : Program} {w : World} {A : Around} {E : Value → Shared → Prop} {h : Heap} {g : Array GenState} {d : Drawn} {t : Nat} {os : OsState} {a : Addr} {o : Obj}
theorem keys_entry {tk : Tok} {Q : Fin → Shared → Prop} (hx : h.get? a = some o) (hc : o.cls = .type "tuple") (hd : o.dict = none) (n : Nat) (its : Array Value) (hs : o.data = .seq its n) (hh : A.handled = none)
    (hq : ∀ h' tk' e, Heap.NewAttrErr h h' e (.ref a) "keys" → E (.ref e) ⟨h', g, d, tk', os⟩) :
    wpAny (model prog w) A (Builtin.«object.__getattribute__» ⟨[.ref a, .str "keys" tk], []⟩) Q E ⟨h, g, d, t, os⟩ := by
  have hT : (⟨h, g, d, t, os⟩ : Shared).TypeIs (.ref a) "tuple" := ⟨_, hx, hc⟩
  have f4 := miss_keys
  obtain ⟨c, dd, dt, sl⟩ := o
  replace hc : c = .type "tuple" := hc
  replace hd : dd = none := hd
  replace hs : dt = .seq its n := hs
  subst hc hd hs
  unfold Builtin.«object.__getattribute__»
  repeat (any_goals (first | assumption | wp_step))
  exact wpAny_raiseAttrError hh hq (attrMsg_fits (by decide +kernel) (by size_fits))
theorem keys_call {tk : Tok} {R : Result → Shared → Prop} (hx : h.get? a = some o) (hc : o.cls = .type "tuple") (hd : o.dict = none) (n : Nat) (its : Array Value) (hs : o.data = .seq its n) (hh : A.handled = none)
    (hq : ∀ h' tk' e, Heap.NewAttrErr h h' e (.ref a) "keys" → R (.error (.ref e)) ⟨h', g, d, tk', os⟩) :
    codeAny (model prog w) A (.call (.builtin "tuple.__getattribute__") ⟨[.ref a, .str "keys" tk], []⟩) R ⟨h, g, d, t, os⟩ :=
  codeAny_call_builtin F.slot_tuple_getattribute.plain F.entry_tuple_ga (F.slot_tuple_getattribute.check _ _ _ _ _ _ _ _ (show (⟨h, g, d, t, os⟩ : Shared).TypeIs (.ref a) "tuple" from ⟨_, hx, hc⟩) (F.args_tuple_getattribute_2 _ _) (keys_entry hx hc hd n its hs (show A.in1.handled = none from hh) hq))
theorem keys_none {Q : Option Value → Shared → Prop} (hx : h.get? a = some o) (hc : o.cls = .type "tuple") (hd : o.dict = none) (n : Nat) (its : Array Value) (hs : o.data = .seq its n) (hh : A.handled = none)
    (hq : ∀ h' tk', (∀ b u, h.get? b = some u → h'.get? b = some u) → Q none ⟨h', g, d, tk', os⟩) : wpAny (model prog w) A (getAttr? (.ref a) "keys") Q E ⟨h, g, d, t, os⟩ := by
  have hT : (⟨h, g, d, t, os⟩ : Shared).TypeIs (.ref a) "tuple" := ⟨_, hx, hc⟩
  have f2 := F.slot_tuple_getattribute.lookup
  have f3 := F.slot_tuple_getattribute.bind (.ref a)
  have f1 := sub_AttributeError
  have kc := fun (A : Around) (t : Nat) (tk : Tok) (R : Result → Shared → Prop) (hh : A.handled = none) => keys_call (prog := prog) (w := w) (A := A) (g := g) (d := d) (t := t) (os := os) (tk := tk) (R := R) hx hc hd n its hs hh
  obtain ⟨c, dd, dt, sl⟩ := o
  replace hc : c = .type "tuple" := hc
  replace hd : dd = none := hd
  replace hs : dt = .seq its n := hs
  subst hc hd hs
  unfold getAttr? getAttrBy?
  repeat (any_goals (first | assumption | wp_step))
  refine kc _ _ _ _ hh fun h' tk' e ne => ?_
  obtain ⟨t', u', he⟩ := ne.there
  have f5 := tup_hook
  repeat (any_goals (first | assumption | wp_step))
  exact hq h' tk' ne.keeps
end
end LwD

namespace LwD
open PySem PySem.Spec PyProof.Rows L2 Lw
theorem loop_plain : plainId "dict.update.loop" = true := by decide +kernel
theorem loop_entry : entryFor table "dict.update.loop" = some Builtin.«dict.update.loop» := entryFor_of_tree (by kernel_rfl)
section
variable {prog : Program} {w : World} {A : Around} {E : Value → Shared → Prop}
noncomputable abbrev tkd (prog : Program) (w : World) := tupleKind (mixKind prog w)
noncomputable def PairAt (prog : Program) (w : World) (h : Heap) (v : Value) (x : List Key × Addr × Value) : Prop := ∃ r, v = .ref r ∧ IsTup h r #[.ref x.2.1, x.2.2] ∧ (tkd prog w).is h x.1 x.2.1
theorem PairAt.keep {h h' : Heap} {v : Value} {x : List Key × Addr × Value} (p : PairAt prog w h v x) (k : ∀ b u, h.get? b = some u → h'.get? b = some u) : PairAt prog w h' v x := by
  obtain ⟨r, e, ⟨o, h1, h2⟩, q, its, n, h3, h4⟩ := p
  exact ⟨r, e, ⟨o, k _ _ h1, h2⟩, q, its, n, k _ _ h3, h4⟩
noncomputable def puts (xs ps : List (List Key × Addr × Value)) : List (List Key × Addr × Value) := ps.foldl (fun acc x => storedH acc x.1 x.2.1 x.2.2) xs
theorem dh_ext {h h' : Heap} {d it t : Addr} {i : Nat} {xs : List (List Key × Addr × Value)} (D : h.DictOfH (tkd prog w) d xs) (I : h.IsTupleIter it t i) (hdi : d ≠ it) (k : ∀ b u, b ≠ it → h.get? b = some u → h'.get? b = some u) : h'.DictOfH (tkd prog w) d xs := by
  obtain ⟨o, es, ep, h1, h2, h3, h4, h5, h6⟩ := D
  refine ⟨o, es, ep, k _ _ hdi h1, h2, h3, h4, fun x hx => ?_, h6⟩
  obtain ⟨q, its, n, g1, g2, g3⟩ := h5 x hx
  refine ⟨q, its, n, k _ _ (fun e => ?_) g1, g2, g3⟩
  obtain ⟨u, u1, u2, _⟩ := I
  rw [e, u1] at g1
  cases g1
  rw [u2] at g2
  exact absurd g2 (by decide)
theorem stored_len (xs : List (List Key × Addr × Value)) (k : List Key) (a : Addr) (v : Value) : (storedH xs k a v).length ≤ xs.length + 1 := by
  unfold storedH
  split <;> simp
theorem dict_loop {Q : Shared → Prop} {h0 : Heap} {d it t : Addr} {items : Array Value} (hh : A.handled = none) (hu : A.units + 1 < cLine) (hd : h0.objs.size ≤ d) (hi : h0.objs.size ≤ it) (hdi : d ≠ it) (ht : h0.IsTuple t items) :
    ∀ (ps xs : List (List Key × Addr × Value)) (i : Nat) (tk : Tok) (s : Shared), (∀ j, Option.Rel (PairAt prog w h0) items[i + j]? ps[j]?) → xs.length + ps.length ≤ sizeLine → (∀ b u, h0.get? b = some u → s.heap.get? b = some u) → s.heap.DictOfH (tkd prog w) d xs → s.heap.IsTupleIter it t i →
      (∀ h' tk', (∀ b u, h0.get? b = some u → h'.get? b = some u) → h'.DictOfH (tkd prog w) d (puts xs ps) → Q { s with heap := h', toks := tk' }) →
      codeAny (model prog w) A (.builtin "dict.update.loop" ⟨[.ref d, .ref it, .int i tk, .none], []⟩) (wants (fun r s₂ => r = .none ∧ Q s₂) E) s := by
  intro ps
  induction ps with
  | nil =>
    intro xs i tk s hp hz hk hD hI q
    have hn : items[i]? = none := by have := hp 0; revert this; rw [Nat.add_zero]; cases items[i]? <;> intro z <;> cases z; rfl
    refine codeAny_builtin loop_entry ?_
    rw [Around.under_plainId loop_plain _]
    have ht' : s.heap.IsTuple t items := let ⟨o, ho, r⟩ := ht; ⟨o, hk _ _ ho, r⟩
    unfold Builtin.«dict.update.loop»
    refine wpAny_bind (wpAny_pyNext_tuple_end (A := A.in1) hh hI ht' hn fun h' hx => ?_)
    refine wpAny_pure ⟨rfl, q h' s.toks ?_ ?_⟩
    · exact fun b u e => hx b u (Nat.ne_of_lt (Nat.lt_of_lt_of_le (Heap.lt_size e) hi)) (hk b u e)
    · exact dh_ext hD hI hdi fun b u hb e => hx b u hb e
  | cons p ps ih =>
    intro xs i tk s hp hz hk hD hI q
    have hp0 := hp 0
    rw [Nat.add_zero] at hp0
    obtain ⟨v, hv, pa⟩ : ∃ v, items[i]? = some v ∧ PairAt prog w h0 v p := by
      revert hp0
      cases items[i]? with
      | none => intro z; cases z
      | some v => intro z; cases z with | some y => exact ⟨v, rfl, y⟩
    refine codeAny_builtin loop_entry ?_
    rw [Around.under_plainId loop_plain _]
    have ht' : s.heap.IsTuple t items := let ⟨o, ho, r⟩ := ht; ⟨o, hk _ _ ho, r⟩
    unfold Builtin.«dict.update.loop»
    refine wpAny_bind (wpAny_pyNext_tuple_item (A := A.in1) hI ht' hv fun h' hI' hs => ?_)
    have k1 : ∀ b u, h0.get? b = some u → h'.get? b = some u := fun b u e => (hs.2 b (Nat.ne_of_lt (Nat.lt_of_lt_of_le (Heap.lt_size e) hi))).trans (hk b u e)
    have D1 := dh_ext hD hI hdi fun b u hb e => (hs.2 b hb).trans e
    obtain ⟨r, rfl, tp, ky⟩ := pa.keep k1
    obtain ⟨o, ho, hc, n, hdt⟩ := id tp
    have hT : (⟨h', s.gens, s.drawn, s.toks, s.os⟩ : Shared).TypeIs (.ref r) "tuple" := ⟨o, ho, hc⟩
    unfold Builtin.Dict.pairItems
    dsimp only
    refine wpAny_bind (wpAny_holding (wpAny_bind (wpAny_tryCatch (wpAny_bind (wpAny_typeOf hT ?_)))))
    rw [if_pos (by decide)]
    unfold seqItems?
    refine wpAny_bind (wpAny_bind (wpAny_load ho ?_))
    rw [hdt]
    refine wpAny_pure ?_
    refine wpAny_pure (wpAny_holding ?_)
    refine wpAny_dictSet_heap (hsz := by simp only [List.length_cons] at hz; omega) (knd := tkd prog w) (tupleKind_room_in1 hu) ky D1 fun h2 D2 hs2 => ?_
    have nt : t ≠ d := fun e => by obtain ⟨u, hu, _⟩ := ht; exact absurd (Heap.lt_size hu) (by rw [e]; exact Nat.not_lt.mpr hd)
    refine wpAny_pure ⟨plainId_quiet loop_plain _, ?_⟩
    refine ih (storedH xs p.1 p.2.1 p.2.2) (i + 1) 0 _ (fun j => ?_) ?_ (fun b u e => ?_) D2 ?_ fun h3 tk3 k3 D3 => ?_
    · have := hp (j + 1)
      rw [List.getElem?_cons_succ] at this
      rw [show i + 1 + j = i + (j + 1) by omega]
      exact this
    · have := stored_len xs p.1 p.2.1 p.2.2
      simp only [List.length_cons] at hz
      omega
    · exact (hs2.2 b (Nat.ne_of_lt (Nat.lt_of_lt_of_le (Heap.lt_size e) hd))).trans (k1 b u e)
    · obtain ⟨u, u1, u2⟩ := hI'
      exact ⟨u, (hs2.2 it (Ne.symm hdi)).trans u1, u2⟩
    · exact q h3 tk3 k3 D3
end
section
variable {prog : Program} {w : World} {A : Around} {E : Value → Shared → Prop} {s : Shared}
theorem dict_tup {t : Addr} {o : Obj} {items : Array Value} {n : Nat} {ps : List (List Key × Addr × Value)} {Q : Value → Shared → Prop} (hh : A.handled = none) (hu : A.units + 2 < cLine) (ho : s.heap.get? t = some o) (hc : o.cls = .type "tuple") (hd : o.dict = none) (hs : o.data = .seq items n)
    (hp : ∀ j : Nat, Option.Rel (PairAt prog w s.heap) items[j]? ps[j]?) (hz : ps.length ≤ sizeLine)
    (q : ∀ h' tk', (∀ b u, s.heap.get? b = some u → h'.get? b = some u) → h'.DictOfH (tkd prog w) s.heap.objs.size (puts [] ps) → Q (.ref s.heap.objs.size) { s with heap := h', toks := tk' }) :
    wpAny (model prog w) A (call (.type "dict") [.ref t]) Q E s := by
  refine callType_codes (Q₁ := fun obj s₁ => obj = .ref s.heap.objs.size ∧ s₁ = { s with heap := s.heap.push { cls := .type "dict", data := .dict #[] } }) F.kt_called_dict (F.kt_typeCall_dict_1 _) F.entry_dict_init (kt_code_dict_new _ ⟨rfl, rfl⟩) ?_
  rintro obj s₁ ⟨rfl, rfl⟩
  have hT : (⟨s.heap.push { cls := .type "dict", data := .dict #[] }, s.gens, s.drawn, s.toks, s.os⟩ : Shared).TypeIs (.ref s.heap.objs.size) "dict" := ⟨_, Heap.get?_push_size _ rfl, rfl⟩
  have ho1 : (s.heap.push { cls := .type "dict", data := .dict #[] }).get? t = some o := Heap.get?_push_of_some _ ho
  have hT1 : (⟨s.heap.push { cls := .type "dict", data := .dict #[] }, s.gens, s.drawn, s.toks, s.os⟩ : Shared).TypeIs (.ref t) "tuple" := ⟨_, ho1, hc⟩
  refine ⟨hT, F.args_dict_init_2 _ _, ?_⟩
  unfold Builtin.«dict.__init__»
  refine wpAny_bind ?_
  unfold Builtin.Dict.selfAndRest
  refine wpAny_bind (wpAny_notOrdered_dict hT ?_)
  show wpAny _ _ (pure (s.heap.objs.size, [Value.ref t])) _ _ _
  refine wpAny_pure ?_
  show wpAny _ _ (Builtin.Dict.updateFrom "dict.__init__" s.heap.objs.size (.ref t) [] .none) _ _ _
  unfold Builtin.Dict.updateFrom
  refine wpAny_bind (wpAny_typeOf hT1 ?_)
  rw [if_pos (by decide)]
  refine wpAny_bind (keys_none ho1 hc hd n items hs hh fun h2 tk2 k2 => ?_)
  have kk : ∀ b u, s.heap.get? b = some u → h2.get? b = some u := fun b u e => k2 b u (Heap.get?_push_of_some _ e)
  have hi2 : h2.IsTuple t items := ⟨o, kk _ _ ho, hc, n, hs⟩
  have hd2 : h2.get? s.heap.objs.size = some { cls := .type "dict", data := .dict #[] } := k2 _ _ (Heap.get?_push_size _ rfl)
  have lt2 : s.heap.objs.size < h2.objs.size := Heap.lt_size hd2
  rw [if_pos (by decide)]
  refine wpAny_bind (wpAny_rule (wpAny_bind (wpAny_pyIter_tuple hi2 (wpAny_pure ⟨plainId_quiet loop_plain _, ?_⟩))))
  refine dict_loop (A := A.in1) (E := E) (Q := fun s₂ => Q (.ref s.heap.objs.size) s₂) (h0 := s.heap) (items := items) (t := t) hh hu (Nat.le_refl _) (Nat.le_of_lt lt2) (Nat.ne_of_lt lt2) ⟨o, ho, hc, n, hs⟩ ps [] 0 0 { s with heap := h2.push { cls := .type "tuple_iterator", data := .fields #[.ref t, .int 0 0] }, toks := tk2 } (fun j => ?_) (by simpa using hz) (fun b u e => ?_) ?_ ?_ fun h3 tk3 k3 D3 => q h3 tk3 k3 D3
  · rw [Nat.zero_add]; exact hp j
  · exact Heap.get?_push_of_some _ (kk b u e)
  · exact ⟨_, #[], 0, Heap.get?_push_of_some _ hd2, ⟨rfl, rfl, rfl⟩, rfl, rfl, (fun x hx => nomatch hx), List.nodup_nil⟩
  · exact ⟨_, Heap.get?_push_size _ rfl, rfl, rfl⟩
end
section
variable {X : Cx}
noncomputable def PairsIn (H : Hp) (ys : List V) (kvs : List (List Key × V)) : Prop := Paired (fun (y : V) (p : List Key × V) => ∃ r b, y = .ref r ∧ Rd H r (.tup [.ref b, p.2]) ∧ H b = some (.tup (p.1.map kV))) ys kvs
theorem puts_new : ∀ (ps xs : List (List Key × Addr × Value)), ((xs ++ ps).map (·.1)).Nodup → puts xs ps = xs ++ ps
  | [], xs, _ => (List.append_nil xs).symm
  | p :: ps, xs, h => by
    have hn : atKey xs p.1 = none := by
      refine atKey_none_of_get fun j q e => ?_
      rw [List.map_append, List.map_cons] at h
      exact (List.nodup_append.mp h).2.2 p.1 (List.mem_map.mpr ⟨_, List.mem_of_getElem? e, rfl⟩) p.1 (List.mem_cons_self ..) rfl
    show puts (storedH xs p.1 p.2.1 p.2.2) ps = _
    rw [storedH_new hn, puts_new ps _ (by rw [List.append_assoc]; exact h), List.append_assoc]
    rfl
noncomputable def rDictT : List V → Hp → VK → Prop := fun xs H Q => ∃ (t : Addr) (o : Obj) (ys : List V) (kvs : List (List Key × V)), xs = [.ref t] ∧ H t = some (.frz o (.tup ys)) ∧ o.dict = none ∧ PairsIn H ys kvs ∧ (kvs.map (·.1)).Nodup ∧ New H (.dT kvs) Q
theorem call_dictT (hc : X.calm = true) (hu : X.A.units + 2 < cLine) : CallR X (.type "dict") rDictT := by
  intro pins s σ H xs us Q I r h
  obtain ⟨t, o, ys, kvs, rfl, ht, hd, hp, hn, q⟩ := h
  obtain ⟨u, rfl, ru⟩ := vals1 r
  cases ru
  obtain ⟨ho, hz, its, rv, o', ho', hcl, n, hdt⟩ := (show ObjOk X.prog X.w H s.heap t (.frz o (.tup ys)) from I.hok t _ ht)
  rw [ho] at ho'
  cases ho'
  have key : ∀ (ys : List V) (its : List Value) (kvs : List (List Key × V)), Vals ys its → PairsIn H ys kvs → ∃ ps : List (List Key × Addr × Value), KT H kvs ps ∧ Paired (PairAt X.prog X.w s.heap) its ps := by
    intro ys its kvs rv hp
    induction hp generalizing its with
    | nil => cases rv; exact ⟨[], .nil, .nil⟩
    | @cons y p ys kvs h t ih =>
      cases rv with
      | cons r1 rt =>
        obtain ⟨ps, k1, k2⟩ := ih _ rt
        obtain ⟨r, b, rfl, e1, e2⟩ := h
        cases r1
        obtain ⟨_, il, rl, tp⟩ := (show ObjOk X.prog X.w H s.heap r (.tup [.ref b, p.2]) from e1.ok I.hok)
        cases rl with
        | cons a1 a2 => cases a2 with
          | cons b1 b2 =>
            cases b2
            cases a1
            rename_i vb
            exact ⟨(p.1, b, vb) :: ps, .cons ⟨rfl, e2, b1⟩ k1, .cons ⟨r, rfl, tp, key_of I.hok e2⟩ k2⟩
  obtain ⟨ps, k1, k2⟩ := key ys its kvs rv hp
  have lz : ps.length = its.length := (Paired.length k2).symm
  have lz2 : kvs.length = ps.length := Paired.length k1
  have lz3 := rv.length
  have hn2 : (ps.map (·.1)).Nodup := by
    have : kvs.map (·.1) = ps.map (·.1) := KTkeys k1
    rw [← this]
    exact hn
  refine dict_tup (ps := ps) (I.ok.hd hc) hu ho hcl hd hdt (fun j => ?_) (by omega) fun h' tk' kk D => ?_
  · have pr : ∀ (l : List Value) (m : List (List Key × Addr × Value)), Paired (PairAt X.prog X.w s.heap) l m → ∀ j : Nat, Option.Rel (PairAt X.prog X.w s.heap) l[j]? m[j]? := by
      intro l m h
      induction h with
      | nil => intro j; exact .none
      | cons a b ih => intro j; cases j with
        | zero => exact .some a
        | succ j => exact ih j
    simpa using pr its ps k2 j
  · rw [puts_new ps [] (by simpa using hn2), List.nil_append] at D
    obtain ⟨ob, es, ep, g1, g2, g3, g4, _, g5⟩ := D
    refine ⟨.ref s.heap.objs.size, _, I.laid (a := s.heap.objs.size) (o := .dT kvs) kk (Nat.le_refl _) ⟨by omega, beq_eq_false_iff_ne.mpr (Ne.symm (Nat.ne_of_lt I.big)), ps, (KT.keeps k1 fun c ys e => ?_), ob, es, ep, g1, g2, g3, g4, g5⟩, rfl, q.at (I.hok.fresh (Nat.le_refl _))⟩
    rw [upd_ne (fun z => by rw [z, I.hok.fresh (Nat.le_refl _)] at e; cases e)]
    exact e
end
end LwD

namespace LwD
open PySem PySem.Spec PyProof.Rows L2 Lw
section
variable {prog : Program} {w : World} {A : Around} {E : Value → Shared → Prop} {s : Shared}
end
section
variable {X : Cx}
end
end LwD

namespace LwD
open PySem PySem.Spec PyProof.Rows L2 Lw
section
variable {prog : Program} {w : World} {A : Around} {E : Value → Shared → Prop} {s : Shared}
theorem same_empty {nm : String} {a b : Addr} {xs : List (List Key × Addr × Value)} {Q : Bool → Shared → Prop} (ha : (a == sysModules) = false) (hb : (b == sysModules) = false)
    (da : s.heap.DictOfH (tkd prog w) a xs) (db : s.heap.DictOfH (tkd prog w) b []) (h : Q (xs.isEmpty) s) : wpAny (model prog w) A (Builtin.Dict.samePairs nm a b) Q E s := by
  obtain ⟨od, esd, epd, hod, hcd, hdd, hed, hid, hnd⟩ := id db
  obtain ⟨oo, eso, epo, hoo, hco, hdo', heo, hio, hno⟩ := id da
  have d0 : esd = #[] := by simpa using hed
  subst d0
  have lz : eso.size = xs.length := size_of_entries heo
  unfold Builtin.Dict.samePairs
  unfold Builtin.Dict.showsAll
  rw [if_neg (by rw [ha]; exact Bool.false_ne_true), if_neg (by rw [hb]; exact Bool.false_ne_true)]
  refine wpAny_bind (wpAny_pure (wpAny_bind (wpAny_pure ?_)))
  refine wpAny_bind (wpAny_dictEntries hoo hdo' ?_)
  refine wpAny_bind (wpAny_dictEntries hod hdd ?_)
  by_cases he : xs = []
  · subst he
    have e0 : eso = #[] := by simpa using heo
    subst e0
    rw [if_neg (by simp)]
    refine wpAny_bind (wpAny_dictEpoch hoo hdo' ?_)
    refine wpAny_bind ?_
    rw [Std.Legacy.Range.forIn_eq_forIn_range']
    refine wpAny_pure ?_
    exact wpAny_pure h
  · rw [if_pos (by
      have : eso.size ≠ 0 := fun z => he (List.length_eq_zero_iff.mp (by omega))
      simpa using this)]
    refine wpAny_bind (wpAny_rule ?_)
    have : xs.isEmpty = false := by cases xs with | nil => exact absurd rfl he | cons x r => rfl
    rw [this] at h
    exact wpAny_pure h
theorem dict_ty {h1 : Heap} {a : Addr} {ys : List (List Key × Addr × Value)} {g : Array GenState} {d : Drawn} {t : Nat} {os : OsState} (D : h1.DictOfH (tkd prog w) a ys) : (⟨h1, g, d, t, os⟩ : Shared).TypeIs (.ref a) "dict" := let ⟨q, _, _, g1, g2, _⟩ := D; ⟨q, g1, g2.1⟩
theorem eq_empty {a b : Addr} {xs : List (List Key × Addr × Value)} {Q : Value → Shared → Prop} (ha : (a == sysModules) = false) (hb : (b == sysModules) = false)
    (da : s.heap.DictOfH (tkd prog w) a xs) (db : s.heap.DictOfH (tkd prog w) b []) (hu : A.units < cLine) (h : Q (.bool xs.isEmpty) s) :
    wpAny (model prog w) A (compareOp .Eq (.ref a) (.ref b)) Q E s := by
  have ta : s.TypeIs (.ref a) "dict" := dict_ty da
  have tb : s.TypeIs (.ref b) "dict" := dict_ty db
  refine wpAny_richCompare_same_room (op := .Eq) ta tb PySem.F.slot_dict_eq (wpAny_call_entry PySem.F.slot_dict_eq ta PySem.F.entry_dict_eq ?_ (PySem.F.args_dict_eq_2 _ _)) hu
  show wpAny _ _ (Builtin.Dict.dictSlotArgs "__eq__" ⟨[.ref a, .ref b], []⟩ >>= _) _ _ s
  refine wpAny_bind ?_
  unfold Builtin.Dict.dictSlotArgs
  refine wpAny_bind (wpAny_notOrdered_dict ta ?_)
  show wpAny _ _ (pure (Value.ref a, Value.ref b)) _ _ s
  refine wpAny_pure ?_
  refine wpAny_bind (wpAny_isInstance (T := "dict") tb PySem.F.sub_dict_dict ?_)
  simp only [Bool.not_true, Bool.false_eq_true, if_false]
  refine wpAny_bind (wpAny_pure (wpAny_bind (wpAny_pure ?_)))
  refine wpAny_bind (same_empty ha hb da db ?_)
  refine wpAny_pure ⟨_, rfl, ?_, ?_⟩
  · exact fun x => nomatch x
  · simpa using h
end
section
variable {X : Cx}
noncomputable def rEqE : R2 := fun x y H Q => ∃ (a b : Addr) (kvs : List (List Key × V)), x = .ref a ∧ y = .ref b ∧ Rd H a (.dT kvs) ∧ Rd H b (.dT []) ∧ Q (.bl kvs.isEmpty) H
theorem op_eqE (hu : X.A.units < cLine) : OpR X (compareOp .Eq) rEqE := by
  intro pins s σ H x y v u Q I rx ry h
  obtain ⟨a, b, kvs, rfl, rfl, ha, hb, q⟩ := h
  cases rx
  cases ry
  obtain ⟨_, lo, ks, rel, dd⟩ := dt_rd I.hok ha
  obtain ⟨_, lo', ks', rel', dd'⟩ := dt_rd I.hok hb
  cases rel'
  refine eq_empty lo lo' dd dd' hu ⟨.bl kvs.isEmpty, H, I, ?_, q⟩
  have : ks.isEmpty = kvs.isEmpty := by cases rel <;> rfl
  rw [this]
  rfl
end
end LwD

namespace LwD
open PySem PySem.Spec PyProof.Rows L2 Lw
section
variable {X : Cx} {k v : Expr} {tk tv : TE} {pos : Pos}
end
end LwD

namespace L2
open PySem PySem.Spec PyProof.Rows
noncomputable def Itel (K : PySem.W.Frag) (a : Addr) : It :=
  ⟨fun i H => ∃ xs x, SqL K H a xs ∧ xs[i]? = some x,
   fun i H v H' => ∃ p x, H p = none ∧ v = .ref p ∧ H' = upd H p (.tup [.int i, x]) ∧ (∀ xs, SqL K H a xs → xs[i]? = some x),
   fun i H => ∃ xs, SqL K H a xs ∧ xs.length ≤ i⟩
theorem turn_enumL {P : Program} {w : World} {K : PySem.W.Frag} {es : List Expr} {x1} {pos : Pos} (l : Addr) {e it : Addr} (hne : e ≠ it) : Turn P w K (.Tuple es x1 pos) (Itel K l) [e, it] e (fun i h => (∃ old, IsEnum h e it i old) ∧ h.IsListIter it l i) where
  mem := by simp
  obj := fun i h Z b hb => by
    simp only [List.mem_cons, List.not_mem_nil, or_false] at hb
    obtain ⟨⟨old, he⟩, ⟨o1, g1, c1, d1⟩⟩ := Z
    rcases hb with rfl | rfl
    · exact ⟨_, he, fun v q => by cases (show Data.fields _ = Data.cell v from q)⟩
    · exact ⟨_, g1, fun v q => by rw [d1] at q; cases q⟩
  keep := fun i h h' Z k => by
    obtain ⟨⟨old, he⟩, s1⟩ := Z
    exact ⟨⟨old, k e (by simp) _ he⟩, Heap.IsListIter.at s1 fun o y => k it (by simp) o y⟩
  item := by
    intro X hP hw hK hc i pins s σ H E I hf Z hg
    subst hP hw hK
    obtain ⟨xs, x, q1, hx⟩ := hg
    obtain ⟨its1, r1, p1, _⟩ := I.list q1
    obtain ⟨u1, hu1, ru1⟩ := r1.get hx
    obtain ⟨⟨old, he⟩, hit⟩ := id Z
    have ae : l ≠ e := FpOk.apartL I (hf e (by simp)) q1
    have ai : l ≠ it := FpOk.apartL I (hf it (by simp)) q1
    refine wpAny_pyNext_enum_item he hit p1.isList (x := u1) (by simpa using hu1) hne fun g out n1 nu _ kk => ⟨_, rfl, ?_⟩
    refine wpAny_letOwnedTupleGo_enum out fun g2 z2 sb => ?_
    have fr : H s.heap.objs.size = none := I.hok.fresh (Nat.le_refl _)
    have el : e < s.heap.objs.size := Heap.lt_size he
    have il : it < s.heap.objs.size := by obtain ⟨_, y, _⟩ := hit; exact Heap.lt_size y
    have fp : ∀ b ∈ [e, it], FpOk X pins (upd H s.heap.objs.size (.tup [.int i, x])) b := fun b hb => by
      have lt : b ≠ s.heap.objs.size := by
        simp only [List.mem_cons, List.not_mem_nil, or_false] at hb
        rcases hb with rfl | rfl
        · exact Nat.ne_of_lt el
        · exact Nat.ne_of_lt il
      exact ⟨by rw [upd_ne lt]; exact (hf b hb).1, (hf b hb).2⟩
    have I1 : Inv X pins σ (upd H s.heap.objs.size (.tup [.int i, x])) { s with heap := s.heap.push { cls := .type "tuple", data := .seq #[.int i s.toks, u1] } } := I.laid (t' := s.toks) (fun b u e => Heap.get?_push_of_some _ e) (Nat.le_refl _) ⟨by simp [sizeLine], [.int i s.toks, u1], .cons ⟨_, rfl⟩ (.cons ru1 .nil), ⟨_, Heap.get?_push_size _ rfl, rfl, _, rfl⟩⟩
    have up : ∀ c o, c ≠ e → g.get? c = some o → g2.get? c = some o := fun c o cz y => sb.extBut _ _ cz y
    have I2 : Inv X pins σ (upd H s.heap.objs.size (.tup [.int i, x])) { s with heap := g2, toks := s.toks + 1 } := by
      refine Inv.turnedL (s := { s with heap := s.heap.push { cls := .type "tuple", data := .seq #[.int i s.toks, u1] } }) (h' := g2) (t' := s.toks + 1) I1 fp fun b o hb y => ?_
      simp only [List.mem_cons, List.not_mem_nil, or_false, not_or] at hb
      rcases Heap.get?_push_cases y with ⟨e1, e2⟩ | e1
      · rw [e1, e2]
        exact up _ _ (Nat.ne_of_gt el) nu
      · exact up _ _ hb.1 (kk b o hb.1 hb.2 e1)
    exact ⟨.ref s.heap.objs.size, _, I2, rfl, ⟨_, x, fr, rfl, rfl, fun xs' h => by rw [I.list_inj h q1]; exact hx⟩, ⟨⟨_, by simpa using z2⟩, Heap.IsListIter.at n1 fun o y => up _ o (Ne.symm hne) y⟩, fun b hb => (fp b hb).1⟩
  done := by
    intro X hP hw hK hc i pins s σ H E I hf Z hg
    subst hP hw hK
    obtain ⟨xs, q1, hl⟩ := hg
    obtain ⟨its1, r1, p1, _⟩ := I.list q1
    obtain ⟨⟨old, he⟩, hit⟩ := id Z
    have e1 := r1.length
    refine wpAny_pyNext_enum_end (I.ok.hd hc) he hit p1.isList (by simp; omega) fun g eb => ⟨rfl, Inv.turnedL (t' := s.toks) I hf fun b o hb y => eb b o (fun z => hb (by simp [z])) y⟩
  self := fun _ _ _ _ _ Z h => by
    obtain ⟨⟨old, he⟩, _⟩ := Z
    exact wpAny_pyIter_enum he h
section
variable {X : Cx}
noncomputable def iEnumL (K : PySem.W.Frag) (ta : TA) : TI := fun σ H R => ta σ H fun vs H1 => ∃ a, vs = [.ref a] ∧ (∃ xs, SqL K H1 a xs) ∧ R (Itel K a) H1
theorem pi_enumL {es : List Expr} {x1} {tp : Pos} {a : Expr} {ta : TA} {p pos : Pos} (hg : Gl X "enumerate") (hm : X.mg "enumerate" = none) (ha : PA X [a] ta) (hs : starEach [a] X.env = [(false, eval a X.env)] := by rfl) :
    PI X (.Tuple es x1 tp) (.Call (.Name "enumerate" p) [a] [] pos) (iEnumL X.K ta) := by
  intro pins s σ H R I h
  refine Call_ (ld_blt I hg hm (show bootBuiltins "enumerate" = some (.type "enumerate") by decide +kernel) (PyProof.Rows.callWith_type1 (thn (ha pos pins s σ H _ I h) fun us s1 ⟨vs, H1, I1, r1, q1⟩ => ?_) hs rfl))
  obtain ⟨l1, e, ⟨xs, q1⟩, q⟩ := q1
  subst e
  obtain ⟨u, rfl, ru⟩ := vals1 r1
  cases ru
  obtain ⟨its1, _, p1, _⟩ := I1.list q1
  refine call_enumerate_list p1.isList fun g he hit _ k => wpAny_pyIter_enum he ?_
  refine ⟨_, [s1.heap.objs.size + 1, s1.heap.objs.size], _, _, H1, rfl, I1.kept (t' := s1.toks) k, turn_enumL l1 (Nat.ne_of_gt (Nat.lt_succ_self _)), ⟨⟨_, he⟩, hit⟩, fun b hb => ?_, q⟩
  have hb' : s1.heap.objs.size ≤ b := by
    simp only [List.mem_cons, List.not_mem_nil, or_false] at hb
    rcases hb with rfl | rfl <;> first | exact Nat.le_add_right _ _ | exact Nat.le_refl _
  exact I1.fpOk hb' (I1.hok.fresh hb')
end
theorem for_enumL {K : PySem.W.Frag} {a : Addr} {xs : List V} {g : TG} {tb : TS} {D : Ends} {σ : St} {H : Hp} (Pv : Nat → St → Hp → Prop) (h0 : Pv 0 σ H) (hl : ∀ i σ H, i ≤ xs.length → Pv i σ H → SqL K H a xs)
    (hs : ∀ i x p σ H, xs[i]? = some x → H p = none → Pv i σ H → g (.ref p) σ (upd H p (.tup [.int i, x])) fun σ2 H2 => tb { D with nx := Pv (i + 1), ct := Pv (i + 1), bk := D.nx } σ2 H2) (hd : ∀ σ H, Pv xs.length σ H → D.nx σ H) :
    ∃ W : Nat → Nat → St → Hp → Prop, (∃ m, W 0 m σ H) ∧ ∀ i m σ H, W i m σ H →
      ((Itel K a).stop i H ∧ D.nx σ H) ∨ ((Itel K a).go i H ∧ ∃ N : St → Hp → Prop, (∀ σ' H', N σ' H' → ∃ m', m' < m ∧ W (i + 1) m' σ' H') ∧ ∀ x H', (Itel K a).yld i H x H' → g x σ H' fun σ2 H2 => tb { D with nx := N, ct := N, bk := D.nx } σ2 H2) := by
  refine ⟨fun i m σ H => m = xs.length - i ∧ i ≤ xs.length ∧ Pv i σ H, ⟨xs.length, by simp, Nat.zero_le _, h0⟩, ?_⟩
  rintro i m σ H ⟨rfl, hi, p⟩
  have q := hl i σ H hi p
  by_cases hlt : i < xs.length
  · refine .inr ⟨⟨xs, xs[i], q, by simp [hlt]⟩, Pv (i + 1), fun σ' H' p' => ⟨xs.length - (i + 1), by omega, rfl, hlt, p'⟩, fun v H' y => ?_⟩
    obtain ⟨r, x, hr, rfl, rfl, hx⟩ := y
    exact hs i x r σ H (hx xs q) hr p
  · have ei : i = xs.length := by omega
    subst ei
    exact .inl ⟨⟨xs, q, Nat.le_refl _⟩, hd σ H p⟩
end L2

namespace L2
open PySem PySem.Spec PyProof.Rows
section
variable {prog : Program} {w : World} {A : Around} {E : Value → Shared → Prop} {s : Shared}
theorem sub_ri_reversed : isSubtype (.type "range_iterator") (.type "reversed") = pure false := by rw [isSubtype_type]; kernel_rfl
end
section
variable {X : Cx} {tg : Expr}
end
end L2

namespace Lw
open PySem PySem.Spec PyProof.Rows L2
section
variable {prog : Program} {w : World} {A : Around} {R : Result → Shared → Prop} {s : Shared}
end
section
variable {X : Cx}
end
end Lw

namespace L2
open PySem PySem.Spec PyProof.Rows Lw
section
variable {X : Cx} {pos : Pos}
theorem reverse_valsL : ∀ {xs : List V} {us : List Value}, Vals xs us → Vals xs.reverse us.reverse
  | _, _, .nil => .nil
  | _, _, .cons h t => by rw [List.reverse_cons, List.reverse_cons]; exact (reverse_valsL t).append (.cons h .nil)
noncomputable def tBackL (K : PySem.W.Frag) (te : TE) (ts : TO) : TE := fun σ H Q => te σ H fun x H1 => ts σ H1 fun o H2 => o = some (-1) ∧ ∃ a xs, x = .ref a ∧ SqL K H2 a xs ∧ New H2 (.lst xs.reverse) Q
theorem pe_backL {e st : Expr} {te : TE} {ts : TO} {p2 : Pos} (he : PE X e te) (hs : PO X (some st) ts) : PE X (.Subscript e (.Slice none none (some st) p2) pos) (tBackL X.K te ts) := by
  intro pins s σ H Q I h
  refine Subscript_ (thn (he pins s σ H _ I h) fun v s1 ⟨x, H1, I1, r1, q1⟩ => ?_)
  refine wpAny_Slice ?_
  rw [evalPart_none]
  refine wpAny_pure (wpAny_pure (thn (hs pins s1 σ H1 _ I1 q1) fun vs s2 ⟨o, H2, I2, po, eo, a, xs, ex, hx, q⟩ => ?_))
  subst eo ex
  cases r1
  cases po with
  | int i u =>
  have I3 : Inv X pins σ H2 { s2 with heap := s2.heap.push { cls := .type "slice", data := .fields #[.none, .none, .int (-1) u] } } := I2.kept (t' := s2.toks) fun b ob q => Heap.get?_push_of_some _ q
  obtain ⟨its, r, ht, hz⟩ := I3.list hx
  have hl : its.toArray.size = xs.length := by rw [List.size_toArray]; exact r.length.symm
  show wpAny (model X.prog X.w) X.A (subscriptTail e (.Slice none none (some st) p2) (.ref a) (.ref s2.heap.objs.size)) (EP X pins σ Q) X.xe { s2 with heap := s2.heap.push { cls := .type "slice", data := .fields #[.none, .none, .int (-1) u] } }
  refine tail_any (ops := [.ref a, .ref s2.heap.objs.size]) ht.isList.typeIs slot_list_getitem.lookup ?_ (by with_unfolding_all rfl)
  refine wpAny_getItem_list_slice ht.isList (Heap.IsSliceOf.new ..) .none .none (.int (-1) u) (by decide) ?_ (by rw [hl]; exact hz)
  rw [PySem.W.krv_pick]
  have n := I3.hok.fresh (Nat.le_refl (s2.heap.push { cls := .type "slice", data := .fields #[.none, .none, .int (-1) u] }).objs.size)
  refine ⟨.ref _, _, I3.laid (t' := s2.toks) (o := .lst xs.reverse) (fun b ob q => Heap.get?_push_of_some _ q) (Nat.le_refl _) ?_, rfl, q _ _ n (Lw.same_upd _ n) upd_same⟩
  exact ⟨by rw [List.length_reverse]; exact hz, _, 0, reverse_valsL r, Heap.get?_push_size _ rfl⟩
end
section
variable {prog : Program} {w : World} {A : Around} {E : Value → Shared → Prop} {s : Shared}
theorem drawL {it l : Addr} {items : Array Value} (ne : l ≠ it) : ∀ (n i : Nat) (s : Shared) (Q : List Value → Shared → Prop), s.heap.IsListIter it l i → s.heap.IsList l items → i + n ≤ items.size →
    (∀ g, g.IsListIter it l (i + n) → Heap.SameBut it s.heap g → Q ((items.toList.drop i).take n) { s with heap := g }) → wpAny (model prog w) A (draw (.ref it) n) Q E s
  | 0, i, s, Q, h1, _, _, q => by
    show wpAny _ _ (pure []) Q E s
    exact wpAny_pure (by simpa using q s.heap h1 (Heap.SameBut.refl ..))
  | n + 1, i, s, Q, h1, h2, le, q => by
    have lt : i < items.size := by omega
    show wpAny _ _ (pyNext (.ref it) >>= _) Q E s
    refine wpAny_bind (wpAny_pyNext_list_item h1 h2 (x := items[i]) (by simp [lt]) fun g1 k1 b1 => ?_)
    refine wpAny_bind (wpAny_holding (drawL ne n (i + 1) _ _ k1 (h2.extBut b1.extBut ne) (by omega) fun g2 k2 b2 => wpAny_pure ?_))
    have e : items.toList.drop i = items[i] :: items.toList.drop (i + 1) := by simp [List.drop_eq_getElem_cons, lt]
    have := q g2 (by rw [show i + (n + 1) = i + 1 + n by omega]; exact k2) (b1.trans b2)
    rw [e, List.take_succ_cons] at this
    exact this
theorem unpackL {l : Addr} {items : Array Value} {Q : List Value → Shared → Prop} (hh : A.handled = none) (hl : s.heap.IsList l items)
    (q : ∀ g, Heap.ExtBut s.heap.objs.size s.heap g → Q items.toList { s with heap := g }) : wpAny (model prog w) A (unpackItems (.ref l) items.size none) Q E s := by
  have lt : l ≠ s.heap.objs.size := by obtain ⟨o, ho, _⟩ := hl; exact Nat.ne_of_lt (Heap.lt_size ho)
  unfold unpackItems
  refine wpAny_bind ?_
  unfold notIterableAtAll
  refine wpAny_bind (wpAny_specialOf hl.typeIs slot_list_iter.lookup (wpAny_pure ?_))
  simp only [Bool.false_eq_true, if_false]
  refine wpAny_bind (wpAny_holding (wpAny_pyIter_list hl ?_))
  refine wpAny_bind (wpAny_holding (drawL lt items.size 0 _ _ ⟨_, Heap.get?_push_size _ rfl, rfl, rfl⟩ (Heap.IsList.push hl _) (by omega) fun g1 k1 b1 => ?_))
  rw [show List.take items.size (List.drop 0 items.toList) = items.toList by rw [List.drop_zero]; exact List.take_of_length_le (by simp), if_neg (by simp)]
  have h1 : g1.IsList l items := Heap.IsList.extBut (Heap.IsList.push hl _) b1.extBut lt
  refine wpAny_bind (wpAny_holding (wpAny_pyNext_list_end hh k1 h1 (by simp) fun g2 b2 => ?_))
  simp only [Option.isSome_none, Bool.false_eq_true, if_false]
  exact wpAny_pure (q g2 fun b o hb e => b2 b o hb (b1.extBut b o hb (Heap.get?_push_of_some _ e)))
end
section
variable {X : Cx} {pos : Pos}
noncomputable def gTupL (K : PySem.W.Frag) (n : Nat) (t : TGs) : TG := fun v σ H Q => ∃ a xs, v = .ref a ∧ SqL K H a xs ∧ xs.length = n ∧ t xs σ H Q
theorem pg_tupL {es : List Expr} {k : Nat} {t : TGs} {n : Nat} (hc : X.calm = true) (h : PGs X es t)
    (hn : (assignEach es X.env).length = n := by rfl) (hst : (assignEach es X.env).findIdx? (·.1) = none := by rfl) : PG X (.Tuple es k pos) (gTupL X.K n t) := by
  intro pins s σ H v u Q I r hw
  obtain ⟨a, xs, e1, hq, hl, hw⟩ := hw
  subst e1
  cases r
  obtain ⟨its, rv, ht, hz⟩ := I.list hq
  rw [PyProof.Rows.assign_Tuple]
  refine wpAny_bind (wpAny_standAt ?_)
  unfold unpack
  rw [show (assignEach es X.env).length = its.toArray.size by simp [hn, ← hl, rv.length], hst]
  refine wpAny_bind (wpAny_holding (unpackL (I.ok.hd hc) ht.isList fun h' hx => ?_))
  have I1 : Inv X pins σ H { s with heap := h' } := I.kept (t' := s.toks) fun b o e => hx b o (Nat.ne_of_lt (Heap.lt_size e)) e
  exact h pins _ σ H xs _ Q I1 (by simpa using rv) hw
end
structure ZL (z TI TO i1 i2 l1 l2 : Addr) (k : Nat) (h : Heap) : Prop where
  zz : IsZip h z TI TO .none
  ti : IsPair h TI (.ref i1) (.ref i2)
  to : ∃ a b, IsPair h TO a b
  one : h.IsListIter i1 l1 k
  two : h.IsListIter i2 l2 k
noncomputable def ItzL (K : PySem.W.Frag) (a b : Addr) : It :=
  ⟨fun i H => ∃ xs ys x y, SqL K H a xs ∧ SqL K H b ys ∧ xs[i]? = some x ∧ ys[i]? = some y,
   fun i H v H' => ∃ p x y, H p = none ∧ v = .ref p ∧ H' = upd H p (.tup [x, y]) ∧ (∀ xs, SqL K H a xs → xs[i]? = some x) ∧ (∀ ys, SqL K H b ys → ys[i]? = some y),
   fun i H => ∃ xs ys, SqL K H a xs ∧ SqL K H b ys ∧ (xs.length ≤ i ∨ ys.length ≤ i)⟩
theorem turn_zipL {P : Program} {w : World} {K : PySem.W.Frag} {es : List Expr} {x1} {pos : Pos} (l1 l2 : Addr) {z TI TO i1 i2 : Addr} (F : Five z TI TO i1 i2) : Turn P w K (.Tuple es x1 pos) (ItzL K l1 l2) [z, TI, TO, i1, i2] z (fun i h => ZL z TI TO i1 i2 l1 l2 i h) where
  mem := by simp
  obj := fun i h Z b hb => by
    simp only [List.mem_cons, List.not_mem_nil, or_false] at hb
    obtain ⟨hz, hti, ⟨a, c, hto⟩, ⟨o1, g1, c1, d1⟩, ⟨o2, g2, c2, d2⟩⟩ := Z
    rcases hb with rfl | rfl | rfl | rfl | rfl
    · exact ⟨_, hz, fun v q => by cases (show Data.fields _ = Data.cell v from q)⟩
    · exact ⟨_, hti, fun v q => by cases (show Data.seq _ _ = Data.cell v from q)⟩
    · exact ⟨_, hto, fun v q => by cases (show Data.seq _ _ = Data.cell v from q)⟩
    · exact ⟨_, g1, fun v q => by rw [d1] at q; cases q⟩
    · exact ⟨_, g2, fun v q => by rw [d2] at q; cases q⟩
  keep := fun i h h' Z k => by
    obtain ⟨hz, hti, ⟨a, c, hto⟩, s1, s2⟩ := Z
    exact ⟨k z (by simp) _ hz, k TI (by simp) _ hti, ⟨a, c, k TO (by simp) _ hto⟩, s1.at fun o e => k i1 (by simp) o e, s2.at fun o e => k i2 (by simp) o e⟩
  item := by
    intro X hP hw hK hc i pins s σ H E I hf Z hg
    subst hP hw hK
    obtain ⟨xs, ys, x, y, q1, q2, hx, hy⟩ := hg
    obtain ⟨its1, r1, p1, _⟩ := I.list q1
    obtain ⟨its2, r2, p2, _⟩ := I.list q2
    obtain ⟨u1, hu1, ru1⟩ := r1.get hx
    obtain ⟨u2, hu2, ru2⟩ := r2.get hy
    have D := F.of (fun b hb => FpOk.apartL I (hf b hb) q1) (fun b hb => FpOk.apartL I (hf b hb) q2)
    obtain ⟨a0, b0, hto⟩ := Z.to
    refine wpAny_pyNext_zip_item D Z.zz Z.ti hto Z.one Z.two p1.isList p2.isList (x := u1) (y := u2) (by simpa using hu1) (by simpa using hu2) fun g z1 to1 n1 n2 nu _ kk => ⟨_, rfl, ?_⟩
    refine wpAny_letOwnedTupleGo_zip z1 fun g2 z2 sb => ?_
    have fr : H s.heap.objs.size = none := I.hok.fresh (Nat.le_refl _)
    have fp : ∀ b ∈ [z, TI, TO, i1, i2], FpOk X pins (upd H s.heap.objs.size (.tup [x, y])) b := fun b hb => by
      have lt : b ≠ s.heap.objs.size := by
        simp only [List.mem_cons, List.not_mem_nil, or_false] at hb
        obtain ⟨hz, hti, ⟨a, c, hto⟩, ⟨o1, g1, _⟩, ⟨o2, g2, _⟩⟩ := Z
        rcases hb with rfl | rfl | rfl | rfl | rfl
        · exact Nat.ne_of_lt (Heap.lt_size hz)
        · exact Nat.ne_of_lt (Heap.lt_size hti)
        · exact Nat.ne_of_lt (Heap.lt_size hto)
        · exact Nat.ne_of_lt (Heap.lt_size g1)
        · exact Nat.ne_of_lt (Heap.lt_size g2)
      exact ⟨by rw [upd_ne lt]; exact (hf b hb).1, (hf b hb).2⟩
    have I1 : Inv X pins σ (upd H s.heap.objs.size (.tup [x, y])) { s with heap := s.heap.push { cls := .type "tuple", data := .seq #[u1, u2] } } := I.laid (t' := s.toks) (fun b u e => Heap.get?_push_of_some _ e) (Nat.le_refl _) ⟨by simp [sizeLine], [u1, u2], .cons ru1 (.cons ru2 .nil), ⟨_, Heap.get?_push_size _ rfl, rfl, _, rfl⟩⟩
    have up : ∀ c o, c ≠ z → g.get? c = some o → g2.get? c = some o := fun c o cz e => sb.extBut _ _ cz e
    have zs : z ≠ s.heap.objs.size := Nat.ne_of_lt (Heap.lt_size Z.zz)
    have I2 : Inv X pins σ (upd H s.heap.objs.size (.tup [x, y])) { s with heap := g2 } := by
      refine Inv.turnedL (s := { s with heap := s.heap.push { cls := .type "tuple", data := .seq #[u1, u2] } }) (h' := g2) (t' := s.toks) I1 fp fun b o hb e => ?_
      simp only [List.mem_cons, List.not_mem_nil, or_false, not_or] at hb
      rcases Heap.get?_push_cases e with ⟨e1, e2⟩ | e1
      · rw [e1, e2]
        exact up _ _ (Ne.symm zs) nu
      · exact up _ _ hb.1 (kk b o hb.1 hb.2.2.1 hb.2.2.2.1 hb.2.2.2.2 e1)
    exact ⟨.ref s.heap.objs.size, _, I2, rfl, ⟨_, x, y, fr, rfl, rfl, fun xs' h => by rw [I.list_inj h q1]; exact hx, fun ys' h => by rw [I.list_inj h q2]; exact hy⟩, ⟨z2, up _ _ D.TIz (kk _ _ D.TIz D.TITO D.TIi1 D.TIi2 Z.ti), ⟨_, _, up _ _ D.TOz to1⟩, n1.at fun o e => up _ o D.i1z e, n2.at fun o e => up _ o D.i2z e⟩, fun b hb => (fp b hb).1⟩
  done := by
    intro X hP hw hK hc i pins s σ H E I hf Z hg
    subst hP hw hK
    obtain ⟨xs, ys, q1, q2, he⟩ := hg
    obtain ⟨its1, r1, p1, _⟩ := I.list q1
    obtain ⟨its2, r2, p2, _⟩ := I.list q2
    have D := F.of (fun b hb => FpOk.apartL I (hf b hb) q1) (fun b hb => FpOk.apartL I (hf b hb) q2)
    have e1 := r1.length; have e2 := r2.length
    obtain ⟨a0, b0, hto⟩ := Z.to
    refine wpAny_pyNext_zip_end (I.ok.hd hc) D Z.zz Z.ti hto Z.one Z.two p1.isList p2.isList ?_ fun g kk => ⟨rfl, Inv.turnedL (t' := s.toks) I hf fun b o hb e => by
      simp only [List.mem_cons, List.not_mem_nil, or_false, not_or] at hb
      exact kk b o hb.1 hb.2.2.1 hb.2.2.2.1 hb.2.2.2.2 e⟩
    rcases he with h | h
    · exact .inl (by simp; omega)
    · exact .inr (by simp; omega)
  self := fun _ _ _ _ _ Z h => wpAny_pyIter_zip Z.zz h
section
variable {X : Cx}
noncomputable def iZipL (K : PySem.W.Frag) (ta : TA) : TI := fun σ H R => ta σ H fun vs H1 => ∃ a b, vs = [.ref a, .ref b] ∧ (∃ xs, SqL K H1 a xs) ∧ (∃ ys, SqL K H1 b ys) ∧ R (ItzL K a b) H1
theorem pi_zipL {es : List Expr} {x1} {tp : Pos} {a b : Expr} {ta : TA} {p pos : Pos} (hg : Gl X "zip") (hm : X.mg "zip" = none) (ha : PA X [a, b] ta) (hs : starEach [a, b] X.env = [(false, eval a X.env), (false, eval b X.env)] := by rfl) (hs2 : starEach [b] X.env = [(false, eval b X.env)] := by rfl) :
    PI X (.Tuple es x1 tp) (.Call (.Name "zip" p) [a, b] [] pos) (iZipL X.K ta) := by
  intro pins s σ H R I h
  refine Call_ (ld_blt I hg hm boot_zip (PyProof.Rows.callWith_type1 (thn (ha pos pins s σ H _ I h) fun us s1 ⟨vs, H1, I1, r1, q1⟩ => ?_) (by rw [hs, hs2]) (by rw [hs2]; rfl)))
  obtain ⟨l1, l2, e, ⟨xs, q1⟩, ⟨ys, q2⟩, q⟩ := q1
  subst e
  cases r1 with
  | cons r rr =>
    cases rr with
    | cons r' rr =>
      cases rr
      cases r
      cases r'
      obtain ⟨its1, _, p1, _⟩ := I1.list q1
      obtain ⟨its2, _, p2, _⟩ := I1.list q2
      refine call_zip_2 p1.isList p2.isList fun g z1 z2 z3 z4 z5 _ k => wpAny_pyIter_zip z1 ?_
      refine ⟨_, _, _, _, H1, rfl, I1.kept (t' := s1.toks) k, turn_zipL l1 l2 ⟨by simp⟩, ⟨z1, z2, ⟨_, _, z3⟩, z4, z5⟩, fun b hb => ?_, q⟩
      have hb' : s1.heap.objs.size ≤ b := by
        simp only [List.mem_cons, List.not_mem_nil, or_false] at hb
        rcases hb with rfl | rfl | rfl | rfl | rfl <;> first | exact Nat.le_add_right _ _ | exact Nat.le_refl _
      exact I1.fpOk hb' (I1.hok.fresh hb')
end
end L2

namespace L2
open PySem PySem.Spec PyProof.Rows
section
variable {prog : Program} {w : World} {A : Around} {E : Value → Shared → Prop} {s : Shared}
theorem range_rev2 {r : Addr} {a n : Int} {t u v : Tok} {Q : Value → Shared → Prop} (hr : IsRange s.heap r a (a + n) 1 t u v) (ha : 0 ≤ a) (ha1 : a < 2 ^ 61) (h0 : 0 ≤ n) (h1 : n < 2 ^ 61)
    (h : Q (.ref s.heap.objs.size) { s with heap := s.heap.push { cls := .type "range_iterator", data := .fields #[rawInt (a + (n - 1)), rawInt n, rawInt (-1)] } }) :
    wpAny (model prog w) A (call (.builtin "range.__reversed__") [.ref r]) Q E s := by
  have hT : s.TypeIs (.ref r) "range" := ⟨_, hr, rfl⟩
  refine wpAny_call_entry F.slot_range_reversed hT F.entry_range_reversed ?_ (F.args_range_reversed_1 _)
  unfold Builtin.«range.__reversed__»
  refine wpAny_bind (wpAny_of_eq (a := Value.ref r) rfl ?_)
  have rf : ∀ {Q' : Int × Int × Int → Shared → Prop} {E' : Value → Shared → Prop}, Q' (a, a + n, 1) s → wpAny (model prog w) A.in1 (Builtin.Range.rangeFields (.ref r)) Q' E' s := fun {Q' E'} hq => by
    unfold Builtin.Range.rangeFields
    refine wpAny_bind (wpAny_field hr rfl (x := .int a t) rfl (wpAny_bind (wpAny_pure ?_)))
    refine wpAny_bind (wpAny_field hr rfl (x := .int (a + n) u) rfl (wpAny_bind (wpAny_pure ?_)))
    refine wpAny_bind (wpAny_field hr rfl (x := .int 1 v) rfl (wpAny_bind (wpAny_pure ?_)))
    exact wpAny_pure hq
  refine wpAny_bind (rf ?_)
  have sz : Builtin.Range.rangeSize a (a + n) 1 = n := by rw [rangeSize_one]; split <;> omega
  have sm : (Builtin.Range.rangeFitsLong a && Builtin.Range.rangeFitsLong (a + n) && Builtin.Range.rangeFitsLong 1 && Builtin.Range.rangeFitsLong (-1) && Builtin.Range.rangeFitsLong (a - 1) && Builtin.Range.rangeFitsLong n) = true := by
    simp only [Builtin.Range.rangeFitsLong, Bool.and_eq_true, decide_eq_true_eq]
    omega
  dsimp only
  rw [sz, sm]
  rw [if_neg (by decide)]
  have e : a + (n - 1) * 1 = a + (n - 1) := by omega
  rw [e]
  exact wpAny_bind (wpAny_newObj_type (wpAny_pure ⟨_, rfl, h⟩))
theorem code_rev2 {r : Addr} {a n : Int} {t u v : Tok} {Q₁ : Value → Shared → Prop} (hr : IsRange s.heap r a (a + n) 1 t u v) (ha : 0 ≤ a) (ha1 : a < 2 ^ 61) (h0 : 0 ≤ n) (h1 : n < 2 ^ 61)
    (h : Q₁ (.ref s.heap.objs.size) { s with heap := s.heap.push { cls := .type "range_iterator", data := .fields #[rawInt (a + (n - 1)), rawInt n, rawInt (-1)] } }) :
    codeAny (model prog w) A (.call (.builtin "reversed.__new__") ⟨[.type "reversed", .ref r], []⟩) (wants Q₁ E) s := by
  have hT : s.TypeIs (.ref r) "range" := ⟨_, hr, rfl⟩
  refine codeAny_of_tree ?_
  show wpAny _ A.in1 (do checkBuiltinCall "reversed.__new__" ⟨[.type "reversed", .ref r], []⟩; again (.builtin "reversed.__new__" ⟨[.type "reversed", .ref r], []⟩)) _ _ s
  refine wpAny_bind (wpAny_of_eq (F.newCall_reversed_1 _) (wpAny_pure ⟨plainId_quiet F.plain_reversed_new _, codeAny_builtin F.entry_reversed_new ?_⟩))
  rw [Around.under_plainId F.plain_reversed_new _]
  unfold Builtin.«reversed.__new__»
  refine wpAny_bind (wpAny_of_eq (newClass_reversed _) ?_)
  try dsimp only
  refine wpAny_bind (wpAny_of_eq (a := ()) (by first | rfl | kernel_rfl) ?_)
  refine wpAny_bind (wpAny_of_eq (a := ()) (by first | rfl | kernel_rfl) ?_)
  try dsimp only
  refine wpAny_bind (wpAny_specialOf hT F.slot_range_reversed.lookup ?_)
  try dsimp only
  refine wpAny_bind (wpAny_of_eq (F.slot_range_reversed.bind _) ?_)
  try dsimp only
  first
  | rw [if_neg (show ¬ ((Value.builtin "range.__reversed__" == Value.none) = true) from Bool.false_ne_true)]
  | (show wpAny _ _ (if (Value.builtin "range.__reversed__" == Value.none) = true then _ else _) _ _ _; rw [if_neg (show ¬ ((Value.builtin "range.__reversed__" == Value.none) = true) from Bool.false_ne_true)])
  refine wpAny_bind (wpAny_rule ?_)
  refine wpAny_bind (m := runValue (.call (.builtin "range.__reversed__") ⟨[.ref r], []⟩)) (show wpAny _ _ (call (.builtin "range.__reversed__") [.ref r]) _ _ _ from range_rev2 hr ha ha1 h0 h1 ?_)
  first
  | exact wpAny_pure h
  | exact wpAny_bind (wpAny_pure (wpAny_pure h))
theorem call_rev2 {r : Addr} {a n : Int} {t u v : Tok} {Q : Value → Shared → Prop} (hr : IsRange s.heap r a (a + n) 1 t u v) (ha : 0 ≤ a) (ha1 : a < 2 ^ 61) (h0 : 0 ≤ n) (h1 : n < 2 ^ 61)
    (h : Q (.ref s.heap.objs.size) { s with heap := s.heap.push { cls := .type "range_iterator", data := .fields #[rawInt (a + (n - 1)), rawInt n, rawInt (-1)] } }) :
    wpAny (model prog w) A (call (.type "reversed") [.ref r]) Q E s := by
  refine callType_other (U := "range_iterator") (Q₁ := fun obj s₁ => obj = .ref s.heap.objs.size ∧ s₁ = { s with heap := s.heap.push { cls := .type "range_iterator", data := .fields #[rawInt (a + (n - 1)), rawInt n, rawInt (-1)] } }) (by decide +kernel) F.create_reversed ⟨_, _, F.mro_reversed⟩ F.made_reversed sub_ri_reversed (F.typeCall_reversed_1 _) (code_rev2 hr ha ha1 h0 h1 ⟨rfl, rfl⟩) ?_
  rintro obj s₁ ⟨rfl, rfl⟩
  exact ⟨⟨_, Heap.get?_push_size _ rfl, rfl⟩, h⟩
end
noncomputable def Itd2 (a n : Nat) : It := ⟨fun i _ => i < n, fun i H x H' => H' = H ∧ x = .int ((a : Int) + ((n : Int) - 1 - i)), fun i _ => n ≤ i⟩
theorem turn_down2 {P : Program} {w : World} {K : PySem.W.Frag} {tg : Expr} (it : Addr) (a n : Nat) : Turn P w K tg (Itd2 a n) [it] it (fun i h => IsRangeIter h it (((a : Int) + ((n : Int) - 1)) + (i : Nat) * (-1)) ((n : Int) - (i : Nat)) (-1)) where
  mem := by simp
  obj := fun i h st b hb => by
    have e : b = it := by simpa using hb
    subst e
    exact ⟨_, st, fun v z => by
      have z' : Data.fields _ = Data.cell v := z
      cases z'⟩
  keep := fun i h h' st k => k it (by simp) _ st
  item := by
    intro X hP hw hK hc i pins s σ H E I hf st hg
    subst hP hw hK
    obtain ⟨f0, f1, f2, f3, f4, f5⟩ := hf it (by simp)
    have W := Walks.range (prog := X.prog) (w := X.w) (I.ok.hd hc) it ((a : Int) + ((n : Int) - 1)) (-1) n
    refine W.item i s _ _ hg st fun v h' tk hv st' kk => ?_
    obtain ⟨t, rfl⟩ := hv
    have I1 : Inv X pins σ H { s with heap := h', toks := tk } := I.turned (fun b o hb e => kk b o (by simpa using hb) e) f0 f1 f3 f4 f5
    refine ⟨_, rfl, go_of (s := { s with heap := h', toks := tk }) (n := "range_iterator") st' rfl rfl (by decide) ⟨.int ((a : Int) + ((n : Int) - 1 - i)), H, I1, ⟨t, ?_⟩, ⟨rfl, rfl⟩, st', fun b hb => (hf b hb).1⟩⟩
    rw [show (a : Int) + ((n : Int) - 1) + (i : Int) * (-1) = a + ((n : Int) - 1 - i) by omega]
  done := by
    intro X hP hw hK hc i pins s σ H E I hf st hg
    subst hP hw hK
    obtain ⟨f0, f1, f2, f3, f4, f5⟩ := hf it (by simp)
    exact wpAny_pyNext_range_end (I.ok.hd hc) st (by have : n ≤ i := hg; omega) fun h' eb => ⟨rfl, I.turned (t' := s.toks) (fun b o hb e => eb b o hb e) f0 f1 f3 f4 f5⟩
  self := fun _ _ _ _ _ st h => wpAny_pyIter_rangeiter st h
section
variable {X : Cx} {tg : Expr}
noncomputable def rRange2 : List V → Hp → VK → Prop := fun xs H Q => ∃ a b : Int, xs = [.int a, .int b] ∧ ∀ p, H p = none → Q (.ref p) (upd H p (.rng a b))
theorem call_range2 : CallR X (.type "range") rRange2 := by
  intro pins s σ H xs us Q I r h
  obtain ⟨a, b, rfl, q⟩ := h
  cases r with
  | cons r rr =>
    cases rr with
    | cons r' rr =>
      cases rr
      obtain ⟨t, rfl⟩ := r
      obtain ⟨t', rfl⟩ := r'
      exact call_range_2 ⟨.ref s.heap.objs.size, _, I.laid (a := s.heap.objs.size) (o := .rng a b) (fun b u e => Heap.get?_push_of_some _ e) (Nat.le_refl _) ⟨_, _, _, Heap.get?_push_size _ rfl⟩, rfl, q _ (I.hok.fresh (Nat.le_refl _))⟩
noncomputable def iRev2 (ta : TA) : TI := fun σ H R => ta σ H fun vs H1 => ∃ (r : Addr) (a n : Nat), vs = [.ref r] ∧ H1 r = some (.rng a (a + n)) ∧ a < 2 ^ 61 ∧ n < 2 ^ 61 ∧ R (Itd2 a n) H1
theorem pi_rev2 {a : Expr} {ta : TA} {p pos : Pos} (hg : Gl X "reversed") (hm : X.mg "reversed" = none) (ha : PA X [a] ta) (hs : starEach [a] X.env = [(false, eval a X.env)] := by rfl) : PI X tg (.Call (.Name "reversed" p) [a] [] pos) (iRev2 ta) := by
  intro pins s σ H R I h
  refine Call_ (ld_blt I hg hm (show bootBuiltins "reversed" = some (.type "reversed") by decide +kernel) (PyProof.Rows.callWith_type1 (thn (ha pos pins s σ H _ I h) fun us s1 ⟨vs, H1, I1, r1, q1⟩ => ?_) hs rfl))
  obtain ⟨r, lo, n, e, hr, hlo, hn, q⟩ := q1
  subst e
  obtain ⟨u, rfl, ru⟩ := vals1 r1
  cases ru
  obtain ⟨t, u, v, ho⟩ := (show ObjOk X.prog X.w H1 s1.heap r (.rng lo (lo + n)) from I1.hok r _ hr)
  refine call_rev2 ho (by omega) (by omega) (by omega) (by omega) (wpAny_pyIter_rangeiter (Heap.get?_push_size _ rfl) ?_)
  refine ⟨s1.heap.objs.size, [s1.heap.objs.size], _, _, H1, rfl, I1.kept (t' := s1.toks) fun b o e => Heap.get?_push_of_some _ e, turn_down2 _ lo n, ?_, fun b hb => ?_, q⟩
  · show IsRangeIter _ _ _ _ _
    rw [show (lo : Int) + ((n : Int) - 1) + ((0 : Nat) : Int) * (-1) = lo + (n - 1) by omega, show (n : Int) - ((0 : Nat) : Int) = n by omega]
    exact Heap.get?_push_size _ rfl
  · have e : b = s1.heap.objs.size := by simpa using hb
    subst e
    exact I1.fpOk (Nat.le_refl _) (I1.hok.fresh (Nat.le_refl _))
end
theorem for_down2 {a n : Nat} {g : TG} {tb : TS} {D : Ends} {σ : L2.St} {H : Hp} (Pv : Nat → L2.St → Hp → Prop) (h0 : Pv 0 σ H)
    (hs : ∀ i σ H, i < n → Pv i σ H → g (.int ((a : Int) + ((n : Int) - 1 - i))) σ H fun σ2 H2 => tb { D with nx := Pv (i + 1), ct := Pv (i + 1), bk := D.nx } σ2 H2) (hd : ∀ σ H, Pv n σ H → D.nx σ H) :
    ∃ W : Nat → Nat → L2.St → Hp → Prop, (∃ m, W 0 m σ H) ∧ ∀ i m σ H, W i m σ H →
      ((Itd2 a n).stop i H ∧ D.nx σ H) ∨ ((Itd2 a n).go i H ∧ ∃ N : L2.St → Hp → Prop, (∀ σ' H', N σ' H' → ∃ m', m' < m ∧ W (i + 1) m' σ' H') ∧ ∀ x H', (Itd2 a n).yld i H x H' → g x σ H' fun σ2 H2 => tb { D with nx := N, ct := N, bk := D.nx } σ2 H2) := by
  refine ⟨fun i m σ H => m = n - i ∧ i ≤ n ∧ Pv i σ H, ⟨n, by simp, Nat.zero_le _, h0⟩, ?_⟩
  rintro i m σ H ⟨rfl, hi, p⟩
  by_cases hlt : i < n
  · refine .inr ⟨hlt, Pv (i + 1), fun σ' H' p' => ⟨n - (i + 1), by omega, rfl, hlt, p'⟩, fun x H' y => ?_⟩
    obtain ⟨e, y⟩ := y
    subst e y
    exact hs i σ _ hlt p
  · have e : i = n := by omega
    subst e
    exact .inl ⟨Nat.le_refl _, hd σ H p⟩
end L2

namespace Lw
open PySem PySem.Spec PyProof.Rows L2
section
variable {X : Cx}
theorem ps_setComp {i : Nat} {y : Str} {py spos : Pos} (hN : X.N.Nodup) (hi : X.N[i]? = some y) (hx : Loc X.env.scope y) {own : Nat} {idx : List Nat} {N : List Str} {elt target iter : Expr} {scope : Scope} {cl : List (Str × Addr)} {pos : Pos} {wi : TI} {g : TG} {te : TE} (hc : X.calm = true)
    (hk : scope.kind = .function) (hclos : closureFor scope X.env = pure cl) (hcell : ∀ x ∈ scope.names, x.2 ≠ .cell) (hnames : ∀ x ∈ scope.names, x.2 = .local → scope.names.lookup x.1 = some .local)
    (hsub : ∀ x c, cl.lookup x = some c → X.env.cells.lookup x = some c) (hhas : ∀ x, ((relabel scope X.env).names.lookup x = some .cell ∨ (relabel scope X.env).names.lookup x = some .free) → ∃ c, cl.lookup x = some c)
    (hlen : N.length = own + idx.length)
    (hidx : ∀ (k j : Nat) (x : Str), idx[k]? = some j → N[own + k]? = some x → X.N[j]? = some x ∧ X.env.kindOf x = some .cell ∧ (relabel scope X.env).names.lookup x = some .cell ∧ X.env.scope.names.lookup x = some .cell)
    (hit : PI X target iter wi) (hg : ∀ C fp s2 H2, PG (cxCompF X N scope cl C fp s2 H2) target g) (he : ∀ C fp s2 H2, PE (cxCompF X N scope cl C fp s2 H2) elt te)
    (hsw : swapsWith (.ListComp elt [⟨target, iter, [], 0⟩] scope pos) (some (.Name y py)) spos.line X.env = pure true := by rfl)
    (hs : ∀ x, foldedSetIterable iter X.env x = pure x := by intro _; rfl) (hfn : X.fn y = true ∨ X.env.scope.names.lookup y = some .local := by first | exact .inl rfl | exact .inr rfl | assumption) : PS X (.Assign [.Name y py] (.ListComp elt [⟨target, iter, [], 0⟩] scope pos) spos) (tAsg (tCompF own idx wi g te) (gName i)) := by
  intro pins s σ H D I h
  rw [exec_Assign_Name_used _ _ _ _ hsw]
  refine wpAny_bind (wpAny_standAt (wpAny_bind ?_))
  show wpAny _ X.A (do let _ ← comprehension (.ListComp elt [⟨target, iter, [], 0⟩] scope pos) scope X.env _ (newList []) false (eval iter X.env) (some (assign (.Name y py) X.env))) _ _ s
  refine wpAny_bind (wpAny_mono (wpAny_comprehension_free (use := some (assign (.Name y py) X.env)) (Q := fun _ s' => ∃ σ' H', Inv X pins σ' H' s' ∧ D.nx σ' H') rfl hs hclos hk hnames (thn (hit pins s σ H _ I h) fun v s1 h1 => thn h1 fun itv s2 h2 => ?_)) (fun _ s' hq => wpAny_pure (wpAny_pure hq)) fun _ _ e => e)
  obtain ⟨it, fp, tn, J, H1, e, I2, T, st2, f2, hR⟩ := h2
  subst e
  have hlt : ∀ b ∈ fp, b < s2.heap.objs.size := fun b hb => by
    obtain ⟨o, ho, _⟩ := T.obj 0 _ st2 b hb
    exact Heap.lt_size ho
  refine wpAny_newObj_type (wpAny_newFunctionEnv hcell (by intro y hy; simp at hy) (fun h₁ hns₁ hsb₁ => ?_) hk)
  dsimp only at hns₁ hsb₁ ⊢
  generalize hHH : s2.heap.push { cls := .type "list", dict := none, data := .seq ([] : List Value).toArray } = HH at hns₁ hsb₁ ⊢
  have hCe : HH.objs.size = s2.heap.objs.size + 1 := by rw [← hHH, Heap.size_push]
  have hDC : s2.heap.objs.size ≠ HH.objs.size := by rw [hCe]; exact Nat.ne_of_lt (Nat.lt_succ_self _)
  have hCle : s2.heap.objs.size ≤ HH.objs.size := by rw [hCe]; exact Nat.le_succ _
  have old : ∀ b o, s2.heap.get? b = some o → h₁.get? b = some o := fun b o e => hsb₁.extBut b o (by rw [hCe]; exact Nat.ne_of_lt (Nat.lt_succ_of_lt (Heap.lt_size e))) (Heap.get?_push_of_some _ (hHH ▸ Heap.get?_push_of_some _ e))
  have hD : h₁.get? s2.heap.objs.size = some { cls := .type "list", dict := none, data := .seq ([] : List Value).toArray } := hsb₁.extBut _ _ hDC (Heap.get?_push_of_some _ (hHH ▸ Heap.get?_push_size _ rfl))
  have nD : H1 s2.heap.objs.size = none := I2.hok.fresh (Nat.le_refl _)
  obtain ⟨W, ⟨m0, w0⟩, turn⟩ := hR s2.heap.objs.size _ nD (same_upd (.lst []) nD) upd_same
  generalize hσ : (List.replicate own none ++ idx.map fun j => (σ[j]?).getD none : L2.St) = σ0 at turn
  have lσ : σ0.length = N.length := by rw [← hσ, List.length_append, List.length_replicate, List.length_map, hlen]
  have ok := cxCompF_ok (N := N) (cl := cl) (C := HH.objs.size) I2 hk hsub hhas hCle f2 hlt
  have oldC : ∀ c v, s2.heap.IsCell c v → h₁.IsCell c v := fun c v ⟨o, ho, hd⟩ => ⟨o, old c o ho, hd⟩
  have I4 : Inv (cxCompF X N scope cl HH.objs.size fp s2 H1) [] σ0 (upd H1 s2.heap.objs.size (.lst [])) { s2 with heap := h₁, toks := s2.toks + ([] : List (Str × Value)).length } := by
    refine ⟨ok, rfl, I2.bare, Un.laid old (Nat.le_refl _) nD, ⟨_, hns₁, fun i x v e1 e2 _ => ?_⟩, (fun x c z => ?_), ?_, (fun x c z => ?_), (fun p hp => nomatch hp), I2.hok.laid old (Nat.le_refl _) ?_, lσ⟩
    · -- a name of the def's
      rw [← hσ] at e2
      by_cases hi' : i < own
      · rw [List.getElem?_append_left (by rw [List.length_replicate]; exact hi'), List.getElem?_replicate] at e2
        split at e2 <;> cases e2
      · obtain ⟨k, rfl⟩ : ∃ k, i = own + k := ⟨i - own, by omega⟩
        rw [List.getElem?_append_right (by rw [List.length_replicate]; omega), List.length_replicate, Nat.add_sub_cancel_left, List.getElem?_map] at e2
        cases ej : idx[k]? with
        | none => rw [ej] at e2; cases e2
        | some j =>
          rw [ej, Option.map_some] at e2
          have e2 := Option.some.inj e2
          obtain ⟨n1, n2, n3, n4⟩ := hidx k j x ej e1
          have e3 : σ[j]? = some (some v) := by
            cases q : σ[j]? with
            | none => rw [q] at e2; cases e2
            | some y => rw [q, Option.getD_some] at e2; rw [e2]
          obtain ⟨m, hm, hl⟩ := I2.loc
          obtain ⟨u, ru, lk⟩ := hl j x v n1 e3 (.inr (.inl n4))
          refine ⟨u, ru, ?_⟩
          rcases lk with ⟨kl, _⟩ | ⟨_, c, hcl, hic⟩
          · rw [n2] at kl; cases kl
          · obtain ⟨c', hc'⟩ := hhas x (.inl n3)
            have : c' = c := Option.some.inj ((hsub x c' hc').symm.trans hcl)
            subst this
            exact .inr ⟨.inl n3, c', hc', oldC _ _ hic⟩
    · obtain ⟨v, hv⟩ := I2.cell x c (hsub x c z)
      exact ⟨v, oldC _ _ hv⟩
    · show (upd H1 s2.heap.objs.size (.lst [])) HH.objs.size = none
      rw [upd_ne (Ne.symm hDC)]
      exact I2.hok.fresh hCle
    · obtain ⟨v, hv⟩ := I2.cell x c (hsub x c z)
      show (upd H1 s2.heap.objs.size (.lst [])) c = none
      rw [upd_ne (Nat.ne_of_lt hv.lt)]
      exact I2.freeC x c (hsub x c z)
    · exact ⟨by show 0 ≤ sizeLine; decide, [], 0, .nil, hD⟩
  have stat : ∀ {H' : Hp}, (∀ b ∈ fp, H' b = none) → ∀ b ∈ fp, FpOk (cxCompF X N scope cl HH.objs.size fp s2 H1) [] H' b := fun hn b hb =>
    ⟨hn b hb, (ok.exf b hb).1, ok.exfs b hb, .inl hb, (ok.exf b hb).2, fun p hp => nomatch hp⟩
  have st4 : tn 0 h₁ := T.keep _ _ _ st2 fun b _ o e => old b o e
  have fr4 : ∀ b ∈ fp, (upd H1 s2.heap.objs.size (.lst [])) b = none := fun b hb => by
    rw [upd_ne (Nat.ne_of_lt (hlt b hb))]
    exact (f2 b hb).1
  have loop : codeAny (model X.prog X.w) X.A (.compLoop (.ListComp elt [⟨target, iter, [], 0⟩] scope pos) 0 (.ref it) (.ref s2.heap.objs.size) (compEnvC scope cl HH.objs.size X.env))
      (compPost (model X.prog X.w) X.A X.xe (some (assign (.Name y py) X.env)) (fun _ s' => ∃ σ' H', Inv X pins σ' H' s' ∧ D.nx σ' H') (.ref s2.heap.objs.size) HH.objs.size) { s2 with heap := h₁, toks := s2.toks + ([] : List (Str × Value)).length } := by
    refine compLoop_any (fun n s' => ∃ i ys H', Inv (cxCompF X N scope cl HH.objs.size fp s2 H1) [] σ0 H' s' ∧ tn i s'.heap ∧ (∀ b ∈ fp, H' b = none) ∧ W i n ys H') ?_ m0 ⟨0, [], _, I4, st4, fr4, w0⟩
    rintro n s3 ⟨i, ys, H3, I3, st3, fr3, w3⟩
    obtain ⟨hp3, hz3, hw⟩ := turn i n ys H3 w3
    rcases hw with ⟨stop, qn⟩ | ⟨go, step⟩
    · refine thn (T.done (cxCompF X N scope cl HH.objs.size fp s2 H1) rfl rfl rfl hc i [] s3 _ H3 _ I3 (stat fr3) st3 stop) fun r s4 ⟨hr, I5⟩ => ?_
      subst hr
      obtain ⟨m, hm, _⟩ := id I5.loc
      have U := I5.base
      have fC : H3 HH.objs.size = none := I5.free
      have IX : Inv X pins σ H3 s4 := I2.call' (ch := fp) (s' := s4) I5.os U I5.hok I5.bare (fun b hb => ⟨(f2 b hb).2.2.2.1, (f2 b hb).2.1, (f2 b hb).2.2.2.2.1, (f2 b hb).2.2.2.2.2⟩)
      have ltC : ∀ b, b < s2.heap.objs.size → b ≠ HH.objs.size := fun b hb => Nat.ne_of_lt (Nat.lt_of_lt_of_le hb hCle)
      show wpAny _ X.A (assign (.Name y py) X.env (.ref s2.heap.objs.size)) _ _ s4
      refine wpAny_assign_Name (store_ok2 IX hN hi hx (v := .ref s2.heap.objs.size) rfl (fun s5 I6 ⟨a, sb, ha⟩ => ?_) hfn)
      have aC : a ≠ HH.objs.size := by
        rcases ha with ha | ha
        · rw [ha]; exact ltC _ I2.lt
        · obtain ⟨v, hv⟩ := I2.cell y a ha
          exact ltC _ hv.lt
      refine ⟨m, hm.sameBut sb (Ne.symm aC), fun h' sb' => ⟨_, H3, ?_, qn⟩⟩
      refine I6.turned (it := HH.objs.size) (t' := s5.toks) (fun b o hb e => sb'.extBut b o hb e) fC (Ne.symm (ltC _ I2.lt)) (.inr (Nat.le_trans I2.sz hCle)) (fun x c hc => ?_) (fun p hp => ?_)
      · obtain ⟨v, hv⟩ := I2.cell x c hc
        exact ltC _ hv.lt
      · exact ltC _ (Heap.lt_size (I2.pin p hp).1)
    · refine wpAny_mono (T.item (cxCompF X N scope cl HH.objs.size fp s2 H1) rfl rfl rfl hc i [] s3 _ H3 (fun _ _ => False) I3 (stat fr3) st3 go) (fun r s4 ⟨u, hr, h4⟩ => ?_) fun _ _ z => z.elim
      subst hr
      refine wpAny_mono h4 (fun _ s5 ⟨x, H5, I5, r5, y5, st5, fr5⟩ => ?_) fun _ _ z => z.elim
      have I5' := I5.pinned (stat fr5) (T.obj _ _ st5)
      refine wpAny_mono (hg _ _ _ _ _ s5 _ H5 x u _ I5' r5 (step x H5 y5)) (fun _ s6 ⟨σ6, H6, I6, kp6, q6⟩ => ?_) fun _ _ z => z.elim
      refine wpAny_mono (he _ _ _ _ _ s6 σ6 H6 _ I6 q6) (fun y s7 ⟨yv, H7, I7, r7, q7⟩ => ?_) fun _ _ z => z.elim
      obtain ⟨e7, m', hm', w7⟩ := q7
      refine wpAny_mono (mt_append (X := cxCompF X N scope cl HH.objs.size fp s2 H1) _ s7 σ6 H7 (.ref s2.heap.objs.size) [yv] (.ref s2.heap.objs.size) [y] (fun _ H8 => H8 = upd H7 s2.heap.objs.size (.lst (ys ++ [yv]))) I7 rfl (.cons r7 .nil) ⟨_, ys, yv, rfl, rfl, e7, hz3, rfl⟩) (fun _ s8 ⟨_, H8, I8, _, q8⟩ => ?_) fun _ _ z => z.elim
      subst q8
      refine ⟨m', hm', i + 1, _, _, (I8.unpinned).weak (by rw [lσ, I8.len]; rfl) kp6, T.keep _ _ _ st5 fun b hb o e => (I8.pin (b, o) (List.mem_append_right _ (List.mem_append_right _ (mem_pinsAt hb e)))).1, fun b hb => ?_, w7⟩
      obtain ⟨o, e, d⟩ := T.obj _ _ st5 b hb
      exact (I8.pin (b, o) (List.mem_append_right _ (List.mem_append_right _ (mem_pinsAt hb e)))).2.1
  exact codeAny_compStart_list loop (T.self _ 0 _ _ _ st4 loop)
end
end Lw

namespace Lw
open PySem PySem.Spec PyProof.Rows L2
noncomputable def top (i : Nat) : Stmt := PySem.Challenge.pw_lowwater_k55_numbers_of_a_sum_in_a_stret.main.body.getD i (.Pass ⟨0, 0, 0, 0⟩)
noncomputable abbrev sGcd : Stmt := top 8
noncomputable abbrev sAdded : Stmt := top 9
noncomputable abbrev sLess : Stmt := top 10
noncomputable abbrev sMul : Stmt := top 11
noncomputable abbrev sDiv : Stmt := top 12
noncomputable abbrev sDegree : Stmt := top 14
noncomputable abbrev sLevel : Stmt := top 18
noncomputable abbrev sNumbers : Stmt := top 19
noncomputable abbrev sMoved : Stmt := top 20
noncomputable abbrev sFact : Stmt := top 21
noncomputable abbrev sSpread : Stmt := top 22
noncomputable abbrev sRaw : Stmt := top 23
noncomputable abbrev sNums : Stmt := top 24
noncomputable abbrev sDraw : Stmt := top 26
noncomputable abbrev sLow : Stmt := top 27
noncomputable abbrev sPlus : Stmt := top 28
noncomputable abbrev sLMul : Stmt := top 29
noncomputable abbrev sLike : Stmt := top 30
noncomputable abbrev sAt : Stmt := top 36
noncomputable abbrev sLSum : Stmt := top 37
noncomputable abbrev sMore : Stmt := top 38
noncomputable abbrev sNum : Stmt := top 39
noncomputable abbrev sNumber : Stmt := top 40
noncomputable abbrev sPoly : Stmt := top 41
noncomputable abbrev sDeg : Stmt := top 42
noncomputable abbrev sStretch : Stmt := top 44
noncomputable abbrev sMinus : Stmt := top 46
noncomputable abbrev sShare : Stmt := top 47
noncomputable abbrev sPlace : Stmt := top 48
noncomputable abbrev sLNums : Stmt := top 49
noncomputable abbrev sLaw : Stmt := top 50
theorem rvT {K : PySem.W.Frag} {H : Hp} {p : Addr} {xs : List V} {i : Int} {v : V} {Q : VK} {σ : L2.St} {a : Nat} (e1 : σ[a]? = some (some (.ref p))) (h : SqT K H p xs) (e : atI xs i = some v) (q : Q v H) : tOp (rIxT K) (tVar a) (tC (.int i)) σ H Q := ⟨_, e1, p, xs, i, v, rfl, rfl, h, e, q⟩
theorem rvL {K : PySem.W.Frag} {H : Hp} {p : Addr} {xs : List V} {i : Int} {v : V} {Q : VK} {σ : L2.St} {a : Nat} (e1 : σ[a]? = some (some (.ref p))) (h : SqL K H p xs) (e : atI xs i = some v) (q : Q v H) : tOp (rIxL K) (tVar a) (tC (.int i)) σ H Q := ⟨_, e1, p, xs, i, v, rfl, rfl, h, e, q⟩
theorem gT2 {K : PySem.W.Frag} {H : Hp} {a : Addr} {x y : V} {i j n : Nat} {σ : L2.St} {Q : L2.St → Hp → Prop} (h : SqT K H a [x, y]) (hn : 2 = n) (q : Q ((σ.set i (some x)).set j (some y)) H) : gTup K n (gCons (gName i) (gCons (gName j) gNil)) (.ref a) σ H Q := ⟨a, _, rfl, h, hn, _, _, rfl, _, _, rfl, rfl, q⟩
theorem oVV {C : Int → Int → Prop} {g : Int → Int → V} {σ : L2.St} {a b : Nat} {x y : Int} {H : Hp} {Q : VK} (e1 : σ[a]? = some (some (.int x))) (e2 : σ[b]? = some (some (.int y))) (c : C x y) (q : Q (g x y) H) : tOp (rI C g) (tVar a) (tVar b) σ H Q := ⟨_, e1, _, e2, _, _, rfl, rfl, c, q⟩
theorem gSet {p : Addr} {xs : List V} {i : Int} {j a : Nat} {v : V} {σ : L2.St} {H : Hp} {Q : L2.St → Hp → Prop} (e : σ[a]? = some (some (.ref p))) (h : H p = some (.lst xs)) (hj : ixN xs.length i = some j) (q : Q σ (upd H p (.lst (xs.set j v)))) : gSub (tVar a) (tC (.int i)) rSetL v σ H Q := ⟨_, e, p, xs, i, j, rfl, rfl, h, hj, q⟩
noncomputable def Tape (cl : Addr) (H : Hp) (tp : Addr) (B : Int) : Prop := ∃ (ns : List Int) (spot rest left : Int), H tp = some (.lst [.ref cl, .int spot, .int rest, .int left]) ∧ H cl = some (.lst (ns.map V.int)) ∧ ns.length ≤ 63 ∧ 0 ≤ spot ∧ spot ≤ B
theorem Tape.mono {cl : Addr} {H H' : Hp} {tp : Addr} {B B' : Int} (e : Same H H') (hB : B ≤ B') (h : Tape cl H tp B) : Tape cl H' tp B' := by
  obtain ⟨ns, spot, rest, left, h1, h2, h3, h4, h5⟩ := h
  exact ⟨ns, spot, rest, left, e _ _ h1, e _ _ h2, h3, h4, by omega⟩

noncomputable def spGcd : Sp := fun vs H Q _ => ∃ a b : Int, vs = [.int a, .int b] ∧ 0 < b ∧ b.natAbs < 2 ^ 8000 ∧ Q (.int (Int.gcd a b)) H
noncomputable def spDraw : Sp := fun vs H Q _ => ∃ (tp : Addr) (many B : Int), vs = [.ref tp, .int many] ∧ ∃ cl, Tape cl H tp B ∧ B < 2 ^ 40 ∧ 0 < many ∧ many < 2 ^ 100 ∧
  ∀ (r : Int) (H' : Hp), 0 ≤ r → r < many → Tape cl H' tp (B + 1) → But tp H H' → Q (.int r) H'
theorem dDraw {tp : Addr} {many B : Int} {cl : Addr} {H : Hp} {Q : VK} {σ : L2.St} {a : Nat} (e : σ[a]? = some (some (.ref tp))) (hT : Tape cl H tp B) (h1 : B < 2 ^ 40) (h2 : 0 < many) (h3 : many < 2 ^ 100) (k : ∀ (r : Int) (H' : Hp), 0 ≤ r → r < many → Tape cl H' tp (B + 1) → But tp H H' → Q (.int r) H') : tCall spDraw [] E0 (tCons (tVar a) (tCons (tC (.int many)) tNil)) σ H Q := ⟨_, e, tp, many, B, rfl, cl, hT, h1, h2, h3, k⟩
noncomputable def lowT (t b : Int) : Int := (if b < 0 then 0 - t else t) / (Int.gcd t b : Int)
noncomputable def lowB (t b : Int) : Int := (if b < 0 then 0 - b else b) / (Int.gcd t b : Int)
noncomputable def LowFit (t b : Int) : Prop := b.natAbs < 2 ^ 8000 ∨ (t.natAbs < 2 ^ 13400 ∧ b.natAbs < 2 ^ 13400)
noncomputable def spLow : Sp := fun vs H Q _ => ∃ t b : Int, vs = [.int t, .int b] ∧ b ≠ 0 ∧ LowFit t b ∧
  ∀ (p : Addr) (H' : Hp), H p = none → Same H H' → H' p = some (.tup [.int (lowT t b), .int (lowB t b)]) → Q (.ref p) H'
structure Txt (mg : Str → Option Value) : Prop where
  isi : mg "isinstance" = none
  len : mg "len" = none
  int : mg "int" = none
  bool : mg "bool" = none
  tup : mg "tuple" = none
  lst : mg "list" = none
  str : mg "str" = none
  abs : mg "abs" = none
  rng : mg "range" = none
  lbits : ∃ t, mg "LONG_BITS" = some (.int 8000 t)
  sum : mg "sum" = none
  zip : mg "zip" = none
  sorted : mg "sorted" = none
  max : mg "max" = none
  enum : mg "enumerate" = none
  rev : mg "reversed" = none
  all : mg "all" = none
  dct : mg "dict" = none
structure Df (K : PySem.W.Frag) (mg : Str → Option Value) (x : Str) (st : Stmt) (ps : List Str) (f : Addr) (fd : FuncData) : Prop where
  F : Fun K x x st f fd
  b : Binds K fd ps []
  m : mg x = some (.ref f)
section
variable {P : Program} {w : World} {K : PySem.W.Frag} {mg : Str → Option Value} {base : Heap} {f fd : _}
theorem scGcd : FnScope ["one", "other"] ["one", "other"] (defScope sGcd) := ⟨rfl, rfl, rfl, by decide +kernel, rfl, by decide +kernel, by decide +kernel⟩
theorem mt_bits {X : Cx} : MtR X "int.bit_length" (fun x xs H Q => ∃ i : Int, x = .int i ∧ xs = [] ∧ Q (.int (Builtin.Int.intBits i : Nat)) H) := by
  intro pins s σ H x xs v us Q I rx rs q
  obtain ⟨i, rfl, rfl, q⟩ := q
  obtain ⟨t, rfl⟩ := rx
  cases rs
  exact call_int_bit_length ⟨.int (Builtin.Int.intBits i : Nat), H, I.tok _, ⟨_, rfl⟩, q⟩
theorem ok_gcd (F : Fun K "greatest_divisor" "greatest_divisor" sGcd f fd) (T : Txt mg) : FnOk P w K mg base CX0 1 f fd ["one", "other"] spGcd := by
  obtain ⟨tl, hl⟩ := T.lbits
  refine F.ok scGcd (fun vs H Q E h => ?_) (fun cdv A outer s H vs Q E hr h => ?_)
  · obtain ⟨a, b, rfl, _⟩ := h
    rfl
  · obtain ⟨a, b, rfl, hb, hs, k⟩ := h
    refine ⟨_, pss_cons (ps_while PassesOwn.never (pt_cmpR op_ne (pv 1) pe_int (nomark _))
        (pss_one (ps_if (pt_cmpR op_gt (pe_bm0 PySem.F.plainAttrs_int slot_int_bit_length type_int_bit_length mt_bits (pv 1)) (pe_glob (v := .int 8000) (by rfl) hl ⟨_, rfl⟩) (nomark _)) pss_never
          (pss_one (ps_par (i := 0) (j := 1) rfl scGcd.nd rfl rfl (by decide) rfl rfl (pa_cons (pv 1) (pa_cons (pe_op op_mod (pv 0) (pv 1)) pa_nil)) rfl)))))
      (pss_one (ps_ret (pv 0))), ?_⟩
    try dsimp only [cxK]
    refine while_by (fun σ H1 => H1 = H ∧ ∃ p q : Int, σ = [some (.int p), some (.int q)] ∧ 0 ≤ q ∧ (0 < q ∨ 0 ≤ p) ∧ q.natAbs < 2 ^ 8000 ∧ Int.gcd p q = Int.gcd a b)
      (fun σ _ => match σ with | [_, some (.int q)] => q.toNat | _ => 0) ⟨rfl, a, b, rfl, by omega, .inl hb, hs, rfl⟩ ?_ ?_
    · rintro σ H1 ⟨rfl, p, q, rfl, h0, h1, hq8, h2⟩
      refine ⟨_, rfl, rfl, _, rfl, ?_⟩
      refine ite2 (fun e => ?_) (fun e => ?_)
      · have hq : 0 < q := by
          have : q ≠ 0 := fun z => by simp [z] at e
          omega
        have hbits : (Builtin.Int.intBits q) ≤ 8000 := PySem.intBits_le_iff.mpr hq8
        refine ⟨_, rfl, rfl, _, rfl, rfl, _, _, rfl, rfl, _, rfl, iteN (decide_eq_false (by omega)) ?_⟩
        refine ⟨_, rfl, _, rfl, _, rfl, _, _, rfl, rfl, hq, _, _, rfl, ?_⟩
        have m1 := Int.emod_nonneg p (b := q) (by omega)
        have m2 := Int.emod_lt_of_pos p hq
        have m3 : (p % q).natAbs ≤ q.natAbs := by omega
        refine ⟨⟨rfl, q, p % q, rfl, m1, .inr h0, Nat.lt_of_le_of_lt m3 hq8, (LwM.gcd_step p q).trans h2⟩, ?_⟩
        show (p % q).toNat < q.toNat
        omega
      · have hq : q = 0 := by
          by_cases z : q = 0
          · exact z
          · exact absurd (by simp [z]) e
        subst hq
        refine ⟨_, rfl, ?_⟩
        have : p = ((Int.gcd a b : Nat) : Int) := by
          rw [← h2, Int.gcd_zero_right]
          omega
        rw [this]
        exact k
    · rintro σ H1 Q1 Q2 hQ ⟨v, e, hs, k', ek, q⟩
      exact ⟨v, e, hs, k', ek, hQ _ _ q⟩
theorem scLow : FnScope ["top", "bottom", "one", "other"] ["top", "bottom"] (defScope sLow) := ⟨rfl, rfl, rfl, by decide +kernel, rfl, by decide +kernel, by decide +kernel⟩
theorem ok_low (F : Fun K "_law_low" "_law_low" sLow f fd) (T : Txt mg) : FnOk P w K mg base CX0 1 f fd ["top", "bottom"] spLow := by
  refine F.ok scLow (fun vs H Q E h => ?_) (fun cdv A outer s H vs Q E hr h => ?_)
  · obtain ⟨t, b, rfl, _⟩ := h
    rfl
  · obtain ⟨t, b, rfl, hb, hs, k⟩ := h
    refine ⟨_, pss_cons (ps_if (pt_cmpR op_lt (pv 1) pe_int (nomark _)) (pss_one (ps_par (i := 0) (j := 1) rfl scLow.nd rfl rfl (by decide) rfl rfl (pa_cons (pe_op op_sub pe_int (pv 0)) (pa_cons (pe_op op_sub pe_int (pv 1)) pa_nil)) rfl)) pss_nil)
      (pss_cons (ps_set (i := 2) scLow.nd rfl (Or.inl rfl) (pe_callB call_abs (by rfl) T.abs boot_abs (pa_cons (pv 0) pa_nil)))
      (pss_cons (ps_set (i := 3) scLow.nd rfl (Or.inl rfl) (pv 1))
      (pss_cons (ps_while PassesOwn.never (pt_cmpR op_gt (pv 2) pe_int (nomark _)) (pss_one (ps_par (i := 2) (j := 3) rfl scLow.nd rfl rfl (by decide) rfl rfl (pa_cons (pe_op op_mod (pv 3) (pv 2)) (pa_cons (pv 2) pa_nil)) rfl)))
      (pss_one (ps_ret (pe_tup (pa_cons (pe_op LwD.op_fdivP (pv 0) (pv 3)) (pa_cons (pe_op LwD.op_fdivP (pv 1) (pv 3)) pa_nil)))))))), ?_⟩
    try dsimp only [cxK]
    refine ⟨_, rfl, _, _, rfl, rfl, _, rfl, ?_⟩
    -- behind the signs
    have fin : ∀ t' b' : Int, 0 < b' → (∀ q : Int, 0 < q → q ≤ b' → LwD.CDivP t' q ∧ LwD.CDivP b' q) → t' = (if b < 0 then 0 - t else t) → b' = (if b < 0 then 0 - b else b) → Int.gcd t' b' = Int.gcd t b →
        (tSeq (tAsg (tCB (fun xs H Q => ∃ i, xs = [V.int i] ∧ Q (.int (if i < 0 then -i else i)) H) (tCons (tVar 0) tNil)) (gName 2)) (tSeq (tAsg (tVar 1) (gName 3)) (tSeq (tWhile (tTest (tOp (rI0 fun i j => V.bl (decide (j < i))) (tVar 2) (tC (.int 0)))) (tPar 2 3 (tCons (tOp (rI (fun _ j => 0 < j) fun i j => .int (i % j)) (tVar 3) (tVar 2)) (tCons (tVar 2) tNil)))) (tRet (tTup (tCons (tOp (rI LwD.CDivP fun i j => .int (i / j)) (tVar 0) (tVar 3)) (tCons (tOp (rI LwD.CDivP fun i j => .int (i / j)) (tVar 1) (tVar 3)) tNil))))))) { nx := fun _ H' => Q .non H', rt := Q } [some (.int t'), some (.int b'), none, none] H := by
      intro t' b' hb' hs' et eb hg
      refine ⟨_, rfl, _, rfl, _, rfl, ?_⟩
      refine while_by (fun σ H1 => H1 = H ∧ ∃ p q : Int, σ = [some (.int t'), some (.int b'), some (.int p), some (.int q)] ∧ 0 ≤ p ∧ 0 < q ∧ Int.gcd q p = Int.gcd t b)
        (fun σ _ => match σ with | [_, _, some (.int p), _] => p.toNat | _ => 0) ⟨rfl, _, b', rfl, by split <;> omega, hb', ?_⟩ ?_ ?_
      · rw [← hg, Int.gcd_comm t']
        split
        · exact Int.gcd_neg
        · rfl
      · rintro σ H1 ⟨rfl, p, q, rfl, h0, h1, h2⟩
        refine ⟨_, rfl, _, _, rfl, rfl, _, rfl, ?_⟩
        refine ite2 (fun e => ?_) (fun e => ?_)
        · have hp : 0 < p := of_decide_eq_true e
          refine ⟨_, rfl, _, rfl, _, _, rfl, rfl, hp, _, rfl, _, _, rfl, ?_⟩
          have m1 := Int.emod_nonneg q (b := p) (by omega)
          have m2 := Int.emod_lt_of_pos q hp
          refine ⟨⟨rfl, q % p, p, rfl, m1, hp, (LwM.gcd_step q p).trans h2⟩, ?_⟩
          show (q % p).toNat < p.toNat
          omega
        · have hp : p = 0 := by
            have : ¬ 0 < p := fun z => e (decide_eq_true z)
            omega
          subst hp
          have hq : q = ((Int.gcd t b : Nat) : Int) := by
            rw [← h2, Int.gcd_zero_right]
            omega
          have gb : q ≤ b' := by
            rw [hq, ← hg]
            exact LwM.gcd_le t' b' hb'
          obtain ⟨c1, c2⟩ := hs' q h1 gb
          refine ⟨_, rfl, _, rfl, _, _, rfl, rfl, c1, _, rfl, _, rfl, _, _, rfl, rfl, c2, (by show 2 ≤ sizeLine; decide), ?_⟩
          refine fresh fun p H' n s1 e1 => k p H' n s1 ?_
          rw [e1, hq, et, eb]
          rfl
      · rintro σ H1 Q1 Q2 hQ ⟨v, e, i, j, e1, e2, k', ek, q⟩
        exact ⟨v, e, i, j, e1, e2, k', ek, hQ _ _ q⟩
    have hs2 : ∀ t' b' : Int, t'.natAbs = t.natAbs → b'.natAbs = b.natAbs → 0 < b' → ∀ q : Int, 0 < q → q ≤ b' → LwD.CDivP t' q ∧ LwD.CDivP b' q := fun t' b' e1 e2 h0 q h1 h2 => by
      rcases hs with hs | ⟨ha, hb2⟩
      · have hq : q.natAbs < 2 ^ 8000 := Nat.lt_of_le_of_lt (by omega) hs
        exact ⟨LwD.cdivp_of ⟨h1, hq⟩, LwD.cdivp_of ⟨h1, hq⟩⟩
      · exact ⟨LwD.cdivp_near h1 (Nat.le_refl _) (by rw [e1]; exact ha), LwD.cdivp_near h1 (Nat.le_refl _) (by rw [e2]; exact hb2)⟩
    by_cases n : b < 0
    · refine iteP (decide_eq_true n) ?_
      refine ⟨_, rfl, _, _, rfl, rfl, _, rfl, _, _, rfl, rfl, _, _, rfl, ?_⟩
      refine fin (0 - t) (0 - b) (by omega) (hs2 _ _ (by omega) (by omega) (by omega)) (by rw [if_pos n]) (by rw [if_pos n]) ?_
      rw [Int.zero_sub, Int.zero_sub, Int.neg_gcd, Int.gcd_neg]
    · refine iteN (decide_eq_false n) ?_
      exact fin t b (by omega) (hs2 _ _ rfl rfl (by omega)) (by rw [if_neg n]) (by rw [if_neg n]) rfl
theorem low_pos {t b : Int} (h : 0 < b) : lowT t b = t / (Int.gcd t b : Int) ∧ lowB t b = b / (Int.gcd t b : Int) := by
  unfold lowT lowB
  rw [if_neg (by omega), if_neg (by omega)]
  exact ⟨rfl, rfl⟩
theorem at_ints {ns : List Int} {i : Int} (h0 : 0 ≤ i) (h1 : i < ns.length) : ∃ c : Int, atI (ns.map V.int) i = some (.int c) := by
  obtain ⟨j, rfl⟩ := Int.eq_ofNat_of_zero_le h0
  have hj : j < ns.length := by omega
  exact ⟨ns[j], atI_nat (by simp [hj])⟩
theorem scDraw : FnScope ["tape", "many", "spot", "cell", "some", "rest"] ["tape", "many"] (defScope sDraw) := ⟨rfl, rfl, rfl, by decide +kernel, rfl, by decide +kernel, by decide +kernel⟩
theorem ok_draw (F : Fun K "_law_draw" "_law_draw" sDraw f fd) (T : Txt mg) : FnOk P w K mg base CX0 1 f fd ["tape", "many"] spDraw := by
  refine F.ok scDraw (fun vs H Q E h => ?_) (fun cdv A outer s H vs Q E hr h => ?_)
  · obtain ⟨tp, many, B, rfl, _⟩ := h
    rfl
  · obtain ⟨tp, many, B, rfl, cl, ⟨ns, spot, rest, left, h1, h2, h3, h4, h5⟩, hB, hm, hm2, k⟩ := h
    have hne : cl ≠ tp := by
      rintro rfl
      rw [h1] at h2
      injection h2 with h2
      injection h2 with h2
      cases ns with
      | nil => cases h2
      | cons n r => injection h2 with z; cases z
    -- tape[i]
    refine ⟨_, pss_cons (ps_if (pt_cmpR op_eq (pe_ix ix_list (pv 0) pe_int (fun _ _ => rfl)) pe_int (nomark _))
        (pss_cons (ps_set (i := 2) scDraw.nd rfl (Or.inl rfl) (pe_ix ix_list (pv 0) pe_int (fun _ _ => rfl)))
        (pss_cons (ps_asg (pe_op op_add (pv 2) pe_int) (pg_sub (pv 0) pe_int set_list))
        (pss_cons (ps_set (i := 3) scDraw.nd rfl (Or.inl rfl) pe_int)
        (pss_cons (ps_if (pt_cmpR op_gt (pe_callB call_len_seq (by rfl) T.len PySem.boot_len (pa_cons (pe_ix ix_list (pv 0) pe_int (fun _ _ => rfl)) pa_nil)) pe_int (nomark _))
          (pss_one (ps_set (i := 3) scDraw.nd rfl (Or.inl rfl) (pe_ix ix_list (pe_ix ix_list (pv 0) pe_int (fun _ _ => rfl)) (pe_op op_mod (pv 2) (pe_callB call_len_seq (by rfl) T.len PySem.boot_len (pa_cons (pe_ix ix_list (pv 0) pe_int (fun _ _ => rfl)) pa_nil))) (fun _ _ => rfl)))) pss_nil)
        (pss_cons (ps_if (PW.pt (pw_or (pt_cmpR op_ge (pv 2) (pe_callB call_len_seq (by rfl) T.len PySem.boot_len (pa_cons (pe_ix ix_list (pv 0) pe_int (fun _ _ => rfl)) pa_nil)) (nomark _)) (pw_or1 (pt_cmpR op_lt (pv 3) (pe_op op_pow pe_int pe_int) (nomark _)))))
          (pss_cons (ps_set (i := 4) scDraw.nd rfl (Or.inl rfl) (pe_op op_add (pe_op op_add (pe_op op_mod (pe_op op_mul (pv 2) (pv 2)) pe_int) (pe_op op_mul pe_int (pv 2))) pe_int))
          (pss_cons (ps_set (i := 4) scDraw.nd rfl (Or.inl rfl) (pe_op op_mod (pe_op op_mul (pe_op op_add (pe_op op_mod (pv 3) pe_int) pe_int) (pv 4)) pe_int))
          (pss_one (ps_ret (pe_op op_mod (pe_op op_mod (pe_op op_add (pe_op op_fdiv (pe_op op_mod (pe_op op_mul (pv 4) (pv 4)) pe_int) pe_int) (pe_op op_mul pe_int (pv 2))) pe_int) (pv 1)))))) pss_nil)
        (pss_cons (ps_asg (pe_op op_sub (pv 3) (pe_op op_pow pe_int pe_int)) (pg_sub (pv 0) pe_int set_list))
        (pss_one (ps_asg pe_int (pg_sub (pv 0) pe_int set_list))))))))) pss_nil)
      (pss_cons (ps_asg (pe_op op_sub (pe_ix ix_list (pv 0) pe_int (fun _ _ => rfl)) pe_int) (pg_sub (pv 0) pe_int set_list))
      (pss_cons (ps_set (i := 5) scDraw.nd rfl (Or.inl rfl) (pe_ix ix_list (pv 0) pe_int (fun _ _ => rfl)))
      (pss_cons (ps_asg (pe_op op_fdivL (pv 5) (pv 1)) (pg_sub (pv 0) pe_int set_list))
      (pss_one (ps_ret (pe_op op_mod (pv 5) (pv 1))))))), ?_⟩
    try dsimp only [cxK]
    have hmd : many.natAbs < 2 ^ 8000 := by
      have : many.natAbs < 2 ^ 100 := by
        have h : ((2 ^ 100 : Nat) : Int) = 2 ^ 100 := by decide
        omega
      exact Nat.lt_of_lt_of_le this (Nat.pow_le_pow_right (by decide) (by decide))
    -- what is done behind the first test: one digit of rest is taken
    have tail : ∀ (spot' rest' left' : Int) (a b c d : Option V) (H1 : Hp), H1 tp = some (.lst [.ref cl, .int spot', .int rest', .int left']) → But tp H H1 → 0 ≤ spot' → spot' ≤ B + 1 →
        (tSeq (tAsg (tOp (rI0 fun i j => V.int (i - j)) (tOp (rIxL K) (tVar 0) (tC (.int 3))) (tC (.int 1))) (gSub (tVar 0) (tC (.int 3)) rSetL))
          (tSeq (tAsg (tOp (rIxL K) (tVar 0) (tC (.int 2))) (gName 5))
          (tSeq (tAsg (tOp (rI CDivL fun i j => .int (i / j)) (tVar 5) (tVar 1)) (gSub (tVar 0) (tC (.int 2)) rSetL))
          (tRet (tOp (rI (fun _ j => 0 < j) fun i j => .int (i % j)) (tVar 5) (tVar 1)))))) { nx := fun _ H' => Q .non H', rt := Q } [some (.ref tp), some (.int many), a, b, c, d] H1 := by
      intro spot' rest' left' a b c d H1 g1 g2 g3 g4
      refine (rvL rfl (SqL.of g1) rfl ⟨_, _, rfl, rfl, ?_⟩)
      refine gSet rfl g1 rfl ?_
      refine (rvL rfl (SqL.of upd_same) rfl ?_)
      refine oVV rfl rfl ⟨hm, hmd⟩ (gSet rfl upd_same rfl ?_)
      refine ⟨_, rfl, _, rfl, _, _, rfl, rfl, hm, ?_⟩
      refine k _ _ (Int.emod_nonneg _ (by omega)) (Int.emod_lt_of_pos _ hm) ⟨ns, spot', _, _, upd_same, ?_, h3, g3, g4⟩ ?_
      · rw [upd_ne hne, upd_ne hne]
        exact g2 _ _ h2 hne
      · exact (g2.trans (But.upd _ _ _)).trans (But.upd _ _ _)
    refine (rvL rfl (SqL.of h1) rfl ⟨rfl, _, rfl, ?_⟩)
    by_cases hl : left = 0
    · subst hl
      refine iteP (by decide) ?_
      -- spot = tape[1]; tape[1] = spot + 1; cell = 0
      refine (rvL rfl (SqL.of h1) rfl ?_)
      refine ⟨_, rfl, _, _, rfl, rfl, gSet rfl h1 rfl ?_⟩
      -- the tape, one spot on
      have T1 : ∀ o, (upd H tp o) cl = some (.lst (ns.map V.int)) := fun o => by
        rw [upd_ne hne]
        exact h2
      -- behind the second test, the cell known
      have mid : ∀ (cell : Int) (b c : Option V), (tSeq (tIfS (tOr (tTest (tOp (rI0 fun i j => V.bl (decide (j ≤ i))) (tVar 2) (tCB (fun xs H Q => ∃ p ys, xs = [V.ref p] ∧ (SqL K H p ys ∨ SqT K H p ys) ∧ Q (.int ys.length) H) (tCons (tOp (rIxL K) (tVar 0) (tC (.int 0))) tNil))))
            (tTest (tOp (rI0 fun i j => V.bl (decide (i < j))) (tVar 3) (tOp (rI CPow fun i j => .int (i ^ j.toNat)) (tC (.int 10)) (tC (.int 18))))))
          (tSeq (tAsg (tOp (rI0 fun i j => V.int (i + j)) (tOp (rI0 fun i j => V.int (i + j)) (tOp (rI (fun _ j => 0 < j) fun i j => .int (i % j)) (tOp (rI CMul fun i j => .int (i * j)) (tVar 2) (tVar 2)) (tC (.int 10007))) (tOp (rI CMul fun i j => .int (i * j)) (tC (.int 61)) (tVar 2))) (tC (.int 7))) (gName 4))
          (tSeq (tAsg (tOp (rI (fun _ j => 0 < j) fun i j => .int (i % j)) (tOp (rI CMul fun i j => .int (i * j)) (tOp (rI0 fun i j => V.int (i + j)) (tOp (rI (fun _ j => 0 < j) fun i j => .int (i % j)) (tVar 3) (tC (.int 999983))) (tC (.int 3))) (tVar 4)) (tC (.int 1000003))) (gName 4))
          (tRet (tOp (rI (fun _ j => 0 < j) fun i j => .int (i % j)) (tOp (rI (fun _ j => 0 < j) fun i j => .int (i % j)) (tOp (rI0 fun i j => V.int (i + j)) (tOp (rI CDiv fun i j => .int (i / j)) (tOp (rI (fun _ j => 0 < j) fun i j => .int (i % j)) (tOp (rI CMul fun i j => .int (i * j)) (tVar 4) (tVar 4)) (tC (.int 999979))) (tC (.int 3))) (tOp (rI CMul fun i j => .int (i * j)) (tC (.int 131)) (tVar 2))) (tC (.int 99991))) (tVar 1)))))
          tNext)
          (tSeq (tAsg (tOp (rI0 fun i j => V.int (i - j)) (tVar 3) (tOp (rI CPow fun i j => .int (i ^ j.toNat)) (tC (.int 10)) (tC (.int 18)))) (gSub (tVar 0) (tC (.int 2)) rSetL))
          (tAsg (tC (.int 40)) (gSub (tVar 0) (tC (.int 3)) rSetL))))
          { nx := (tSeq (tAsg (tOp (rI0 fun i j => V.int (i - j)) (tOp (rIxL K) (tVar 0) (tC (.int 3))) (tC (.int 1))) (gSub (tVar 0) (tC (.int 3)) rSetL))
          (tSeq (tAsg (tOp (rIxL K) (tVar 0) (tC (.int 2))) (gName 5))
          (tSeq (tAsg (tOp (rI CDivL fun i j => .int (i / j)) (tVar 5) (tVar 1)) (gSub (tVar 0) (tC (.int 2)) rSetL))
          (tRet (tOp (rI (fun _ j => 0 < j) fun i j => .int (i % j)) (tVar 5) (tVar 1)))))) { nx := fun _ H' => Q .non H', rt := Q }, rt := Q } [some (.ref tp), some (.int many), some (.int spot), some (.int cell), b, c] (upd H tp (.lst [.ref cl, .int (spot + 1), .int rest, .int 0])) := by
        intro cell b c
        have pw : CPow 10 18 := ⟨by decide, by decide, by decide⟩
        have drawn : (tSeq (tAsg (tOp (rI0 fun i j => V.int (i + j)) (tOp (rI0 fun i j => V.int (i + j)) (tOp (rI (fun _ j => 0 < j) fun i j => .int (i % j)) (tOp (rI CMul fun i j => .int (i * j)) (tVar 2) (tVar 2)) (tC (.int 10007))) (tOp (rI CMul fun i j => .int (i * j)) (tC (.int 61)) (tVar 2))) (tC (.int 7))) (gName 4))
          (tSeq (tAsg (tOp (rI (fun _ j => 0 < j) fun i j => .int (i % j)) (tOp (rI CMul fun i j => .int (i * j)) (tOp (rI0 fun i j => V.int (i + j)) (tOp (rI (fun _ j => 0 < j) fun i j => .int (i % j)) (tVar 3) (tC (.int 999983))) (tC (.int 3))) (tVar 4)) (tC (.int 1000003))) (gName 4))
          (tRet (tOp (rI (fun _ j => 0 < j) fun i j => .int (i % j)) (tOp (rI (fun _ j => 0 < j) fun i j => .int (i % j)) (tOp (rI0 fun i j => V.int (i + j)) (tOp (rI CDiv fun i j => .int (i / j)) (tOp (rI (fun _ j => 0 < j) fun i j => .int (i % j)) (tOp (rI CMul fun i j => .int (i * j)) (tVar 4) (tVar 4)) (tC (.int 999979))) (tC (.int 3))) (tOp (rI CMul fun i j => .int (i * j)) (tC (.int 131)) (tVar 2))) (tC (.int 99991))) (tVar 1))))) { nx := fun _ _ => False, rt := Q } [some (.ref tp), some (.int many), some (.int spot), some (.int cell), b, c] (upd H tp (.lst [.ref cl, .int (spot + 1), .int rest, .int 0])) := by
          refine ⟨_, rfl, _, rfl, _, _, rfl, rfl, .inl ⟨by omega, by omega⟩, _, _, rfl, rfl, (by show (0 : Int) < _; decide), ?_⟩
          refine ⟨_, rfl, _, _, rfl, rfl, .inl ⟨by omega, by omega⟩, _, _, rfl, rfl, _, _, rfl, rfl, ?_⟩
          have c1 := Int.emod_nonneg cell (b := 999983) (by decide)
          have c2 := Int.emod_lt_of_pos cell (b := 999983) (by decide)
          refine ⟨_, rfl, _, _, rfl, rfl, (by show (0 : Int) < _; decide), _, _, rfl, rfl, _, rfl, _, _, rfl, rfl, .inl ⟨by omega, by omega⟩, _, _, rfl, rfl, (by show (0 : Int) < _; decide), ?_⟩
          generalize hx : ((cell % 999983 + 3) * (spot * spot % 10007 + 61 * spot + 7)) = x
          have d1 := Int.emod_nonneg x (b := 1000003) (by decide)
          have d2 := Int.emod_lt_of_pos x (b := 1000003) (by decide)
          refine ⟨_, rfl, _, rfl, _, _, rfl, rfl, .inl ⟨by omega, by omega⟩, _, _, rfl, rfl, (by show (0 : Int) < _; decide), _, _, rfl, rfl, ⟨by decide, by decide⟩, ?_⟩
          refine ⟨_, rfl, _, _, rfl, rfl, .inl ⟨by decide, by decide⟩, _, _, rfl, rfl, _, _, rfl, rfl, (by show (0 : Int) < _; decide), _, rfl, _, _, rfl, rfl, hm, ?_⟩
          exact k _ _ (Int.emod_nonneg _ (by omega)) (Int.emod_lt_of_pos _ hm) ⟨ns, spot + 1, _, _, upd_same, T1 _, h3, by omega, by omega⟩ (But.upd _ _ _)
        refine ⟨_, rfl, rvL rfl (SqL.of upd_same) rfl ⟨cl, _, rfl, .inl (SqL.of (T1 _)), _, _, rfl, rfl, _, rfl, ?_⟩⟩
        by_cases z1 : ((ns.map V.int).length : Int) ≤ spot
        · refine iteP (decide_eq_true z1) (iteT ?_)
          exact drawn
        · refine iteN (decide_eq_false z1) ?_
          refine ⟨_, rfl, _, _, rfl, rfl, pw, _, _, rfl, rfl, _, rfl, ?_⟩
          by_cases z2 : cell < (10 : Int) ^ (18 : Int).toNat
          · refine iteP (decide_eq_true z2) ?_
            exact drawn
          · refine iteN (decide_eq_false z2) ?_
            refine ⟨_, rfl, _, _, rfl, rfl, pw, _, _, rfl, rfl, gSet rfl upd_same rfl ?_⟩
            refine gSet rfl upd_same rfl ?_
            exact tail (spot + 1) _ 40 _ _ _ _ _ upd_same (((But.upd _ _ _).trans (But.upd _ _ _)).trans (But.upd _ _ _)) (by omega) (by omega)
      refine (rvL rfl (SqL.of upd_same) rfl ⟨cl, _, rfl, .inl (SqL.of (T1 _)), _, _, rfl, rfl, _, rfl, ?_⟩)
      by_cases hn : (0 : Int) < ((ns.map V.int).length : Int)
      · refine iteP (decide_eq_true hn) ?_
        obtain ⟨c, hc⟩ := at_ints (ns := ns) (i := spot % ((ns.map V.int).length : Int)) (Int.emod_nonneg _ (by omega)) (by have := Int.emod_lt_of_pos spot hn; rw [List.length_map] at this ⊢; exact this)
        refine (rvL rfl (SqL.of upd_same) rfl ⟨_, rfl, rvL rfl (SqL.of upd_same) rfl ⟨cl, _, rfl, .inl (SqL.of (T1 _)), _, _, rfl, rfl, hn, cl, _, _, _, rfl, rfl, SqL.of (T1 _), hc, ?_⟩⟩)
        exact mid c _ _
      · refine iteN (decide_eq_false hn) ?_
        exact mid 0 _ _
    · refine iteN (decide_eq_false (by intro z; injection z with z; exact hl z)) ?_
      exact tail spot rest left _ _ _ _ H h1 (But.refl _ _) h4 (by omega)
end
end Lw

namespace Lw
open PySem PySem.Spec PyProof.Rows L2
structure FrOk (n : Nat) (t b : Int) : Prop where
  pos : 0 < b
  low : Int.gcd t b = 1
  st : t.natAbs < 2 ^ n
  sb : b.natAbs < 2 ^ n
noncomputable def At2 (H : Hp) (p : Addr) (t b : Int) : Prop := H p = some (.tup [.int t, .int b])
theorem abs_mul {a b : Int} {m n : Nat} (ha : a.natAbs < 2 ^ m) (hb : b.natAbs < 2 ^ n) : (a * b).natAbs < 2 ^ (m + n) := by
  rw [Int.natAbs_mul, Nat.pow_add]
  exact Nat.mul_lt_mul'' ha hb
theorem abs_add {a b : Int} {n : Nat} (ha : a.natAbs < 2 ^ n) (hb : b.natAbs < 2 ^ n) : (a + b).natAbs < 2 ^ (n + 1) := by
  rw [Nat.pow_succ]
  omega
theorem abs_up {a : Int} {m n : Nat} (ha : a.natAbs < 2 ^ m) (h : m ≤ n) : a.natAbs < 2 ^ n := Nat.lt_of_lt_of_le ha (Nat.pow_le_pow_right (by decide) h)
theorem abs_div {a g : Int} {n : Nat} (ha : a.natAbs < 2 ^ n) (hg : 1 ≤ g) : (a / g).natAbs < 2 ^ n := Nat.lt_of_le_of_lt (LwM.ediv_abs a g hg) ha
theorem gcd_abs {a b : Int} {n : Nat} (hb : 0 < b) (hs : b.natAbs < 2 ^ n) : ((Int.gcd a b : Nat) : Int).natAbs < 2 ^ n := by
  have := LwM.gcd_le a b hb
  have := LwM.gcd_pos a b hb
  omega
theorem low_posT {t b : Int} (h : 0 < b) : lowT t b = t / (Int.gcd t b : Int) := (low_pos h).1
theorem low_posB {t b : Int} (h : 0 < b) : lowB t b = b / (Int.gcd t b : Int) := (low_pos h).2
noncomputable def spTwo (K : PySem.W.Frag) (nt nb : Int → Int → Int → Int → Int) : Sp := fun vs H Q _ => ∃ (p q : Addr) (t b o u : Int), vs = [.ref p, .ref q] ∧ SqT K H p [.int t, .int b] ∧ SqT K H q [.int o, .int u] ∧ FrOk 7900 t b ∧ FrOk 7900 o u ∧
  ∀ (r : Addr) (H' : Hp), H r = none → Same H H' → At2 H' r (lowT (nt t b o u) (nb t b o u)) (lowB (nt t b o u) (nb t b o u)) → Q (.ref r) H'
noncomputable abbrev spAdded (K : PySem.W.Frag) : Sp := spTwo K (fun t b o u => t * u + o * b) (fun _ b _ u => b * u)
noncomputable abbrev spLess (K : PySem.W.Frag) : Sp := spTwo K (fun t b o u => t * u - o * b) (fun _ b _ u => b * u)
noncomputable abbrev spMul (K : PySem.W.Frag) : Sp := spTwo K (fun t _ o _ => t * o) (fun _ b _ u => b * u)
theorem sqT_same {K : PySem.W.Frag} {H H' : Hp} {a : Addr} {xs : List V} (s : Same H H') (h : SqT K H a xs) : SqT K H' a xs := by
  rcases h with (h | ⟨o, h⟩) | h
  · exact .inl (.inl (s _ _ h))
  · exact .inl (.inr ⟨o, s _ _ h⟩)
  · exact .inr h
section
variable {P : Program} {w : World} {K : PySem.W.Frag} {mg : Str → Option Value} {base : Heap} {f fd : _}
theorem scAdded : FnScope ["one", "other", "top", "bottom", "over", "under", "shared", "total", "left"] ["one", "other"] (defScope sAdded) := ⟨rfl, rfl, rfl, by decide +kernel, rfl, by decide +kernel, by decide +kernel⟩
theorem ok_added {fG : Addr} {fdG : FuncData} (F : Fun K "added" "added" sAdded f fd) (T : Txt mg) (DG : Df K mg "greatest_divisor" sGcd ["one", "other"] fG fdG) : FnOk P w K mg base CX0 2 f fd ["one", "other"] (spAdded K) := by
  have GG : FnOk P w K mg base CX0 1 fG fdG ["one", "other"] spGcd := ok_gcd DG.F T
  refine F.ok scAdded (fun vs H Q E h => ?_) (fun cdv A outer s H vs Q E hr h => ?_)
  · obtain ⟨p, q, t, b, o, u, rfl, _⟩ := h
    rfl
  · obtain ⟨p, q, t, b, o, u, rfl, hp, hq, f1, f2, k⟩ := h
    refine ⟨_, pss_cons (ps_asg (pv 0) (pg_tup rfl (pgs_cons (pg_name (i := 2) scAdded.nd rfl (Or.inl rfl)) (pgs_cons (pg_name (i := 3) scAdded.nd rfl (Or.inl rfl)) pgs_nil))))
      (pss_cons (ps_asg (pv 1) (pg_tup rfl (pgs_cons (pg_name (i := 4) scAdded.nd rfl (Or.inl rfl)) (pgs_cons (pg_name (i := 5) scAdded.nd rfl (Or.inl rfl)) pgs_nil))))
      (pss_cons (ps_set (i := 6) scAdded.nd rfl (Or.inl rfl) (pe_call GG hr rfl DG.m DG.F.kp DG.b .nil pass0 (pa_cons (pv 3) (pa_cons (pv 5) pa_nil))))
      (pss_cons (ps_set (i := 7) scAdded.nd rfl (Or.inl rfl) (pe_op op_add (pe_op op_mulL (pv 2) (pe_op op_fdivL (pv 5) (pv 6))) (pe_op op_mulL (pv 4) (pe_op op_fdivL (pv 3) (pv 6)))))
      (pss_cons (ps_set (i := 8) scAdded.nd rfl (Or.inl rfl) (pe_call GG hr rfl DG.m DG.F.kp DG.b .nil pass0 (pa_cons (pv 7) (pa_cons (pv 6) pa_nil))))
      (pss_one (ps_ret (pe_tupF (pa_cons (pe_op op_fdivL (pv 7) (pv 8)) (pa_cons (pe_op op_mulL (pe_op op_fdivL (pv 3) (pv 6)) (pe_op op_fdivL (pv 5) (pv 8))) pa_nil))))))))), ?_⟩
    try dsimp only [cxK]
    refine ⟨_, rfl, p, _, rfl, hp, rfl, _, _, rfl, _, _, rfl, rfl, ?_⟩
    refine ⟨_, rfl, q, _, rfl, hq, rfl, _, _, rfl, _, _, rfl, rfl, ?_⟩
    have s1 := LwM.gcd_pos b u f2.pos
    have sA : ((Int.gcd b u : Nat) : Int).natAbs < 2 ^ 7900 := gcd_abs f2.pos f2.sb
    have sD : CDivL u (Int.gcd b u : Int) := ⟨by omega, abs_up sA (by decide)⟩
    refine ⟨_, rfl, _, rfl, b, u, rfl, f2.pos, abs_up f2.sb (by decide), ?_⟩
    refine ⟨_, rfl, _, rfl, _, rfl, _, _, rfl, rfl, sD, _, _, rfl, rfl, ⟨abs_up f1.st (by decide), abs_up (abs_div f2.sb s1) (by decide)⟩, ?_⟩
    refine ⟨_, rfl, _, rfl, _, rfl, _, _, rfl, rfl, sD, _, _, rfl, rfl, ⟨abs_up f2.st (by decide), abs_up (abs_div f1.sb s1) (by decide)⟩, _, _, rfl, rfl, ?_⟩
    have tA : (t * (u / (Int.gcd b u : Int)) + o * (b / (Int.gcd b u : Int))).natAbs < 2 ^ 15801 := abs_add (n := 15800) (abs_mul (m := 7900) (n := 7900) f1.st (abs_div f2.sb s1)) (abs_mul (m := 7900) (n := 7900) f2.st (abs_div f1.sb s1))
    refine ⟨_, rfl, _, rfl, _, _, rfl, by omega, abs_up sA (by decide), ?_⟩
    have m := LwM.add_low f1.pos f2.pos f1.low f2.low
    have l1 := LwM.gcd_pos (t * (u / (Int.gcd b u : Int)) + o * (b / (Int.gcd b u : Int))) (Int.gcd b u : Int) (by omega)
    have lA : ((Int.gcd (t * (u / (Int.gcd b u : Int)) + o * (b / (Int.gcd b u : Int))) (Int.gcd b u : Int) : Nat) : Int).natAbs < 2 ^ 7900 := gcd_abs (by omega) sA
    generalize hT : t * (u / (Int.gcd b u : Int)) + o * (b / (Int.gcd b u : Int)) = T at *
    generalize hl : (Int.gcd T (Int.gcd b u : Int) : Int) = l at *
    have lD : CDivL u l := ⟨by omega, abs_up lA (by decide)⟩
    refine ⟨_, rfl, _, rfl, _, _, rfl, rfl, lD, _, rfl, _, rfl, _, _, rfl, rfl, sD, _, rfl, _, rfl, _, _, rfl, rfl, lD, _, _, rfl, rfl, ⟨abs_up (abs_div f1.sb s1) (by decide), abs_up (abs_div f2.sb (by omega)) (by decide)⟩, (by show 2 ≤ sizeLine; decide), fun r H' n s e => ?_⟩
    refine k r H' n s ?_
    have bu := Int.mul_pos f1.pos f2.pos
    show H' r = _
    rw [e, low_posT bu, low_posB bu]
    dsimp only
    rw [hT, m.1, m.2]
theorem scLess : FnScope ["one", "other", "over", "under"] ["one", "other"] (defScope sLess) := ⟨rfl, rfl, rfl, by decide +kernel, rfl, by decide +kernel, by decide +kernel⟩
theorem ok_less {fA fG : Addr} {fdA fdG : FuncData} (F : Fun K "less" "less" sLess f fd) (T : Txt mg) (DA : Df K mg "added" sAdded ["one", "other"] fA fdA) (DG : Df K mg "greatest_divisor" sGcd ["one", "other"] fG fdG) : FnOk P w K mg base CX0 3 f fd ["one", "other"] (spLess K) := by
  have GA : FnOk P w K mg base CX0 2 fA fdA ["one", "other"] (spAdded K) := ok_added DA.F T DG
  refine F.ok scLess (fun vs H Q E h => ?_) (fun cdv A outer s H vs Q E hr h => ?_)
  · obtain ⟨p, q, t, b, o, u, rfl, _⟩ := h
    rfl
  · obtain ⟨p, q, t, b, o, u, rfl, hp, hq, f1, f2, k⟩ := h
    refine ⟨_, pss_cons (ps_asg (pv 1) (pg_tup rfl (pgs_cons (pg_name (i := 2) scLess.nd rfl (Or.inl rfl)) (pgs_cons (pg_name (i := 3) scLess.nd rfl (Or.inl rfl)) pgs_nil))))
      (pss_one (ps_ret (pe_call GA hr rfl DA.m DA.F.kp DA.b .nil pass0 (pa_cons (pv 0) (pa_cons (pe_tupF (pa_cons (pe_un un_neg (pv 2)) (pa_cons (pv 3) pa_nil))) pa_nil))))), ?_⟩
    try dsimp only [cxK]
    refine ⟨_, rfl, q, _, rfl, hq, rfl, _, _, rfl, _, _, rfl, rfl, ?_⟩
    refine ⟨_, rfl, _, rfl, _, rfl, _, rfl, (by show 2 ≤ sizeLine; decide), fun z H1 n1 s1 e1 => ?_⟩
    refine ⟨p, z, t, b, -o, u, rfl, sqT_same s1 hp, SqT.of e1, f1, ⟨f2.pos, by rw [Int.neg_gcd]; exact f2.low, by rw [Int.natAbs_neg]; exact f2.st, f2.sb⟩, fun r H' n s e => ?_⟩
    refine k r H' (s1.free n) (s1.trans s) ?_
    have ee : t * u + -o * b = t * u - o * b := by rw [Int.neg_mul]; omega
    dsimp only at e
    rw [ee] at e
    exact e
theorem scMul : FnScope ["one", "other", "top", "bottom", "over", "under", "first", "second"] ["one", "other"] (defScope sMul) := ⟨rfl, rfl, rfl, by decide +kernel, rfl, by decide +kernel, by decide +kernel⟩
theorem ok_mul {fG : Addr} {fdG : FuncData} (F : Fun K "multiplied" "multiplied" sMul f fd) (T : Txt mg) (DG : Df K mg "greatest_divisor" sGcd ["one", "other"] fG fdG) : FnOk P w K mg base CX0 2 f fd ["one", "other"] (spMul K) := by
  have GG : FnOk P w K mg base CX0 1 fG fdG ["one", "other"] spGcd := ok_gcd DG.F T
  refine F.ok scMul (fun vs H Q E h => ?_) (fun cdv A outer s H vs Q E hr h => ?_)
  · obtain ⟨p, q, t, b, o, u, rfl, _⟩ := h
    rfl
  · obtain ⟨p, q, t, b, o, u, rfl, hp, hq, f1, f2, k⟩ := h
    refine ⟨_, pss_cons (ps_asg (pv 0) (pg_tup rfl (pgs_cons (pg_name (i := 2) scMul.nd rfl (Or.inl rfl)) (pgs_cons (pg_name (i := 3) scMul.nd rfl (Or.inl rfl)) pgs_nil))))
      (pss_cons (ps_asg (pv 1) (pg_tup rfl (pgs_cons (pg_name (i := 4) scMul.nd rfl (Or.inl rfl)) (pgs_cons (pg_name (i := 5) scMul.nd rfl (Or.inl rfl)) pgs_nil))))
      (pss_cons (ps_set (i := 6) scMul.nd rfl (Or.inl rfl) (pe_call GG hr rfl DG.m DG.F.kp DG.b .nil pass0 (pa_cons (pv 2) (pa_cons (pv 5) pa_nil))))
      (pss_cons (ps_set (i := 7) scMul.nd rfl (Or.inl rfl) (pe_call GG hr rfl DG.m DG.F.kp DG.b .nil pass0 (pa_cons (pv 4) (pa_cons (pv 3) pa_nil))))
      (pss_one (ps_ret (pe_tupF (pa_cons (pe_op op_mulL (pe_op op_fdivL (pv 2) (pv 6)) (pe_op op_fdivL (pv 4) (pv 7))) (pa_cons (pe_op op_mulL (pe_op op_fdivL (pv 3) (pv 7)) (pe_op op_fdivL (pv 5) (pv 6))) pa_nil)))))))), ?_⟩
    try dsimp only [cxK]
    refine ⟨_, rfl, p, _, rfl, hp, rfl, _, _, rfl, _, _, rfl, rfl, ?_⟩
    refine ⟨_, rfl, q, _, rfl, hq, rfl, _, _, rfl, _, _, rfl, rfl, ?_⟩
    refine ⟨_, rfl, _, rfl, t, u, rfl, f2.pos, abs_up f2.sb (by decide), ?_⟩
    refine ⟨_, rfl, _, rfl, o, b, rfl, f1.pos, abs_up f1.sb (by decide), ?_⟩
    have a1 := LwM.gcd_pos t u f2.pos
    have a2 := LwM.gcd_pos o b f1.pos
    have d1 : CDivL t (Int.gcd t u : Int) := ⟨by omega, abs_up (gcd_abs f2.pos f2.sb) (by decide)⟩
    have d2 : CDivL t (Int.gcd o b : Int) := ⟨by omega, abs_up (gcd_abs f1.pos f1.sb) (by decide)⟩
    have m := LwM.mul_low f1.pos f2.pos f1.low f2.low
    refine ⟨_, rfl, _, rfl, _, _, rfl, rfl, d1, _, rfl, _, rfl, _, _, rfl, rfl, d2, _, _, rfl, rfl, ⟨abs_up (abs_div f1.st a1) (by decide), abs_up (abs_div f2.st a2) (by decide)⟩, ?_⟩
    refine ⟨_, rfl, _, rfl, _, _, rfl, rfl, d2, _, rfl, _, rfl, _, _, rfl, rfl, d1, _, _, rfl, rfl, ⟨abs_up (abs_div f1.sb a2) (by decide), abs_up (abs_div f2.sb a1) (by decide)⟩, (by show 2 ≤ sizeLine; decide), fun r H' n s e => ?_⟩
    refine k r H' n s ?_
    have bu := Int.mul_pos f1.pos f2.pos
    show H' r = _
    rw [e, low_posT bu, low_posB bu]
    dsimp only
    rw [m.1, m.2]
end
noncomputable def spDivN (K : PySem.W.Frag) : Sp := fun vs H Q _ => ∃ (p q : Addr) (t b o u : Int), vs = [.ref p, .ref q] ∧ SqT K H p [.int t, .int b] ∧ SqT K H q [.int o, .int u] ∧ FrOk 7900 t b ∧ FrOk 7900 o u ∧ o ≠ 0 ∧
  ∀ (r : Addr) (H' : Hp), H r = none → Same H H' → At2 H' r (lowT (t * u) (b * o)) (lowB (t * u) (b * o)) → Q (.ref r) H'
theorem low_neg {t b : Int} (h : b < 0) : lowT (-t) (-b) = lowT t b ∧ lowB (-t) (-b) = lowB t b := by
  unfold lowT lowB
  simp only [if_neg (show ¬ (-b < 0) by omega), if_pos h, Int.neg_gcd, Int.gcd_neg, Int.zero_sub]
  exact ⟨trivial, trivial⟩
section
variable {P : Program} {w : World} {K : PySem.W.Frag} {mg : Str → Option Value} {base : Heap} {f fd : _}
theorem scDiv : FnScope ["one", "other", "over", "under"] ["one", "other"] (defScope sDiv) := ⟨rfl, rfl, rfl, by decide +kernel, rfl, by decide +kernel, by decide +kernel⟩
theorem ok_divN {fM fG : Addr} {fdM fdG : FuncData} (F : Fun K "divided" "divided" sDiv f fd) (T : Txt mg) (DM : Df K mg "multiplied" sMul ["one", "other"] fM fdM) (DG : Df K mg "greatest_divisor" sGcd ["one", "other"] fG fdG) : FnOk P w K mg base CX0 3 f fd ["one", "other"] (spDivN K) := by
  have GM : FnOk P w K mg base CX0 2 fM fdM ["one", "other"] (spMul K) := ok_mul DM.F T DG
  refine F.ok scDiv (fun vs H Q E h => ?_) (fun cdv A outer s H vs Q E hr h => ?_)
  · obtain ⟨p, q, t, b, o, u, rfl, _⟩ := h
    rfl
  · obtain ⟨p, q, t, b, o, u, rfl, hp, hq, f1, f2, ho, k⟩ := h
    refine ⟨_, pss_cons (ps_asg (pv 1) (pg_tup rfl (pgs_cons (pg_name (i := 2) scDiv.nd rfl (Or.inl rfl)) (pgs_cons (pg_name (i := 3) scDiv.nd rfl (Or.inl rfl)) pgs_nil))))
      (pss_cons (ps_if (pt_cmpR op_eq (pv 2) pe_int (nomark _)) (pss_one ps_never) pss_nil)
      (pss_cons (ps_if (pt_cmpR op_lt (pv 2) pe_int (nomark _)) (pss_one (ps_ret (pe_call GM hr rfl DM.m DM.F.kp DM.b .nil pass0 (pa_cons (pv 0) (pa_cons (pe_tupF (pa_cons (pe_un un_neg (pv 3)) (pa_cons (pe_un un_neg (pv 2)) pa_nil))) pa_nil))))) pss_nil)
      (pss_one (ps_ret (pe_call GM hr rfl DM.m DM.F.kp DM.b .nil pass0 (pa_cons (pv 0) (pa_cons (pe_tupF (pa_cons (pv 3) (pa_cons (pv 2) pa_nil))) pa_nil))))))), ?_⟩
    try dsimp only [cxK]
    refine ⟨_, rfl, q, _, rfl, hq, rfl, _, _, rfl, _, _, rfl, rfl, ?_⟩
    refine ⟨_, rfl, rfl, _, rfl, iteN (decide_eq_false (by intro z; injection z with z; exact ho z)) ?_⟩
    refine ⟨_, rfl, _, _, rfl, rfl, _, rfl, ?_⟩
    have gc : Int.gcd u o = 1 := by rw [Int.gcd_comm]; exact f2.low
    by_cases hn : o < 0
    · refine iteP (decide_eq_true hn) ?_
      refine ⟨_, rfl, _, rfl, _, rfl, _, rfl, _, rfl, (by show 2 ≤ sizeLine; decide), fun z H1 n1 s1 e1 => ?_⟩
      refine ⟨p, z, t, b, -u, -o, rfl, sqT_same s1 hp, SqT.of e1, f1, ⟨by omega, by rw [Int.neg_gcd, Int.gcd_neg]; exact gc, by rw [Int.natAbs_neg]; exact f2.sb, by rw [Int.natAbs_neg]; exact f2.st⟩, fun r H' n s e => ?_⟩
      refine k r H' (s1.free n) (s1.trans s) ?_
      dsimp only at e
      rw [Int.mul_neg, Int.mul_neg, (low_neg (Int.mul_neg_of_pos_of_neg f1.pos hn)).1, (low_neg (Int.mul_neg_of_pos_of_neg f1.pos hn)).2] at e
      exact e
    · refine iteN (decide_eq_false hn) ?_
      refine ⟨_, rfl, _, rfl, _, rfl, (by show 2 ≤ sizeLine; decide), fun z H1 n1 s1 e1 => ?_⟩
      refine ⟨p, z, t, b, u, o, rfl, sqT_same s1 hp, SqT.of e1, f1, ⟨by omega, gc, f2.sb, f2.st⟩, fun r H' n s e => ?_⟩
      exact k r H' (s1.free n) (s1.trans s) e
end
end Lw

namespace Lw
open PySem PySem.Spec PyProof.Rows L2
structure FrS (t b : Int) : Prop where
  pos : 0 < b
  low : Int.gcd t b = 1
  st : t.natAbs < 2 ^ 40
  sb : b.natAbs < 2 ^ 10
section
variable {P : Program} {w : World} {K : PySem.W.Frag} {mg : Str → Option Value} {base : Heap} {f fd : _}
noncomputable def spDrawn (c M : Int) : Sp := fun vs H Q _ => ∃ (tp : Addr) (B : Int), vs = [.ref tp] ∧ ∃ cl, Tape cl H tp B ∧ B < M ∧
  ∀ (r : Addr) (t b : Int) (H' : Hp), FrS t b → At2 H' r t b → r ≠ tp → Tape cl H' tp (B + c) → But tp H H' → (∀ c o, H c = some o → c ≠ r) → Q (.ref r) H'
theorem dDrawn {c M : Int} {tp : Addr} {B : Int} {cl : Addr} {H : Hp} {Q : VK} {σ : L2.St} {a : Nat} (e : σ[a]? = some (some (.ref tp))) (hT : Tape cl H tp B) (h1 : B < M) (k : ∀ (r : Addr) (t b : Int) (H' : Hp), FrS t b → At2 H' r t b → r ≠ tp → Tape cl H' tp (B + c) → But tp H H' → (∀ c o, H c = some o → c ≠ r) → Q (.ref r) H') : tCall (spDrawn c M) [] E0 (tCons (tVar a) tNil) σ H Q := ⟨_, e, tp, B, rfl, cl, hT, h1, k⟩
theorem low_fr {t b : Int} (hb : 0 < b) (ht : t.natAbs < 2 ^ 40) (hs : b.natAbs < 2 ^ 10) : FrS (lowT t b) (lowB t b) := by
  have g1 := LwM.gcd_pos t b hb
  have gp : 0 < Int.gcd t b := by omega
  rw [low_posT hb, low_posB hb]
  refine ⟨?_, Int.gcd_ediv_gcd_ediv_gcd gp, abs_div ht g1, abs_div hs g1⟩
  exact Int.ediv_pos_of_pos_of_dvd hb (by omega) (Int.gcd_dvd_right ..)
theorem tape_ne {cl : Addr} {H : Hp} {tp r : Addr} {B : Int} (T : Tape cl H tp B) (n : H r = none) : r ≠ tp := by
  obtain ⟨ns, spot, rest, left, z, _⟩ := T
  rintro rfl
  rw [n] at z
  cases z
theorem none_of_but {p : Addr} {H H' : Hp} {r : Addr} (b : But p H H') (n : H' r = none) (hr : r ≠ p) : H r = none := by
  cases q : H r with
  | none => rfl
  | some o => rw [b r o q hr] at n; cases n
theorem scNumber : FnScope ["tape", "way", "top", "great"] ["tape"] (defScope sNumber) := ⟨rfl, rfl, rfl, by decide +kernel, rfl, by decide +kernel, by decide +kernel⟩
theorem ok_number {fD fL : Addr} {fdD fdL : FuncData} (F : Fun K "_law_number" "_law_number" sNumber f fd) (T : Txt mg) (DD : Df K mg "_law_draw" sDraw ["tape", "many"] fD fdD) (DL : Df K mg "_law_low" sLow ["top", "bottom"] fL fdL) : FnOk P w K mg base CX0 2 f fd ["tape"] (spDrawn 6 (2 ^ 38)) := by
  have GD : FnOk P w K mg base CX0 1 fD fdD ["tape", "many"] spDraw := ok_draw DD.F T
  have GL : FnOk P w K mg base CX0 1 fL fdL ["top", "bottom"] spLow := ok_low DL.F T
  refine F.ok scNumber (fun vs H Q E h => ?_) (fun cdv A outer s H vs Q E hr h => ?_)
  · obtain ⟨tp, B, rfl, _⟩ := h
    rfl
  · obtain ⟨tp, B, rfl, cl, hT, hB, k⟩ := h
    refine ⟨_, pss_cons (ps_set (i := 1) scNumber.nd rfl (Or.inl rfl) (pe_call GD hr rfl DD.m DD.F.kp DD.b .nil pass0 (pa_cons (pv 0) (pa_cons pe_int pa_nil))))
      (pss_cons (ps_set (i := 2) scNumber.nd rfl (Or.inl rfl) (pe_op op_sub (pe_call GD hr rfl DD.m DD.F.kp DD.b .nil pass0 (pa_cons (pv 0) (pa_cons pe_int pa_nil))) pe_int))
      (pss_cons (ps_if (pt_cmpR op_lt (pv 1) pe_int (nomark _)) (pss_one (ps_ret (pe_tupF (pa_cons (pv 2) (pa_cons pe_int pa_nil))))) pss_nil)
      (pss_cons (ps_if (pt_cmpR op_lt (pv 1) pe_int (nomark _)) (pss_one (ps_ret (pe_call GL hr rfl DL.m DL.F.kp DL.b .nil pass0 (pa_cons (pv 2) (pa_cons (pe_op op_add pe_int (pe_call GD hr rfl DD.m DD.F.kp DD.b .nil pass0 (pa_cons (pv 0) (pa_cons pe_int pa_nil)))) pa_nil))))) pss_nil)
      (pss_cons (ps_set (i := 3) scNumber.nd rfl (Or.inl rfl) (pe_op op_mul (pe_call GD hr rfl DD.m DD.F.kp DD.b .nil pass0 (pa_cons (pv 0) (pa_cons (pe_op op_pow pe_int pe_int) pa_nil))) (pe_op op_sub pe_int (pe_op op_mul pe_int (pe_call GD hr rfl DD.m DD.F.kp DD.b .nil pass0 (pa_cons (pv 0) (pa_cons pe_int pa_nil)))))))
      (pss_one (ps_ret (pe_call GL hr rfl DL.m DL.F.kp DL.b .nil pass0 (pa_cons (pv 3) (pa_cons (pe_op op_add pe_int (pe_call GD hr rfl DD.m DD.F.kp DD.b .nil pass0 (pa_cons (pv 0) (pa_cons pe_int pa_nil)))) pa_nil)))))))))
      , ?_⟩
    try dsimp only [cxK]
    refine (dDraw rfl hT (by omega) (by decide) (by decide) (fun way H1 w0 w1 T1 b1 => ?_))
    refine (dDraw rfl T1 (by omega) (by decide) (by decide) (fun top H2 t0 t1 T2 b2 => ⟨_, _, rfl, rfl, ?_⟩))
    have p10 : ∀ n : Int, 0 ≤ n → n ≤ 1000000 → CPow 10 n := fun n h0 h1 => ⟨h0, h1, by decide⟩
    -- a lowest pair, told
    have tell : ∀ (t b B' : Int) (H3 : Hp), 0 < b → t.natAbs < 2 ^ 40 → b.natAbs < 2 ^ 10 → Tape cl H3 tp B' → B' ≤ B + 6 → But tp H H3 → spLow [.int t, .int b] H3 Q E0 := by
      intro t b B' H3 hb ht hs T3 hB' b3
      refine ⟨t, b, rfl, by omega, .inl (abs_up hs (by decide)), fun p H4 n4 s4 e4 => ?_⟩
      refine k p _ _ H4 (low_fr hb ht hs) e4 (tape_ne T3 n4) (T3.mono s4 (by omega)) (b3.trans (But.of s4)) (fun c o hc hp => ?_)
      subst hp
      have := none_of_but b3 n4 (tape_ne T3 n4)
      rw [hc] at this
      cases this
    refine ⟨_, rfl, _, _, rfl, rfl, _, rfl, ?_⟩
    refine ite2 (fun _ => ?_) (fun _ => ?_)
    · refine ⟨_, rfl, (by show 2 ≤ sizeLine; decide), fun p H3 n3 s3 e3 => ?_⟩
      refine k p (top - 6) 1 H3 ⟨by decide, by simp, by omega, by decide⟩ e3 (tape_ne T2 n3) (T2.mono s3 (by omega)) ((b1.trans b2).trans (But.of s3)) (fun c o hc hp => ?_)
      subst hp
      have := none_of_but (b1.trans b2) n3 (tape_ne T2 n3)
      rw [hc] at this
      cases this
    · refine ⟨_, rfl, _, _, rfl, rfl, _, rfl, ?_⟩
      refine ite2 (fun _ => ?_) (fun _ => ?_)
      · refine ⟨_, rfl, dDraw rfl T2 (by omega) (by decide) (by decide) (fun c H3 c0 c1 T3 b3 => ⟨_, _, rfl, rfl, ?_⟩)⟩
        exact tell _ _ _ H3 (by omega) (by omega) (by omega) T3 (by omega) ((b1.trans b2).trans b3)
      · refine ⟨_, rfl, _, _, rfl, rfl, p10 12 (by decide) (by decide), tp, _, _, rfl, _, T2, by omega, by decide, by decide, fun g H3 g0 g1 T3 b3 => ?_⟩
        refine (dDraw rfl T3 (by omega) (by decide) (by decide) (fun r H4 r0 r1 T4 b4 => ?_))
        refine ⟨_, _, rfl, rfl, .inl ⟨by decide, by decide⟩, _, _, rfl, rfl, _, _, rfl, rfl, .inr ⟨by omega, by omega⟩, ?_⟩
        refine ⟨_, rfl, dDraw rfl T4 (by omega) (by decide) (by decide) (fun c H5 c0 c1 T5 b5 => ⟨_, _, rfl, rfl, ?_⟩)⟩
        have e12 : (10 : Int) ^ (12 : Int).toNat = 1000000000000 := by decide +kernel
        rw [e12] at g1
        have hr2 : r = 0 ∨ r = 1 := by omega
        refine tell _ _ _ H5 (by omega) ?_ (by omega) T5 (by omega) ((((b1.trans b2).trans b3).trans b4).trans b5)
        rcases hr2 with rfl | rfl
        · simp only [Int.mul_zero, Int.sub_zero, Int.mul_one]
          omega
        · rw [show (1 : Int) - 2 * 1 = -1 by decide, Int.mul_neg, Int.mul_one, Int.natAbs_neg]
          omega
end
end Lw

namespace LwQ
noncomputable def fv (t b : Int) : Rat := (t : Rat) / (b : Rat)
theorem cne {b : Int} (h : 0 < b) : (b : Rat) ≠ 0 := by
  intro z
  have : b = 0 := Rat.intCast_inj.mp (by rw [z]; rfl)
  omega
theorem fv_eq {t b o u : Int} (hb : 0 < b) (hu : 0 < u) (h : t * u = o * b) : fv t b = fv o u := by
  have h1 := cne hb
  have h2 := cne hu
  have h3 : (t : Rat) * (u : Rat) = (o : Rat) * (b : Rat) := by rw [← Rat.intCast_mul, ← Rat.intCast_mul, h]
  unfold fv
  grind
theorem fv_inj {t b o u : Int} (hb : 0 < b) (hu : 0 < u) (h : fv t b = fv o u) : t * u = o * b := by
  have h1 := cne hb
  have h2 := cne hu
  unfold fv at h
  have h3 : (t : Rat) * (u : Rat) = (o : Rat) * (b : Rat) := by grind
  rw [← Rat.intCast_mul, ← Rat.intCast_mul] at h3
  exact Rat.intCast_inj.mp h3
theorem fv_add {t b o u : Int} (hb : 0 < b) (hu : 0 < u) : fv (t * u + o * b) (b * u) = fv t b + fv o u := by
  have h1 := cne hb
  have h2 := cne hu
  unfold fv
  rw [Rat.intCast_add, Rat.intCast_mul, Rat.intCast_mul, Rat.intCast_mul]
  grind
theorem fv_mul {t b o u : Int} (hb : 0 < b) (hu : 0 < u) : fv (t * o) (b * u) = fv t b * fv o u := by
  have h1 := cne hb
  have h2 := cne hu
  unfold fv
  rw [Rat.intCast_mul, Rat.intCast_mul]
  grind
theorem fv_plus {t b o u t' b' : Int} (hb : 0 < b) (hu : 0 < u) (hb' : 0 < b') (h : t' * (b * u) = (t * u + o * b) * b') : fv t' b' = fv t b + fv o u := by
  rw [← fv_add hb hu]
  exact fv_eq hb' (Int.mul_pos hb hu) h
theorem fv_one (t : Int) : fv t 1 = (t : Rat) := by
  unfold fv
  have : ((1 : Int) : Rat) = 1 := rfl
  rw [this]
  grind
theorem fv_zero : fv 0 1 = 0 := by rw [fv_one]; rfl
theorem dvd_cop {b t u : Int} (g : Int.gcd t b = 1) (h : b ∣ t * u) : b ∣ u := by
  have h := Int.natAbs_dvd_natAbs.mpr h
  rw [Int.natAbs_mul] at h
  have c : Nat.Coprime b.natAbs t.natAbs := by
    have : Nat.gcd t.natAbs b.natAbs = 1 := g
    rw [Nat.gcd_comm] at this
    exact this
  exact Int.natAbs_dvd_natAbs.mp (c.dvd_of_dvd_mul_left h)
theorem low_uniq {t b o u : Int} (hb : 0 < b) (hu : 0 < u) (g1 : Int.gcd t b = 1) (g2 : Int.gcd o u = 1) (h : t * u = o * b) : t = o ∧ b = u := by
  have d1 : b ∣ u := by
    have : b ∣ t * u := ⟨o, by rw [h, Int.mul_comm]⟩
    exact dvd_cop g1 this
  have d2 : u ∣ b := by
    have : u ∣ o * b := ⟨t, by rw [← h, Int.mul_comm]⟩
    exact dvd_cop g2 this
  have e : b = u := Int.dvd_antisymm (by omega) (by omega) d1 d2
  subst e
  exact ⟨Int.eq_of_mul_eq_mul_right (by omega) h, rfl⟩
theorem fv_num (x : Rat) : fv x.num x.den = x := by
  unfold fv
  have := Rat.num_divInt_den x
  rw [Rat.divInt_eq_div] at this
  exact this
theorem num_low (x : Rat) : 0 < (x.den : Int) ∧ Int.gcd x.num x.den = 1 := ⟨by have := x.den_pos; omega, x.reduced⟩
theorem num_of {t b : Int} (hb : 0 < b) (g : Int.gcd t b = 1) : (fv t b).num = t ∧ ((fv t b).den : Int) = b := by
  have n := num_low (fv t b)
  have e := fv_inj n.1 hb (fv_num (fv t b))
  exact low_uniq n.1 hb n.2 g e
noncomputable def Wh (D : Int) (x : Rat) : Prop := ∃ z : Int, x * (D : Rat) = (z : Rat)
theorem Wh.dvd {D t b : Int} (hb : 0 < b) (g : Int.gcd t b = 1) (h : Wh D (fv t b)) : b ∣ D := by
  obtain ⟨z, hz⟩ := h
  have h1 := cne hb
  have e : (t : Rat) * (D : Rat) = (z : Rat) * (b : Rat) := by unfold fv at hz; grind
  rw [← Rat.intCast_mul, ← Rat.intCast_mul] at e
  have e := Rat.intCast_inj.mp e
  have : b ∣ t * D := ⟨z, by rw [e, Int.mul_comm]⟩
  exact dvd_cop g this
theorem Wh.of {t b : Int} (hb : 0 < b) : Wh b (fv t b) := ⟨t, by have h1 := cne hb; unfold fv; grind⟩
end LwQ

namespace Lw
open PySem PySem.Spec PyProof.Rows L2 LwQ
noncomputable def spPlus : Sp := fun vs H Q _ => ∃ (p q : Addr) (t b o u : Int), vs = [.ref p, .ref q] ∧ At2 H p t b ∧ At2 H q o u ∧ 0 < b ∧ 0 < u ∧ t.natAbs < 2 ^ 50000 ∧ b.natAbs < 2 ^ 50000 ∧ o.natAbs < 2 ^ 50000 ∧ u.natAbs < 2 ^ 8000 ∧
  ∀ (r : Addr) (t' b' : Int) (H' : Hp), H r = none → Same H H' → At2 H' r t' b' → 0 < b' → b'.natAbs ≤ b.natAbs * u.natAbs → t' * (b * u) = (t * u + o * b) * b' → Q (.ref r) H'
noncomputable def spLMul : Sp := fun vs H Q _ => ∃ (p q : Addr) (t b o u : Int), vs = [.ref p, .ref q] ∧ At2 H p t b ∧ At2 H q o u ∧ t.natAbs < 2 ^ 50000 ∧ b.natAbs < 2 ^ 50000 ∧ o.natAbs < 2 ^ 50000 ∧ u.natAbs < 2 ^ 50000 ∧
  ∀ (r : Addr) (H' : Hp), H r = none → Same H H' → At2 H' r (t * o) (b * u) → Q (.ref r) H'
theorem dPlus {p q : Addr} {t b o u : Int} {H : Hp} {Q : VK} {σ : L2.St} {x y : Nat} (e1 : σ[x]? = some (some (.ref p))) (e2 : σ[y]? = some (some (.ref q))) (h1 : At2 H p t b) (h2 : At2 H q o u) (h3 : 0 < b) (h4 : 0 < u) (h5 : t.natAbs < 2 ^ 50000) (h6 : b.natAbs < 2 ^ 50000) (h7 : o.natAbs < 2 ^ 50000) (h8 : u.natAbs < 2 ^ 8000)
    (k : ∀ (r : Addr) (t' b' : Int) (H' : Hp), H r = none → Same H H' → At2 H' r t' b' → 0 < b' → b'.natAbs ≤ b.natAbs * u.natAbs → t' * (b * u) = (t * u + o * b) * b' → Q (.ref r) H') : tCall spPlus [] E0 (tCons (tVar x) (tCons (tVar y) tNil)) σ H Q := ⟨_, e1, _, e2, p, q, t, b, o, u, rfl, h1, h2, h3, h4, h5, h6, h7, h8, k⟩
theorem dMul {p q : Addr} {t b o u : Int} {H : Hp} {Q : VK} {σ : L2.St} {x y : Nat} (e1 : σ[x]? = some (some (.ref p))) (e2 : σ[y]? = some (some (.ref q))) (h1 : At2 H p t b) (h2 : At2 H q o u) (h5 : t.natAbs < 2 ^ 50000) (h6 : b.natAbs < 2 ^ 50000) (h7 : o.natAbs < 2 ^ 50000) (h8 : u.natAbs < 2 ^ 50000)
    (k : ∀ (r : Addr) (H' : Hp), H r = none → Same H H' → At2 H' r (t * o) (b * u) → Q (.ref r) H') : tCall spLMul [] E0 (tCons (tVar x) (tCons (tVar y) tNil)) σ H Q := ⟨_, e1, _, e2, p, q, t, b, o, u, rfl, h1, h2, h5, h6, h7, h8, k⟩
theorem mod_div {b u : Int} (h : decide (V.int (b % u) = V.int 0) = true) : b = u * (b / u) := by
  have e : b % u = 0 := by
    have := of_decide_eq_true h
    injection this
  have := Int.mul_ediv_add_emod b u
  omega
section
variable {P : Program} {w : World} {K : PySem.W.Frag} {mg : Str → Option Value} {base : Heap} {f fd : _}
theorem scPlus : FnScope ["one", "other", "top"] ["one", "other"] (defScope sPlus) := ⟨rfl, rfl, rfl, by decide +kernel, rfl, by decide +kernel, by decide +kernel⟩
theorem ok_plus (F : Fun K "_law_plus" "_law_plus" sPlus f fd) : FnOk P w K mg base CX0 1 f fd ["one", "other"] spPlus := by
  refine F.ok scPlus (fun vs H Q E h => ?_) (fun cdv A outer s H vs Q E hr h => ?_)
  · obtain ⟨p, q, t, b, o, u, rfl, _⟩ := h
    rfl
  · obtain ⟨p, q, t, b, o, u, rfl, hp, hq, hb, hu, st, sb, so, su, k⟩ := h
    refine ⟨_, pss_cons (ps_if (pt_cmpR op_eq (pe_op op_mod (pe_ix ix_tup (pv 0) pe_int (fun _ _ => rfl)) (pe_ix ix_tup (pv 1) pe_int (fun _ _ => rfl))) pe_int (nomark _))
        (pss_one (ps_ret (pe_tupF (pa_cons (pe_op op_add (pe_ix ix_tup (pv 0) pe_int (fun _ _ => rfl)) (pe_op op_mulL (pe_ix ix_tup (pv 1) pe_int (fun _ _ => rfl)) (pe_op op_fdivL (pe_ix ix_tup (pv 0) pe_int (fun _ _ => rfl)) (pe_ix ix_tup (pv 1) pe_int (fun _ _ => rfl))))) (pa_cons (pe_ix ix_tup (pv 0) pe_int (fun _ _ => rfl)) pa_nil))))) pss_nil)
      (pss_cons (ps_if (pt_cmpR op_eq (pe_op op_mod (pe_ix ix_tup (pv 1) pe_int (fun _ _ => rfl)) (pe_ix ix_tup (pv 0) pe_int (fun _ _ => rfl))) pe_int (nomark _))
        (pss_one (ps_ret (pe_tupF (pa_cons (pe_op op_add (pe_ix ix_tup (pv 1) pe_int (fun _ _ => rfl)) (pe_op op_mulL (pe_ix ix_tup (pv 0) pe_int (fun _ _ => rfl)) (pe_op op_fdivL (pe_ix ix_tup (pv 1) pe_int (fun _ _ => rfl)) (pe_ix ix_tup (pv 0) pe_int (fun _ _ => rfl))))) (pa_cons (pe_ix ix_tup (pv 1) pe_int (fun _ _ => rfl)) pa_nil))))) pss_nil)
      (pss_cons (ps_set (i := 2) scPlus.nd rfl (Or.inl rfl) (pe_op op_add (pe_op op_mulL (pe_ix ix_tup (pv 0) pe_int (fun _ _ => rfl)) (pe_ix ix_tup (pv 1) pe_int (fun _ _ => rfl))) (pe_op op_mulL (pe_ix ix_tup (pv 1) pe_int (fun _ _ => rfl)) (pe_ix ix_tup (pv 0) pe_int (fun _ _ => rfl)))))
      (pss_one (ps_ret (pe_tupF (pa_cons (pv 2) (pa_cons (pe_op op_mulL (pe_ix ix_tup (pv 0) pe_int (fun _ _ => rfl)) (pe_ix ix_tup (pv 1) pe_int (fun _ _ => rfl))) pa_nil))))))), ?_⟩
    try dsimp only [cxK]
    have P := SqT.of (K := K) hp
    have R := SqT.of (K := K) hq
    have d1 : (b / u).natAbs < 2 ^ 100000 := abs_up (abs_div sb hu) (by decide)
    have d2 : (u / b).natAbs < 2 ^ 100000 := abs_up (abs_div su hb) (by decide)
    have st' : t.natAbs < 2 ^ 100000 := abs_up st (by decide)
    have sb' : b.natAbs < 2 ^ 100000 := abs_up sb (by decide)
    have so' : o.natAbs < 2 ^ 100000 := abs_up so (by decide)
    have su' : u.natAbs < 2 ^ 100000 := abs_up su (by decide)
    have lb : b.natAbs ≤ b.natAbs * u.natAbs := Nat.le_mul_of_pos_right _ (by omega)
    have lu : u.natAbs ≤ b.natAbs * u.natAbs := Nat.le_mul_of_pos_left _ (by omega)
    refine (rvT rfl P rfl (rvT rfl R rfl ⟨_, _, rfl, rfl, hu, rfl, _, rfl, ?_⟩))
    refine ite2 (fun e => ?_) (fun _ => ?_)
    · refine (rvT rfl P rfl (rvT rfl R rfl (rvT rfl P rfl (rvT rfl R rfl ⟨_, _, rfl, rfl, ⟨hu, su⟩, _, _, rfl, rfl, ⟨so', d1⟩, _, _, rfl, rfl, rvT rfl P rfl ⟨(by show 2 ≤ sizeLine; decide), fun r H1 n1 s1 e1 => ?_⟩⟩))))
      refine k r _ _ H1 n1 s1 e1 hb lb ?_
      have m := mod_div e
      generalize b / u = x at m
      subst m
      grind
    refine (rvT rfl R rfl (rvT rfl P rfl ⟨_, _, rfl, rfl, hb, rfl, _, rfl, ?_⟩))
    refine ite2 (fun e => ?_) (fun _ => ?_)
    · have m := mod_div e
      have bu : b.natAbs < 2 ^ 8000 := by
        have : b ∣ u := ⟨_, m⟩
        have := Int.le_of_dvd hu this
        exact Nat.lt_of_le_of_lt (by omega) su
      refine (rvT rfl R rfl (rvT rfl P rfl (rvT rfl R rfl (rvT rfl P rfl ⟨_, _, rfl, rfl, ⟨hb, bu⟩, _, _, rfl, rfl, ⟨st', d2⟩, _, _, rfl, rfl, rvT rfl R rfl ⟨(by show 2 ≤ sizeLine; decide), fun r H1 n1 s1 e1 => ?_⟩⟩))))
      refine k r _ _ H1 n1 s1 e1 hu lu ?_
      generalize u / b = x at m
      subst m
      grind
    · refine (rvT rfl P rfl (rvT rfl R rfl ⟨_, _, rfl, rfl, ⟨st', su'⟩, rvT rfl R rfl (rvT rfl P rfl ⟨_, _, rfl, rfl, ⟨so', sb'⟩, _, _, rfl, rfl, ?_⟩)⟩))
      refine ⟨_, rfl, rvT rfl P rfl (rvT rfl R rfl ⟨_, _, rfl, rfl, ⟨sb', su'⟩, (by show 2 ≤ sizeLine; decide), fun r H1 n1 s1 e1 => ?_⟩)⟩
      exact k r _ _ H1 n1 s1 e1 (Int.mul_pos hb hu) (Nat.le_of_eq (Int.natAbs_mul _ _)) rfl
theorem scLMul : FnScope ["one", "other"] ["one", "other"] (defScope sLMul) := ⟨rfl, rfl, rfl, by decide +kernel, rfl, by decide +kernel, by decide +kernel⟩
theorem ok_lmul (F : Fun K "_law_mul" "_law_mul" sLMul f fd) : FnOk P w K mg base CX0 1 f fd ["one", "other"] spLMul := by
  refine F.ok scLMul (fun vs H Q E h => ?_) (fun cdv A outer s H vs Q E hr h => ?_)
  · obtain ⟨p, q, t, b, o, u, rfl, _⟩ := h
    rfl
  · obtain ⟨p, q, t, b, o, u, rfl, hp, hq, st, sb, so, su, k⟩ := h
    refine ⟨_, pss_one (ps_ret (pe_tupF (pa_cons (pe_op op_mulL (pe_ix ix_tup (pv 0) pe_int (fun _ _ => rfl)) (pe_ix ix_tup (pv 1) pe_int (fun _ _ => rfl))) (pa_cons (pe_op op_mulL (pe_ix ix_tup (pv 0) pe_int (fun _ _ => rfl)) (pe_ix ix_tup (pv 1) pe_int (fun _ _ => rfl))) pa_nil)))), ?_⟩
    try dsimp only [cxK]
    have P := SqT.of (K := K) hp
    have R := SqT.of (K := K) hq
    refine (rvT rfl P rfl (rvT rfl R rfl ⟨_, _, rfl, rfl, ⟨abs_up st (by decide), abs_up so (by decide)⟩, rvT rfl P rfl (rvT rfl R rfl ⟨_, _, rfl, rfl, ⟨abs_up sb (by decide), abs_up su (by decide)⟩, (by show 2 ≤ sizeLine; decide), fun r H1 n1 s1 e1 => ?_⟩)⟩))
    exact k r H1 n1 s1 e1
theorem scLike : FnScope ["one", "other"] ["one", "other"] (defScope sLike) := ⟨rfl, rfl, rfl, by decide +kernel, rfl, by decide +kernel, by decide +kernel⟩
noncomputable def spLike : Sp := fun vs H Q _ => ∃ (p q : Addr) (t b o u : Int), vs = [.ref p, .ref q] ∧ At2 H p t b ∧ At2 H q o u ∧ t.natAbs < 2 ^ 50000 ∧ b.natAbs < 2 ^ 50000 ∧ o.natAbs < 2 ^ 50000 ∧ u.natAbs < 2 ^ 50000 ∧ t * u = o * b ∧ Q (.bl true) H
theorem ok_like (F : Fun K "_law_like" "_law_like" sLike f fd) : FnOk P w K mg base CX0 1 f fd ["one", "other"] spLike := by
  refine F.ok scLike (fun vs H Q E h => ?_) (fun cdv A outer s H vs Q E hr h => ?_)
  · obtain ⟨p, q, t, b, o, u, rfl, _⟩ := h
    rfl
  · obtain ⟨p, q, t, b, o, u, rfl, hp, hq, st, sb, so, su, e, k⟩ := h
    refine ⟨_, pss_one (ps_ret (pe_cmpR op_eq (pe_op op_mulL (pe_ix ix_tup (pv 0) pe_int (fun _ _ => rfl)) (pe_ix ix_tup (pv 1) pe_int (fun _ _ => rfl))) (pe_op op_mulL (pe_ix ix_tup (pv 1) pe_int (fun _ _ => rfl)) (pe_ix ix_tup (pv 0) pe_int (fun _ _ => rfl))) (nomark _))), ?_⟩
    try dsimp only [cxK]
    have P := SqT.of (K := K) hp
    have R := SqT.of (K := K) hq
    refine (rvT rfl P rfl (rvT rfl R rfl ⟨_, _, rfl, rfl, ⟨abs_up st (by decide), abs_up su (by decide)⟩, rvT rfl R rfl (rvT rfl P rfl ⟨_, _, rfl, rfl, ⟨abs_up so (by decide), abs_up sb (by decide)⟩, rfl, ?_⟩)⟩))
    have ee : decide ((fun i j => V.int (i * j)) t u = (fun i j => V.int (i * j)) o b) = true := decide_eq_true (by dsimp only; rw [e])
    rw [ee]
    exact k
end
end Lw

namespace Lw
open PySem PySem.Spec PyProof.Rows L2 LwQ
structure Ent where
  n : Nat
  c : Addr
  t : Int
  b : Int
noncomputable def Ent.kv (e : Ent) : List Key × V := (LwD.ik [(e.n : Int)], .ref e.c)
structure EntP (H : Hp) (c : Nat → Rat) (s : Nat → Nat) (e : Ent) : Prop where
  lt : e.n < 24
  at' : At2 H e.c e.t e.b
  pos : 0 < e.b
  nz : e.t ≠ 0
  val : fv e.t e.b = c e.n
  st : e.t.natAbs < 2 ^ s e.n
  sb : e.b.natAbs < 2 ^ s e.n
structure RepE (H : Hp) (E : List Ent) (c : Nat → Rat) (s : Nat → Nat) : Prop where
  nd : (E.map Ent.n).Nodup
  each : ∀ e ∈ E, EntP H c s e
  all : ∀ j, c j ≠ 0 → ∃ e ∈ E, e.n = j
theorem RepE.map {H H' : Hp} {E : List Ent} {c : Nat → Rat} {s : Nat → Nat} (h : RepE H E c s) (k : ∀ a xs, H a = some (.tup xs) → H' a = some (.tup xs)) : RepE H' E c s :=
  ⟨h.nd, fun e he => let x := h.each e he; ⟨x.lt, k _ _ x.at', x.pos, x.nz, x.val, x.st, x.sb⟩, h.all⟩
theorem fv_nz {t b : Int} (hb : 0 < b) (h : t ≠ 0) : fv t b ≠ 0 := by
  intro z
  rw [← fv_zero] at z
  have := fv_inj hb (by decide) z
  omega
theorem RepE.out {H : Hp} {E : List Ent} {c : Nat → Rat} {s : Nat → Nat} (h : RepE H E c s) {j : Nat} (hj : ∀ e ∈ E, e.n ≠ j) : c j = 0 := by
  by_cases z : c j = 0
  · exact z
  · obtain ⟨e, he, rfl⟩ := h.all j z
    exact absurd rfl (hj e he)
theorem nodup_lt : ∀ (m : Nat) {l : List Nat}, l.Nodup → (∀ x ∈ l, x < m) → l.length ≤ m
  | 0, l, _, k => by
    cases l with
    | nil => exact Nat.le_refl _
    | cons x r => exact absurd (k x (List.mem_cons_self ..)) (Nat.not_lt_zero _)
  | m + 1, l, h, k => by
    have := nodup_lt m (h.erase m) fun x hx => by
      have y := (List.Nodup.mem_erase_iff h).mp hx
      have := k x y.2
      have := y.1
      omega
    rw [List.length_erase] at this
    split at this <;> omega
theorem RepE.few {H : Hp} {E : List Ent} {c : Nat → Rat} {s : Nat → Nat} (h : RepE H E c s) : E.length ≤ 24 := by
  have := nodup_lt 24 h.nd fun x hx => by
    obtain ⟨e, he, rfl⟩ := List.mem_map.mp hx
    exact (h.each e he).lt
  rwa [List.length_map] at this
theorem plus_bits {t b o u t' b' : Int} {k m : Nat} (hb : 0 < b) (hu : 0 < u) (h1 : t.natAbs < 2 ^ k) (h2 : b.natAbs < 2 ^ k) (h3 : o.natAbs < 2 ^ m) (h4 : u.natAbs < 2 ^ m) (lb : b'.natAbs ≤ b.natAbs * u.natAbs) (eq : t' * (b * u) = (t * u + o * b) * b') :
    t'.natAbs < 2 ^ (k + m + 1) ∧ b'.natAbs < 2 ^ (k + m + 1) := by
  have hbu : (b * u).natAbs < 2 ^ (k + m) := abs_mul h2 h4
  constructor
  · have e1 := congrArg Int.natAbs eq
    rw [Int.natAbs_mul t', Int.natAbs_mul (t * u + o * b)] at e1
    have h5 : (t * u + o * b).natAbs < 2 ^ (k + m + 1) := by
      refine abs_add (abs_mul h1 h4) ?_
      rw [Nat.add_comm k m]
      exact abs_mul h3 h2
    have h6 : 0 < (b * u).natAbs := by have := Int.mul_pos hb hu; omega
    have h7 : t'.natAbs * (b * u).natAbs ≤ (t * u + o * b).natAbs * (b * u).natAbs := by
      rw [e1]
      refine Nat.mul_le_mul_left _ ?_
      rw [Int.natAbs_mul]
      exact lb
    exact Nat.lt_of_le_of_lt (Nat.le_of_mul_le_mul_right h7 h6) h5
  · rw [← Int.natAbs_mul] at lb
    exact Nat.lt_of_le_of_lt lb (Nat.lt_of_lt_of_le hbu (Nat.pow_le_pow_right (by decide) (Nat.le_succ _)))
theorem ik_inj {ns ms : List Int} (h : LwD.ik ns = LwD.ik ms) : ns = ms := by
  have := congrArg (List.map kV) h
  rw [LwD.ik_map, LwD.ik_map] at this
  exact (List.map_inj_right (f := V.int) (fun a b e => by injection e)).mp this
section
variable {k : List Key} {v v0 : V} {L R l : List (List Key × V)}
theorem val_out (h : ∀ p ∈ l, p.1 ≠ k) : valV l k = none := by
  unfold valV
  rw [List.find?_eq_none.mpr fun p hp => by simp [h p hp]]
  rfl
theorem val_mid (h : ∀ p ∈ L, p.1 ≠ k) : valV (L ++ (k, v) :: R) k = some v := by
  unfold valV
  rw [List.find?_append, List.find?_eq_none.mpr fun p hp => by simp [h p hp]]
  simp
theorem put_out (h : ∀ p ∈ l, p.1 ≠ k) : putK l k v = l ++ [(k, v)] := by
  unfold putK
  rw [if_neg]
  intro z
  obtain ⟨p, hp, e⟩ := List.any_eq_true.mp z
  exact h p hp (of_decide_eq_true e)
end
theorem key_ne {E : List Ent} {n : Nat} (h : n ∉ E.map Ent.n) : ∀ p ∈ E.map Ent.kv, p.1 ≠ LwD.ik [(n : Int)] := by
  intro p hp z
  obtain ⟨e, he, rfl⟩ := List.mem_map.mp hp
  have := ik_inj z
  refine h (List.mem_map.mpr ⟨e, he, ?_⟩)
  have : (e.n : Int) = n := by simpa using this
  omega
noncomputable def DictP (H : Hp) (d : Addr) (c : Nat → Rat) (s : Nat → Nat) : Prop := ∃ E, H d = some (.dT (E.map Ent.kv)) ∧ RepE H E c s
noncomputable def bump (c : Nat → Rat) (n : Nat) (x : Rat) : Nat → Rat := fun j => c j + if j = n then x else 0
section
variable {P : Program} {w : World} {K : PySem.W.Frag} {mg : Str → Option Value} {base : Heap} {f fd : _}
end
end Lw

namespace Lw
open PySem PySem.Spec PyProof.Rows L2 LwQ
theorem Tape.ne {cl : Addr} {H : Hp} {tp : Addr} {B : Int} (T : Tape cl H tp B) {d : Addr} {o : HO} (e : H d = some o) (ho : ∀ xs, o ≠ .lst xs) : d ≠ tp ∧ d ≠ cl := by
  obtain ⟨ns, spot, rest, left, h1, h2, _⟩ := T
  refine ⟨fun z => ?_, fun z => ?_⟩
  · rw [z, h1] at e; cases e; exact ho _ rfl
  · rw [z, h2] at e; cases e; exact ho _ rfl
theorem Tape.off {cl : Addr} {H : Hp} {tp : Addr} {B : Int} (T : Tape cl H tp B) {d : Addr} (e : H d = none) : d ≠ tp ∧ d ≠ cl := by
  obtain ⟨ns, spot, rest, left, h1, h2, _⟩ := T
  refine ⟨fun z => ?_, fun z => ?_⟩
  · rw [z, h1] at e; cases e
  · rw [z, h2] at e; cases e
theorem Tape.upd {cl : Addr} {H : Hp} {tp : Addr} {B B' : Int} (T : Tape cl H tp B) {l : Addr} (o : HO) (h1 : l ≠ tp) (h2 : l ≠ cl) (hB : B ≤ B') : Tape cl (upd H l o) tp B' := by
  obtain ⟨ns, spot, rest, left, e1, e2, e3, e4, e5⟩ := T
  exact ⟨ns, spot, rest, left, by rw [upd_ne (Ne.symm h1)]; exact e1, by rw [upd_ne (Ne.symm h2)]; exact e2, e3, e4, by omega⟩
theorem but_put {p l : Addr} {H H' : Hp} {o : HO} (b : But p H H') (n : H l = none) : But p H (upd H' l o) := fun c u h hc => by
  rw [upd_ne (ne_of_none h n)]
  exact b c u h hc
theorem DictP.map {H H' : Hp} {d : Addr} {c : Nat → Rat} {s : Nat → Nat} (h : DictP H d c s) (hd : ∀ kvs, H d = some (.dT kvs) → H' d = some (.dT kvs)) (hc : ∀ a xs, H a = some (.tup xs) → H' a = some (.tup xs)) : DictP H' d c s := by
  obtain ⟨E, e, r⟩ := h
  exact ⟨E, hd _ e, r.map hc⟩
theorem DictP.but {cl : Addr} {H H' : Hp} {tp : Addr} {B : Int} {d : Addr} {c : Nat → Rat} {z : Nat → Nat} (h : DictP H d c z) (T : Tape cl H tp B) (b : But tp H H') : DictP H' d c z :=
  h.map (fun _ e => b _ _ e (T.ne e (fun _ z => by cases z)).1) fun _ _ e => b _ _ e (T.ne e (fun _ z => by cases z)).1
noncomputable def Drawn (c : Nat → Rat) (m : Nat) : Prop := (∀ j, m ≤ j → c j = 0) ∧ ∀ j, ∃ t u : Int, 0 < u ∧ t.natAbs < 2 ^ 40 ∧ u.natAbs < 2 ^ 10 ∧ c j = fv t u
theorem drawn_nil : Drawn (fun _ => 0) 0 := ⟨fun _ _ => rfl, fun _ => ⟨0, 1, by decide, by decide, by decide, fv_zero.symm⟩⟩
theorem rep_nil {H : Hp} (s : Nat → Nat) : RepE H [] (fun _ => 0) s := ⟨List.nodup_nil, (fun _ h => nomatch h), fun _ h => absurd rfl h⟩
theorem rep_new {H H' : Hp} {E : List Ent} {c : Nat → Rat} {s : Nat → Nat} (h : RepE H E c s) {n : Nat} {r : Addr} {t b : Int} (hn : n < 24) (c0 : ∀ e ∈ E, e.n ≠ n) (k : ∀ a xs, H a = some (.tup xs) → H' a = some (.tup xs)) (at' : At2 H' r t b) (pos : 0 < b) (nz : t ≠ 0) (st : t.natAbs < 2 ^ s n) (sb : b.natAbs < 2 ^ s n) :
    RepE H' (E ++ [⟨n, r, t, b⟩]) (bump c n (fv t b)) s := by
  have cz : c n = 0 := h.out c0
  refine ⟨?_, fun e he => ?_, fun j hj => ?_⟩
  · rw [List.map_append, List.nodup_append]
    refine ⟨h.nd, by simp, fun a ha b hb => ?_⟩
    have hb : b = n := by simpa using hb
    obtain ⟨e, he, rfl⟩ := List.mem_map.mp ha
    rw [hb]
    exact c0 e he
  · rcases List.mem_append.mp he with he | he
    · have x := h.each e he
      refine ⟨x.lt, k _ _ x.at', x.pos, x.nz, ?_, x.st, x.sb⟩
      rw [x.val]; unfold bump; rw [if_neg (c0 e he), Rat.add_zero]
    · rw [List.mem_singleton] at he
      subst he
      refine ⟨hn, at', pos, nz, ?_, st, sb⟩
      show fv t b = bump c n (fv t b) n
      unfold bump
      rw [if_pos rfl, cz, Rat.zero_add]
  · by_cases jn : j = n
    · exact ⟨⟨n, r, t, b⟩, by simp, jn.symm⟩
    · unfold bump at hj
      rw [if_neg jn, Rat.add_zero] at hj
      obtain ⟨e, he, ee⟩ := h.all j hj
      exact ⟨e, List.mem_append_left _ he, ee⟩
noncomputable def spPoly : Sp := fun vs H Q _ => ∃ (tp : Addr) (most : Nat) (B : Int), vs = [.ref tp, .int most] ∧ most ≤ 10 ∧ ∃ cl, Tape cl H tp B ∧ B < 2 ^ 30 ∧
  ∀ (d : Addr) (c : Nat → Rat) (H' : Hp), H d = none → But tp H H' → Tape cl H' tp (B + 200) → DictP H' d c (fun _ => 40) → Drawn c (most + 1) → Q (.ref d) H'
structure PoI (cl tp d : Addr) (most : Nat) (B : Int) (H : Hp) (i : Nat) (σ : L2.St) (H2 : Hp) : Prop where
  e : ∃ u v, σ = [some (.ref tp), some (.int most), some (.ref d), u, v]
  b : But tp H H2
  t : Tape cl H2 tp (B + 1 + 7 * i)
  c : ∃ c, DictP H2 d c (fun _ => 40) ∧ Drawn c i
section
variable {P : Program} {w : World} {K : PySem.W.Frag} {mg : Str → Option Value} {base : Heap} {f fd : _}
theorem scPoly : FnScope ["tape", "most", "found", "power", "number"] ["tape", "most"] (defScope sPoly) := ⟨rfl, rfl, rfl, by decide +kernel, rfl, by decide +kernel, by decide +kernel⟩
theorem ok_poly {fD fL fN : Addr} {fdD fdL fdN : FuncData} (F : Fun K "_law_poly" "_law_poly" sPoly f fd) (T : Txt mg) (DD : Df K mg "_law_draw" sDraw ["tape", "many"] fD fdD) (DL : Df K mg "_law_low" sLow ["top", "bottom"] fL fdL) (DN : Df K mg "_law_number" sNumber ["tape"] fN fdN) : FnOk P w K mg base CX0 3 f fd ["tape", "most"] spPoly := by
  have GD : FnOk P w K mg base CX0 1 fD fdD ["tape", "many"] spDraw := ok_draw DD.F T
  have GN : FnOk P w K mg base CX0 2 fN fdN ["tape"] (spDrawn 6 (2 ^ 38)) := ok_number DN.F T DD DL
  refine F.ok scPoly (fun vs H Q E h => ?_) (fun cdv A outer s H vs Q E hr h => ?_)
  · obtain ⟨tp, most, B, rfl, _⟩ := h
    rfl
  · obtain ⟨tp, most, B, rfl, m10, cl, hT, hB, go⟩ := h
    have hr1 : Room 1 _ := hr.mono (by decide)
    have hr2 : Room 2 _ := hr.mono (by decide)
    have hu : _ + 1 < cLine := Nat.lt_of_le_of_lt (Nat.add_le_add_left (by decide : 1 ≤ 64) _) hr.units
    refine ⟨_, pss_cons (ps_set (i := 2) scPoly.nd rfl (Or.inl rfl) (pe_dnewT))
      (pss_cons (ps_for PassesOwn.never rfl (pi_range1 (by rfl) T.rng (pa_cons (pe_call GD hr1 rfl DD.m DD.F.kp DD.b .nil pass0 (pa_cons (pv 0) (pa_cons (pe_op op_add (pv 1) pe_int) pa_nil))) pa_nil)) (pg_name (i := 3) scPoly.nd rfl (Or.inl rfl))
        (pss_cons (ps_set (i := 4) scPoly.nd rfl (Or.inl rfl) (pe_call GN hr2 rfl DN.m DN.F.kp DN.b .nil pass0 (pa_cons (pv 0) pa_nil)))
          (pss_one (ps_if (PW.pt (pw_and (pt_cmpR op_gt (pe_call GD hr1 rfl DD.m DD.F.kp DD.b .nil pass0 (pa_cons (pv 0) (pa_cons pe_int pa_nil))) pe_int (nomark _)) (pw_and1 (pt_cmpR op_ne (pe_ix ix_tup (pv 4) pe_int (fun _ _ => rfl)) pe_int (nomark _)))))
            (pss_one (ps_dput hu (pv 2) (pe_tupF (pa_cons (pv 3) pa_nil)) (pv 4) rfl)) pss_nil))))
      (pss_one (ps_ret (pv 2)))), ?_⟩
    try dsimp only [cxK]
    intro d nd
    have T0 : Tape cl (upd H d (.dT [])) tp B := hT.upd _ (hT.off nd).1 (hT.off nd).2 (Int.le_refl _)
    refine ⟨_, rfl, _, rfl, _, _, rfl, rfl, tp, _, B, rfl, cl, T0, by omega, by omega, by omega, fun n H1 c0 c1 T1 b1 => ⟨n, rfl, by omega, by omega, ?_⟩⟩
    have B1 : But tp H H1 := (but_put (But.refl tp H) nd).trans b1
    have D1 : DictP H1 d (fun _ => 0) (fun _ => 40) := ⟨[], b1 _ _ upd_same (hT.off nd).1, rep_nil _⟩
    have cn : n.toNat ≤ most + 1 := by omega
    refine for_range (PoI cl tp d most B H)
      ⟨⟨_, _, rfl⟩, B1, T1.mono (Same.refl _) (by omega), _, D1, drawn_nil⟩ ?_ ?_
    · rintro i σ H2 hi ⟨⟨u, v, rfl⟩, B2, T2, c, D2, r2⟩
      have i11 : i ≤ 10 := by omega
      have p38 : (2 : Int) ^ 30 + 300 < 2 ^ 38 := by decide
      refine (dDrawn rfl T2 (by omega) (fun r t b H3 fr e3 rne T3 b3 nw => ?_))
      have D3 := D2.but T2 b3
      refine (dDraw rfl T3 (by omega) (by decide) (by decide) (fun g H4 g0 g1 T4 b4 => ?_))
      have B4 : But tp H H4 := (B2.trans b3).trans b4
      have D4 := D3.but T3 b4
      have e4 : At2 H4 r t b := b4 _ _ e3 rne
      have nxt : (∃ c, DictP H4 d c (fun _ => 40) ∧ Drawn c (i + 1)) := ⟨c, D4, fun j hj => r2.1 j (by omega), r2.2⟩
      refine ⟨_, _, rfl, rfl, _, rfl, ?_⟩
      refine ite2 (fun _ => ?_) (fun _ => iteN rfl ⟨⟨_, _, rfl⟩, B4, T4.mono (Same.refl _) (by omega), nxt⟩)
      refine ⟨_, rfl, r, _, _, _, rfl, rfl, SqT.of e4, rfl, rfl, _, rfl, ?_⟩
      refine ite2 (fun nz => ?_) (fun _ => ⟨⟨_, _, rfl⟩, B4, T4.mono (Same.refl _) (by omega), nxt⟩)
      have tz : t ≠ 0 := fun y => by rw [y] at nz; simp at nz
      obtain ⟨E, ed, rE⟩ := D4
      have few := rE.few
      have kz : (E.map Ent.kv).length < sizeLine := by rw [List.length_map]; exact Nat.lt_of_le_of_lt few (by decide)
      have ne : ∀ e ∈ E, e.n ≠ i := fun e he z => by
        have x := rE.each e he
        have := r2.1 e.n (by omega)
        rw [← x.val] at this
        exact fv_nz x.pos x.nz this
      refine ⟨_, rfl, _, rfl, _, rfl, (by show 1 ≤ sizeLine; decide), fun z H5 n5 s5 e5 => ?_⟩
      have ei : (0 : Int) + (i : Int) = (i : Int) := by omega
      rw [ei] at e5
      have hb5 : H5 z = some (.tup ((LwD.ik [(i : Int)]).map kV)) := by rw [LwD.ik_map]; exact e5
      have hd5 : H5 d = some (.dT (E.map Ent.kv)) := s5 _ _ ed
      have dn := T4.ne ed (fun _ z => by cases z)
      have ti : i ∉ E.map Ent.n := fun y => by
        obtain ⟨e, he, ee⟩ := List.mem_map.mp y
        exact ne e he ee
      refine ⟨d, _, rfl, DPut.t (k := LwD.ik [(i : Int)]) hd5 hb5 kz, ⟨_, _, rfl⟩, fun x y hx hn => ?_, ?_, bump c i (fv t b), ⟨E ++ [⟨i, r, t, b⟩], ?_, ?_⟩, ?_, ?_⟩
      · rw [upd_ne (fun z => by rw [z, nd] at hx; cases hx)]
        exact s5 _ _ (B4 _ _ hx hn)
      · exact (T4.mono s5 (Int.le_refl _)).upd _ dn.1 dn.2 (by omega)
      · rw [upd_same, put_out (key_ne ti), List.map_append]
        rfl
      · have tu : ∀ a xs, H4 a = some (.tup xs) → upd H5 d (.dT (putK (E.map Ent.kv) (LwD.ik [(i : Int)]) (V.ref r))) a = some (.tup xs) := fun a xs ea => by
          rw [upd_ne (fun y => by rw [y, ed] at ea; cases ea)]
          exact s5 _ _ ea
        exact rep_new rE (by omega) ne tu (tu _ _ e4) fr.pos tz fr.st (abs_up fr.sb (by decide))
      · intro j hj
        unfold bump
        rw [if_neg (by omega), Rat.add_zero]
        exact r2.1 j (by omega)
      · intro j
        unfold bump
        by_cases jn : j = i
        · rw [if_pos jn, r2.1 j (by omega), Rat.zero_add]
          exact ⟨t, b, fr.pos, fr.st, fr.sb, rfl⟩
        · rw [if_neg jn, Rat.add_zero]
          exact r2.2 j
    · rintro σ H2 ⟨⟨u, v, rfl⟩, B2, T2, c, D2, r2⟩
      refine ⟨_, rfl, go d c H2 nd B2 (T2.mono (Same.refl _) (by omega)) D2 ⟨fun j hj => r2.1 j (by omega), r2.2⟩⟩
end
end Lw

namespace Lw
open PySem PySem.Spec PyProof.Rows L2 LwQ
theorem low_cross {n d : Int} (hd : 0 < d) : lowT n d * d = n * lowB n d := by
  rw [low_posT hd, low_posB hd]
  obtain ⟨a, ha⟩ := Int.gcd_dvd_left (a := n) (b := d)
  obtain ⟨b, hb⟩ := Int.gcd_dvd_right (a := n) (b := d)
  have g1 := LwM.gcd_pos n d hd
  generalize (Int.gcd n d : Int) = g at ha hb g1
  subst ha hb
  rw [Int.mul_ediv_cancel_left _ (by omega), Int.mul_ediv_cancel_left _ (by omega)]
  grind
theorem low_pos1 {n d : Int} (hd : 0 < d) : 0 < lowB n d := by
  have g1 := LwM.gcd_pos n d hd
  rw [low_posB hd]
  exact Int.ediv_pos_of_pos_of_dvd hd (by omega) (Int.gcd_dvd_right ..)
theorem low_gcd {n d : Int} (hd : 0 < d) : Int.gcd (lowT n d) (lowB n d) = 1 := by
  have g1 := LwM.gcd_pos n d hd
  rw [low_posT hd, low_posB hd]
  exact Int.gcd_ediv_gcd_ediv_gcd (by omega)
theorem lowT_le {n d : Int} (hd : 0 < d) : (lowT n d).natAbs ≤ n.natAbs := by
  rw [low_posT hd]
  exact LwM.ediv_abs _ _ (LwM.gcd_pos n d hd)
theorem lowB_le {n d : Int} (hd : 0 < d) : (lowB n d).natAbs ≤ d.natAbs := by
  rw [low_posB hd]
  exact LwM.ediv_abs _ _ (LwM.gcd_pos n d hd)
theorem fv_low {n d : Int} (hd : 0 < d) : fv (lowT n d) (lowB n d) = fv n d := fv_eq (low_pos1 hd) hd (low_cross hd)
theorem perm_lift {α β : Type} {f : α → β} {zs l : List β} (p : zs.Perm l) : ∀ E : List α, l = E.map f → ∃ E' : List α, E'.Perm E ∧ zs = E'.map f := by
  induction p with
  | nil =>
    intro E h
    have : E = [] := by simpa using h.symm
    exact ⟨[], by rw [this], rfl⟩
  | @cons x l1 l2 _ ih =>
    intro E h
    match E, h with
    | e :: E2, h =>
      rw [List.map_cons] at h
      injection h with h1 h2
      obtain ⟨E', p', rfl⟩ := ih E2 h2
      exact ⟨e :: E', p'.cons e, by rw [List.map_cons, h1]⟩
  | @swap x y l =>
    intro E h
    match E, h with
    | e1 :: e2 :: E2, h =>
      rw [List.map_cons, List.map_cons] at h
      injection h with h1 h2
      injection h2 with h2 h3
      exact ⟨e2 :: e1 :: E2, List.Perm.swap .., by rw [List.map_cons, List.map_cons, h1, h2, h3]⟩
  | @trans l1 l2 l3 _ _ ih1 ih2 =>
    intro E h
    obtain ⟨E2, p2, e2⟩ := ih2 E h
    obtain ⟨E1, p1, e1⟩ := ih1 E2 e2
    exact ⟨E1, p1.trans p2, e1⟩
theorem put_same {H H' : Hp} {l : Addr} {o : HO} (s : Same H H') (n : H l = none) : Same H (upd H' l o) := fun c u h => by
  rw [upd_ne (ne_of_none h n)]
  exact s c u h
section
variable {X : Cx}
noncomputable def rTupZ (K : PySem.W.Frag) : List V → Hp → VK → Prop := fun xs H Q => ∃ p ys, xs = [.ref p] ∧ SqL K H p ys ∧ ∀ (l : Addr) (o : Obj), H l = none → o.dict = none → Q (.ref l) (upd H l (.frz o (.tup ys)))
theorem call_tupleZ : CallR X (.type "tuple") (rTupZ X.K) := by
  intro pins s σ H xs us Q I r h
  obtain ⟨p, ys, rfl, hq, q⟩ := h
  obtain ⟨u, rfl, rx⟩ := vals1 r
  cases rx
  obtain ⟨its, r', pl, hz⟩ := I.list hq
  have hlen := r'.length
  refine call_tuple_list pl.isList (fun h' kp => ?_) (by simp only [List.size_toArray] <;> omega)
  have I1 : Inv X pins σ H { s with heap := h' } := I.kept (t' := s.toks) kp
  have I2 : Inv X pins σ (upd H h'.objs.size (.frz { cls := .type "tuple", data := .seq its.toArray } (.tup ys))) { s with heap := h'.push { cls := .type "tuple", data := .seq its.toArray } } :=
    I1.laid (t' := s.toks) (fun b o e => Heap.get?_push_of_some _ e) (Nat.le_refl _) (show ObjOk X.prog X.w _ _ _ (.frz _ (.tup ys)) from ⟨Heap.get?_push_size _ rfl, hz, its, r', IsTup.new _ _⟩)
  exact ⟨.ref h'.objs.size, _, I2, rfl, q _ _ (I1.hok.fresh (Nat.le_refl _)) rfl⟩
end
noncomputable def sup (c : Nat → Rat) : List Nat := (List.range 24).filter fun n => decide (c n ≠ 0)
theorem sup_pw (c : Nat → Rat) : (sup c).Pairwise (· < ·) := List.Pairwise.filter _ List.pairwise_lt_range
theorem inc_eq : ∀ {l m : List Nat}, l.Pairwise (· < ·) → m.Pairwise (· < ·) → (∀ x, x ∈ l ↔ x ∈ m) → l = m
  | [], [], _, _, _ => rfl
  | [], b :: m, _, _, h => absurd ((h b).mpr (List.mem_cons_self ..)) (List.not_mem_nil)
  | a :: l, [], _, _, h => absurd ((h a).mp (List.mem_cons_self ..)) (List.not_mem_nil)
  | a :: l, b :: m, p, q, h => by
    have p1 := List.pairwise_cons.mp p
    have q1 := List.pairwise_cons.mp q
    have e : a = b := by
      have h1 := List.mem_cons.mp ((h a).mp (List.mem_cons_self ..))
      have h2 := List.mem_cons.mp ((h b).mpr (List.mem_cons_self ..))
      rcases h1 with h1 | h1
      · exact h1
      · rcases h2 with h2 | h2
        · exact h2.symm
        · have := q1.1 a h1
          have := p1.1 b h2
          omega
    subst e
    rw [inc_eq p1.2 q1.2 fun x => ⟨fun hx => ?_, fun hx => ?_⟩]
    · rcases List.mem_cons.mp ((h x).mp (List.mem_cons_of_mem _ hx)) with z | z
      · have := p1.1 x hx; omega
      · exact z
    · rcases List.mem_cons.mp ((h x).mpr (List.mem_cons_of_mem _ hx)) with z | z
      · have := q1.1 x hx; omega
      · exact z
noncomputable def TermP (H : Hp) (c : Nat → Rat) (x : V) (n : Nat) : Prop := ∃ r b q : Addr, x = .ref r ∧ H r = some (.tup [.ref b, .ref q]) ∧ H b = some (.tup [.int n]) ∧ At2 H q (c n).num (c n).den
theorem TermP.map {H H' : Hp} {c : Nat → Rat} {x : V} {n : Nat} (h : TermP H c x n) (k : ∀ a xs, H a = some (.tup xs) → H' a = some (.tup xs)) : TermP H' c x n := by
  obtain ⟨r, b, q, e1, e2, e3, e4⟩ := h
  exact ⟨r, b, q, e1, k _ _ e2, k _ _ e3, k _ _ e4⟩
noncomputable def TermsP (H : Hp) (c : Nat → Rat) (xs : List V) (l : List Nat) : Prop := Paired (TermP H c) xs l
theorem TermsP.map {H H' : Hp} {c : Nat → Rat} {xs : List V} {l : List Nat} (h : TermsP H c xs l) (k : ∀ a xs, H a = some (.tup xs) → H' a = some (.tup xs)) : TermsP H' c xs l := Paired.mono (fun _ _ y => TermP.map y k) h
structure SumC (H : Hp) (p : Addr) (c : Nat → Rat) : Prop where
  ex : ∃ (q : Addr) (o : Obj) (xs : List V), H p = some (.tup [.int 1, .ref q]) ∧ H q = some (.frz o (.tup xs)) ∧ o.dict = none ∧ TermsP H c xs (sup c)
theorem SumC.same {H H' : Hp} {p : Addr} {c : Nat → Rat} (h : SumC H p c) (s : Same H H') : SumC H' p c := by
  obtain ⟨q, o, xs, e1, e2, e3, e4⟩ := h.ex
  exact ⟨q, o, xs, s _ _ e1, s _ _ e2, e3, e4.map fun _ _ e => s _ _ e⟩
noncomputable def FrzP (H : Hp) (d : Addr) (c : Nat → Rat) (s : Nat → Nat) : Prop := ∃ E o, H d = some (.frz o (.dT (E.map Ent.kv))) ∧ RepE H E c s
theorem FrzP.same {H H' : Hp} {d : Addr} {c : Nat → Rat} {z : Nat → Nat} (h : FrzP H d c z) (s : Same H H') : FrzP H' d c z := by
  obtain ⟨E, o, e, r⟩ := h
  exact ⟨E, o, s _ _ e, r.map fun _ _ q => s _ _ q⟩
theorem val_in {E : List Ent} (nd : (E.map Ent.n).Nodup) {e : Ent} (he : e ∈ E) : valV (E.map Ent.kv) (LwD.ik [(e.n : Int)]) = some (.ref e.c) := by
  obtain ⟨L, R, rfl⟩ := List.append_of_mem he
  rw [List.map_append, List.map_cons] at nd ⊢
  refine val_mid (key_ne fun y => ?_)
  exact (List.nodup_append.mp nd).2.2 _ y _ (List.mem_cons_self ..) rfl
theorem frz_get {H : Hp} {d b : Addr} {o : Obj} {E : List Ent} {c : Nat → Rat} {s : Nat → Nat} (h : H d = some (.frz o (.dT (E.map Ent.kv)))) (r : RepE H E c s) {e : Ent} (he : e ∈ E) (hb : H b = some (.tup [.int e.n])) : DGet H d (.ref b) (some (.ref e.c)) :=
  .inr ⟨_, LwD.ik [(e.n : Int)], b, .inr ⟨o, h⟩, rfl, by rw [LwD.ik_map]; exact hb, (val_in r.nd he).symm⟩
theorem RepE.sup {H : Hp} {E E' : List Ent} {c : Nat → Rat} {s : Nat → Nat} (r : RepE H E c s) (p : E'.Perm E) (w : E'.Pairwise fun a b => a.n < b.n) : E'.map Ent.n = sup c := by
  refine inc_eq (List.pairwise_map.mpr w) (sup_pw c) fun x => ⟨fun hx => ?_, fun hx => ?_⟩
  · obtain ⟨e, he, rfl⟩ := List.mem_map.mp hx
    have y := r.each e (p.mem_iff.mp he)
    refine List.mem_filter.mpr ⟨List.mem_range.mpr y.lt, decide_eq_true ?_⟩
    rw [← y.val]
    exact fv_nz y.pos y.nz
  · obtain ⟨h1, h2⟩ := List.mem_filter.mp hx
    obtain ⟨e, he, ee⟩ := r.all x (of_decide_eq_true h2)
    exact List.mem_map.mpr ⟨e, p.mem_iff.mpr he, ee⟩
noncomputable def spLSum : Sp := fun vs H Q _ => ∃ (d : Addr) (c : Nat → Rat) (s : Nat → Nat), vs = [.int 1, .ref d] ∧ FrzP H d c s ∧ (∀ n, s n ≤ 8000) ∧ ∀ (p : Addr) (H' : Hp), H p = none → Same H H' → SumC H' p c → Q (.ref p) H'
theorem rDg {K : PySem.W.Frag} {H : Hp} {d b p : Addr} {xs : List V} {i : Int} {v : V} {Q : VK} {σ : L2.St} (e1 : σ[1]? = some (some (.ref d))) (e3 : σ[3]? = some (some (.ref b))) (g : DGet H d (.ref b) (some (.ref p))) (h : SqT K H p xs) (e : atI xs i = some v) (q : Q v H) : tOp (rIxT K) (tDGet (tVar 1) (tVar 3)) (tC (.int i)) σ H Q := ⟨_, e1, _, e3, d, _, rfl, g, p, xs, i, v, rfl, rfl, h, e, q⟩
theorem dLowD {K : PySem.W.Frag} {H : Hp} {d b p : Addr} {t u : Int} {Q : VK} {σ : L2.St} (e1 : σ[1]? = some (some (.ref d))) (e3 : σ[3]? = some (some (.ref b))) (g : DGet H d (.ref b) (some (.ref p))) (h : SqT K H p [.int t, .int u]) (h1 : u ≠ 0) (h2 : LowFit t u) (k : ∀ (p : Addr) (H' : Hp), H p = none → Same H H' → H' p = some (.tup [.int (lowT t u), .int (lowB t u)]) → Q (.ref p) H') :
    tCall spLow [] E0 (tCons (tOp (rIxT K) (tDGet (tVar 1) (tVar 3)) (tC (.int 0))) (tCons (tOp (rIxT K) (tDGet (tVar 1) (tVar 3)) (tC (.int 1))) tNil)) σ H Q := rDg (Q := fun v H1 => tOp (rIxT K) (tDGet (tVar 1) (tVar 3)) (tC (.int 1)) σ H1 fun w H2 => spLow [v, w] H2 Q E0) e1 e3 g h rfl (rDg (Q := fun w H2 => spLow [.int t, w] H2 Q E0) e1 e3 g h rfl ⟨t, u, rfl, h1, h2, k⟩)
structure LsI (d l sl : Addr) (ys : List V) (c : Nat → Rat) (E' : List Ent) (H H2 : Hp) (i : Nat) (σ : L2.St) (H3 : Hp) : Prop where
  e : ∃ u v, σ = [some (.int 1), some (.ref d), some (.ref l), u, v]
  s : Same H H3
  y : H3 sl = some (.lst ys)
  k : ∀ a xs, H2 a = some (.tup xs) → H3 a = some (.tup xs)
  t : ∃ xs, H3 l = some (.lst xs) ∧ TermsP H3 c xs ((E'.take i).map Ent.n)
section
variable {P : Program} {w : World} {K : PySem.W.Frag} {mg : Str → Option Value} {base : Heap} {f fd : _}
theorem scLSum : FnScope ["many", "one", "terms", "powers", "number"] ["many", "one"] (defScope sLSum) := ⟨rfl, rfl, rfl, by decide +kernel, rfl, by decide +kernel, by decide +kernel⟩
theorem ok_lsum {fL : Addr} {fdL : FuncData} (F : Fun K "_law_sum" "_law_sum" sLSum f fd) (T : Txt mg) (DL : Df K mg "_law_low" sLow ["top", "bottom"] fL fdL) : FnOk P w K mg base CX0 2 f fd ["many", "one"] spLSum := by
  have GL : FnOk P w K mg base CX0 1 fL fdL ["top", "bottom"] spLow := ok_low DL.F T
  refine F.ok scLSum (fun vs H Q E h => ?_) (fun cdv A outer s H vs Q E hr h => ?_)
  · obtain ⟨d, c, sz, rfl, _⟩ := h
    rfl
  · obtain ⟨d, c, sz, rfl, ⟨EE, o, hd, hD⟩, hs, go⟩ := h
    have hu : _ + 1 < cLine := Nat.lt_of_le_of_lt (Nat.add_le_add_left (by decide : 1 ≤ 64) _) hr.units
    refine ⟨_, pss_cons (ps_set (i := 2) scLSum.nd rfl (Or.inl rfl) (pe_lstF pa_nil)) (pss_cons (ps_for PassesOwn.never rfl (pi_list (pe_callB (LwD.call_sortS rfl) (by rfl) T.sorted boot_sorted (pa_cons (pv 1) pa_nil))) (pg_name (i := 3) scLSum.nd rfl (Or.inl rfl)) (pss_one (ps_if (pt_cmpR op_ne (pe_ix ix_tup (pe_dget hu (pv 1) (pv 3) (fun _ _ => rfl)) pe_int (fun _ _ => rfl)) pe_int (nomark _)) (pss_cons (ps_set (i := 4) scLSum.nd rfl (Or.inl rfl) (pe_call GL hr rfl DL.m DL.F.kp DL.b .nil pass0 (pa_cons (pe_ix ix_tup (pe_dget hu (pv 1) (pv 3) (fun _ _ => rfl)) pe_int (fun _ _ => rfl)) (pa_cons (pe_ix ix_tup (pe_dget hu (pv 1) (pv 3) (fun _ _ => rfl)) pe_int (fun _ _ => rfl)) pa_nil)))) (pss_one (ps_expr (pe_bm PySem.F.plainAttrs_list PySem.F.slot_list_append PySem.F.type_list_append mt_append (pv 2) (pa_cons (pe_tupF (pa_cons (pv 3) (pa_cons (pv 4) pa_nil))) pa_nil))))) pss_nil))) (pss_one (ps_ret (pe_tupF (pa_cons (pv 0) (pa_cons (pe_callTy call_tupleZ (by rfl) T.tup boot_tuple (pa_cons (pv 2) pa_nil)) pa_nil)))))), ?_⟩
    try dsimp only [cxK]
    refine ⟨(by show 0 ≤ sizeLine; decide), fun l H1 n1 s1 e1 => ?_⟩
    refine ⟨_, rfl, d, _, rfl, .inr ⟨o, s1 _ _ hd⟩, by rw [List.length_map]; exact Nat.lt_of_le_of_lt hD.few (by decide), fun p hp => ?_, fun ys zs pz ky pw sl H2 n2 s2 e2 => ⟨sl, rfl, ⟨ys, SqL.of e2⟩, ?_⟩⟩
    · obtain ⟨e, he, rfl⟩ := List.mem_map.mp hp
      exact ⟨[(e.n : Int)], rfl, by simp⟩
    obtain ⟨E', pE, rfl⟩ := perm_lift pz EE rfl
    have inc : E'.Pairwise fun a b => a.n < b.n := by
      refine (List.pairwise_map.mp pw).imp fun {a b} h => ?_
      have h : LwD.lexI (LwD.kInts (LwD.ik [(a.n : Int)])) (LwD.kInts (LwD.ik [(b.n : Int)])) = true := h
      rw [LwD.kInts_ik, LwD.kInts_ik] at h
      unfold LwD.lexI at h
      split at h
      · simp [LwD.lexI] at h
      · have := of_decide_eq_true h
        omega
    have es := hD.sup pE inc
    have s12 : Same H H2 := s1.trans s2
    have ls : sl ≠ l := fun z => by rw [z, e1] at n2; cases n2
    have yl : ys.length = E'.length := by rw [ky.1, List.length_map]
    have l24 : E'.length ≤ 24 := by rw [pE.length_eq]; exact hD.few
    refine for_list (K := K) (a := sl) (xs := ys) (LsI d l sl ys c E' H H2)
      ⟨⟨_, _, rfl⟩, s12, e2, fun _ _ e => e, [], s2 _ _ e1, .nil⟩ (fun i σ H3 _ h => SqL.of h.3) ?_ ?_
    · rintro i y σ H3 hyi ⟨⟨u, v, rfl⟩, s3, es3, kt, xs, el, hx⟩
      have hiy : i < ys.length := (List.getElem?_eq_some_iff.mp hyi).1
      have hie : i < E'.length := by omega
      obtain ⟨e, he⟩ : ∃ e, E'[i]? = some e := ⟨E'[i], by simp [hie]⟩
      obtain ⟨b, ns, rfl, hb1, hk⟩ := ky.2 i y e.kv hyi (by rw [List.getElem?_map, he]; rfl)
      have ens : [(e.n : Int)] = ns := ik_inj hk
      subst ens
      have eE : e ∈ EE := pE.mem_iff.mp (List.mem_of_getElem? he)
      have D3 := hD.map (H' := H3) fun _ _ q => s3 _ _ q
      have hE := D3.each e eE
      have hb3 : H3 b = some (.tup [.int e.n]) := kt _ _ (s2 _ _ hb1)
      have g3 := frz_get (s3 _ _ hd) D3 eE hb3
      have c3 := SqT.of (K := K) hE.at'
      have xl : xs.length = i := by
        have := Paired.length hx
        rw [List.length_map, List.length_take] at this
        omega
      refine rDg rfl rfl g3 c3 rfl ⟨rfl, _, rfl, ?_⟩
      refine iteP ?_ ?_
      · rw [Bool.not_eq_true', decide_eq_false]
        intro z
        injection z with z
        exact hE.nz z
      · refine dLowD (t := e.t) (u := e.b) rfl rfl g3 c3 ?_ (.inl ?_) (fun r H4 n4 s4 e4 => ?_)
        · have := hE.pos
          omega
        · exact abs_up hE.sb (hs _)
        refine ⟨_, rfl, .inl ⟨rfl, _, SqL.of (s4 _ _ el)⟩, _, rfl, _, rfl, (by show 2 ≤ sizeLine; decide), fun q H5 n5 s5 e5 => ?_⟩
        have s45 := s4.trans s5
        have el5 := s45 _ _ el
        refine ⟨l, _, _, rfl, rfl, el5, Nat.lt_of_le_of_lt (show xs.length ≤ 24 by omega) (by decide), ?_⟩
        have ku : ∀ (o : HO) a xs, H5 a = some (.tup xs) → upd H5 l o a = some (.tup xs) := fun o a xs e => by
          rw [upd_ne (fun z => by rw [z, el5] at e; cases e)]
          exact e
        refine ⟨⟨_, _, rfl⟩, put_same (s3.trans s45) n1, ?_, fun a xs e => ku _ _ _ (s45 _ _ (kt _ _ e)), _, upd_same, ?_⟩
        · rw [upd_ne ls]
          exact s45 _ _ es3
        · have tk : (E'.take (i + 1)).map Ent.n = (E'.take i).map Ent.n ++ [e.n] := by
            obtain ⟨h1, h2⟩ := List.getElem?_eq_some_iff.mp he
            rw [List.take_succ_eq_append_getElem h1, h2, List.map_append]
            rfl
          rw [tk]
          refine Paired.snoc (hx.map fun a xs e => ku _ _ _ (s45 _ _ e)) ⟨q, b, r, rfl, ku _ _ _ e5, ku _ _ _ (s45 _ _ hb3), ?_⟩
          have nm := num_of (low_pos1 (n := e.t) hE.pos) (low_gcd hE.pos)
          rw [fv_low hE.pos, hE.val] at nm
          unfold At2
          rw [nm.1, nm.2]
          exact ku _ _ _ (s5 _ _ e4)
    · rintro σ H3 ⟨⟨u, v, rfl⟩, s3, es3, kt, xs, el, hx⟩
      refine ⟨_, rfl, _, rfl, l, _, rfl, SqL.of el, fun q oq nq dq => ⟨(by show 2 ≤ sizeLine; decide), fun p H5 n5 s5 e5 => ?_⟩⟩
      have s4 : Same H3 (upd H3 q (.frz oq (.tup xs))) := same_upd _ nq
      rw [yl, List.take_length, es] at hx
      exact go p H5 ((s3.trans s4).free n5) (s3.trans (s4.trans s5)) ⟨q, oq, xs, e5, s5 _ _ upd_same, dq, hx.map fun a xs e => s5 _ _ (s4 _ _ e)⟩
end
end Lw

namespace Lw
open PySem PySem.Spec PyProof.Rows L2 LwQ
structure CmI (F : Nat → List V) (q : Addr) (H1 : Hp) (i : Nat) (ys : List V) (H2 : Hp) : Prop where
  s : Same H1 H2
  e : H2 q = some (.lst ys)
  y : ys = F i
noncomputable def IsDeg (c : Nat → Rat) (n : Nat) : Prop := (∀ j, c j ≠ 0 → j ≤ n) ∧ (n = 0 ∨ c n ≠ 0)
theorem IsDeg.uniq {c : Nat → Rat} {n m : Nat} (h : IsDeg c n) (k : IsDeg c m) : n = m := by
  have h1 : n ≤ m := by
    rcases h.2 with z | z
    · omega
    · exact k.1 n z
  have h2 : m ≤ n := by
    rcases k.2 with z | z
    · omega
    · exact h.1 m z
  omega
theorem keyed_at {H : Hp} {E : List Ent} {ks : List V} (hk : LwD.Keyed H ks (E.map Ent.kv)) {j : Nat} {x : V} (hx : ks[j]? = some x) : ∃ e b, E[j]? = some e ∧ x = .ref b ∧ H b = some (.tup [.int e.n]) := by
  have hj : j < ks.length := (List.getElem?_eq_some_iff.mp hx).1
  have lk : ks.length = E.length := by rw [hk.1, List.length_map]
  obtain ⟨e, he⟩ : ∃ e, E[j]? = some e := ⟨E[j], by simp [← lk, hj]⟩
  obtain ⟨b, ns', rfl, hb, hns⟩ := hk.2 j x e.kv hx (by rw [List.getElem?_map, he]; rfl)
  have ens : [(e.n : Int)] = ns' := ik_inj hns
  subst ens
  exact ⟨e, b, he, rfl, hb⟩
noncomputable def spDeg : Sp := fun vs H Q _ => ∃ (d : Addr) (c : Nat → Rat) (s : Nat → Nat), vs = [.ref d] ∧ FrzP H d c s ∧ ∀ (n : Nat) (H' : Hp), Same H H' → IsDeg c n → Q (.int n) H'
section
variable {P : Program} {w : World} {K : PySem.W.Frag} {mg : Str → Option Value} {base : Heap} {f fd : _}
theorem scDeg : FnScope ["one"] ["one"] (defScope sDeg) := ⟨rfl, rfl, rfl, by decide +kernel, rfl, by decide +kernel, by decide +kernel⟩
theorem ok_deg (F : Fun K "_law_deg" "_law_deg" sDeg f fd) (T : Txt mg) : FnOk P w K mg base CX0 1 f fd ["one"] spDeg := by
  refine F.ok scDeg (fun vs H Q E h => ?_) (fun cdv A outer s H vs Q E hr h => ?_)
  · obtain ⟨d, c, sz, rfl, _⟩ := h
    rfl
  · obtain ⟨d, c, sz, rfl, ⟨EE, o, hd, hD⟩, go⟩ := h
    refine ⟨_, pss_one (ps_ret (pe_callB (LwMx.call_max1 rfl) (by rfl) T.max (show bootBuiltins "max" = some (.builtin "max") by decide +kernel) (pa_cons (pe_op op_catF (pe_lstF (pa_cons pe_int pa_nil))
      (pe_compF (own := 1) (idx := []) (N := ["powers"]) rfl rfl rfl (by decide +kernel) (by decide +kernel) (fun _ _ h => nomatch h) (has_of rfl) rfl (fun _ _ _ h => nomatch h) (LwD.pi_keys (pv 0)) (fun C fp s2 H2 => pg_name (i := 0) (show List.Nodup (["powers"] : List Str) by decide +kernel) rfl (Or.inl rfl))
        (fun C fp s2 H2 => pe_ix (show IxR (cxCompF _ ["powers"] _ _ C fp s2 H2) (rIxT K) from ix_tup) (pv 0) pe_int (fun _ _ => rfl)))) pa_nil))), ?_⟩
    try dsimp only [cxK]
    refine ⟨(by show 1 ≤ sizeLine; decide), fun z H1 n1 s1 e1 => ?_⟩
    refine ⟨_, rfl, d, o, _, rfl, s1 _ _ hd, fun p hp => ?_, fun ks hk => fun l H2 n2 s2 e2 => ?_⟩
    · obtain ⟨e, he, rfl⟩ := List.mem_map.mp hp
      exact ⟨_, rfl⟩
    have lk : ks.length = EE.length := by rw [hk.1, List.length_map]
    refine comp_by (xs := ks) (CmI (fun i => (EE.take i).map fun e => V.int e.n) l H1) (by rw [lk]; exact Nat.lt_of_le_of_lt hD.few (by decide)) ⟨s2, e2, rfl⟩
      (fun i ys H3 h hi => ⟨⟨h.1 _ _ (s1 _ _ hd), hi⟩, fun x H4 y => ⟨y.1, y.2⟩⟩) (fun ys H3 h => ⟨h.1 _ _ (s1 _ _ hd), rfl⟩) (fun i ys H3 h => h.2) ?_ ?_
    · rintro j mm ys x H3 hx hmm hy ⟨s3, e3, hys⟩
      obtain ⟨e, b, he, rfl, hb⟩ := keyed_at hk hx
      refine ⟨keep1, rvT rfl (SqT.of (s3 _ _ hb)) rfl ?_⟩
      refine comp_next hx hmm hy e3 ⟨put_same s3 n2, upd_same, ?_⟩
      rw [hys, List.take_succ, he, List.map_append]
      rfl
    · rintro ys H3 hy ⟨s3, e3, hys⟩
      rw [lk, List.take_length] at hys
      have hl : [V.int 0] ++ ys = ((0 : Int) :: EE.map fun e => (e.n : Int)).map V.int := by
        rw [hys, List.map_cons, List.map_map]
        rfl
      refine ⟨z, l, _, _, rfl, rfl, s3 _ _ e1, e3, ?_, fun q H4 n4 s4 e4 => ?_⟩
      · rw [hys, List.length_map]
        have := hD.few
        show 1 + EE.length ≤ sizeLine
        exact Nat.le_trans (show 1 + EE.length ≤ 25 by omega) (by decide)
      rw [hl] at e4
      refine ⟨q, _, rfl, e4, by simp, fun m hm hmx => ?_⟩
      have hs : Same H H4 := (s1.trans s3).trans s4
      have m0 : 0 ≤ m := hmx 0 (List.mem_cons_self ..)
      obtain ⟨k, rfl⟩ := Int.eq_ofNat_of_zero_le m0
      refine go k H4 hs ⟨fun j hj => ?_, ?_⟩
      · obtain ⟨e, he, ee⟩ := hD.all j hj
        have := hmx e.n (List.mem_cons_of_mem _ (List.mem_map.mpr ⟨e, he, rfl⟩))
        omega
      · rcases List.mem_cons.mp hm with y | y
        · left; omega
        · right
          obtain ⟨e, he, ee⟩ := List.mem_map.mp y
          have x := hD.each e he
          have : e.n = k := by omega
          rw [← this, ← x.val]
          exact fv_nz x.pos x.nz
end
end Lw

namespace Lw
open PySem PySem.Spec PyProof.Rows L2 LwQ
noncomputable def upTo (n : Nat) : List V := (List.range n).map fun (i : Nat) => V.int (0 + (i : Int))
theorem upTo_len (n : Nat) : (upTo n).length = n := by simp [upTo]
theorem upTo_get {n i : Nat} {x : V} (h : (upTo n)[i]? = some x) : x = .int (0 + (i : Int)) ∧ i < n := by
  unfold upTo at h
  rw [List.getElem?_map] at h
  cases e : (List.range n)[i]? with
  | none => rw [e] at h; cases h
  | some j =>
    rw [e] at h
    obtain ⟨h1, h2⟩ := List.getElem?_eq_some_iff.mp e
    rw [List.getElem_range] at h2
    subst h2
    rw [List.length_range] at h1
    exact ⟨(Option.some.inj h).symm, h1⟩
theorem comp_rangeF {n : Nat} {σ0 : L2.St} {g : TG} {te : TE} {Q : VK} {p : Addr} {H' : Hp} (Pv : Nat → List V → Hp → Prop) (hz : n < sizeLine) (h0 : Pv 0 [] H') (hl : ∀ i ys H2, Pv i ys H2 → H2 p = some (.lst ys))
    (hs : ∀ i m ys x H2, (upTo n)[i]? = some x → m = (upTo n).length - i → ys.length = i → Pv i ys H2 → g (.int (0 + (i : Int))) σ0 H2 fun σ4 H4 => Keep σ0 σ4 ∧ te σ4 H4 fun y H5 => H5 p = some (.lst ys) ∧ ∃ m', m' < m ∧ CompW (upTo n) Pv (i + 1) m' (ys ++ [y]) (upd H5 p (.lst (ys ++ [y]))))
    (hd : ∀ ys H2, ys.length = n → Pv n ys H2 → Q (.ref p) H2) : CompGoF σ0 (Itr 0 n) g te Q p H' := by
  refine comp_by (xs := upTo n) Pv (by rw [upTo_len]; exact hz) h0 (fun i ys H2 _ hi => ?_) (fun ys H2 _ => by rw [upTo_len]; exact Nat.le_refl n) hl (fun i m ys x H2 hx hm hy hp => ?_) (fun ys H2 hy hp => ?_)
  · rw [upTo_len] at hi
    refine ⟨hi, ?_⟩
    rintro x H3 ⟨rfl, rfl⟩
    exact ⟨rfl, by unfold upTo; rw [List.getElem?_map, List.getElem?_range hi]; rfl⟩
  · obtain ⟨e, _⟩ := upTo_get hx
    subst e
    exact hs i m ys _ H2 hx hm hy hp
  · rw [upTo_len] at hy hp
    exact hd ys H2 hy hp
theorem paired_get {α β : Type} {R : α → β → Prop} {l : List α} {m : List β} (p : Paired R l m) {i : Nat} {x : α} (e : l[i]? = some x) : ∃ y, m[i]? = some y ∧ R x y := by
  induction p generalizing i with
  | nil => simp at e
  | cons h t ih =>
    cases i with
    | zero => cases e; exact ⟨_, rfl, h⟩
    | succ i => exact ih e
theorem sup_mem {c : Nat → Rat} {n : Nat} : n ∈ sup c ↔ n < 24 ∧ c n ≠ 0 := by
  unfold sup
  rw [List.mem_filter, List.mem_range, decide_eq_true_iff]
noncomputable def F24 (c : Nat → Rat) : Prop := ∀ j, 24 ≤ j → c j = 0
theorem sup_few (c : Nat → Rat) : (sup c).length ≤ 24 := Nat.le_trans (List.length_filter_le ..) (by rw [List.length_range]; exact Nat.le_refl _)
noncomputable def spDegree : Sp := fun vs H Q _ => ∃ (p : Addr) (c : Nat → Rat), vs = [.ref p] ∧ SumC H p c ∧ F24 c ∧ ∀ (n : Nat) (H' : Hp), Same H H' → IsDeg c n → Q (.int n) H'
section
variable {P : Program} {w : World} {K : PySem.W.Frag} {mg : Str → Option Value} {base : Heap} {f fd : _}
theorem scDegree : FnScope ["one"] ["one"] (defScope sDegree) := ⟨rfl, rfl, rfl, by decide +kernel, rfl, by decide +kernel, by decide +kernel⟩
theorem ok_degree (F : Fun K "degree" "degree" sDegree f fd) (T : Txt mg) : FnOk P w K mg base CX0 1 f fd ["one"] spDegree := by
  refine F.ok scDegree (fun vs H Q E h => ?_) (fun cdv A outer s H vs Q E hr h => ?_)
  · obtain ⟨p, c, rfl, _⟩ := h
    rfl
  · obtain ⟨p, c, rfl, ⟨q, o, xs, hp, hq, _, hT⟩, f24, go⟩ := h
    refine ⟨_, pss_one (ps_ret (LwMx.pe_maxD rfl (by rfl) T.max (pa_cons (pe_compF (own := 2) (idx := []) (N := ["powers", "fraction"]) rfl rfl rfl (by decide +kernel) (by decide +kernel) (fun _ _ h => nomatch h) (has_of rfl) rfl (fun _ _ _ h => nomatch h) (pi_tup (pe_ix ix_tup (pv 0) pe_int (fun _ _ => rfl)))
      (fun C fp s2 H2 => show PG (cxCompF _ ["powers", "fraction"] _ _ C fp s2 H2) _ (gTup K 2 (gCons (gName 0) (gCons (gName 1) gNil))) from pg_tup (X := cxCompF _ ["powers", "fraction"] _ _ C fp s2 H2) rfl (pgs_cons (pg_name (i := 0) (show List.Nodup (["powers", "fraction"] : List Str) by decide +kernel) rfl (Or.inl rfl) (Or.inr rfl)) (pgs_cons (pg_name (i := 1) (show List.Nodup (["powers", "fraction"] : List Str) by decide +kernel) rfl (Or.inl rfl) (Or.inr rfl)) pgs_nil)))
      (fun C fp s2 H2 => pe_callB (show CallR (cxCompF _ ["powers", "fraction"] _ _ C fp s2 H2) (.builtin "sum") (rSumT K) from call_sumT rfl) (by rfl) T.sum boot_sum (pa_cons (pv 0) pa_nil))) pa_nil) (pk_cons pe_int pk_nil))), ?_⟩
    try dsimp only [cxK]
    have sq : ∀ {H2}, Same H H2 → SqT K H2 q xs := fun s => .inl (.inr ⟨o, s _ _ hq⟩)
    refine ⟨_, rfl, p, _, _, _, rfl, rfl, SqT.of hp, rfl, q, rfl, ⟨xs, sq (Same.refl _)⟩, fun l H1 n1 s1 e1 => ?_⟩
    have lx := Paired.length hT
    have few := sup_few c
    refine comp_tupF (K := K) (a := q) (xs := xs) (CmI (fun i => ((sup c).take i).map fun (n : Nat) => V.int n) l H) (Nat.lt_of_le_of_lt (show xs.length ≤ 24 by omega) (by decide)) ⟨s1, e1, rfl⟩ (fun i ys H2 h => ⟨sq h.1, h.2⟩) ?_ ?_
    · rintro i m ys x H2 hx hm hy ⟨s2, e2, hys⟩
      obtain ⟨n, hn, r, b, c', rfl, t1, t2, t3⟩ := paired_get hT hx
      have n24 := (sup_mem.mp (List.mem_of_getElem? hn)).1
      refine ⟨r, _, rfl, SqT.of (s2 _ _ t1), rfl, _, _, rfl, _, _, rfl, rfl, keep2, ?_⟩
      refine ⟨_, rfl, b, [(n : Int)], rfl, SqT.of (s2 _ _ t2), fun z hz => ?_, by simp, ?_⟩
      · rw [List.mem_singleton.mp hz]
        omega
      · refine comp_next hx hm hy e2 ⟨put_same s2 n1, upd_same, ?_⟩
        rw [hys, List.take_succ, hn, List.map_append]
        simp
    · rintro ys H2 hl ⟨s2, e2, hys⟩
      rw [lx, List.take_length] at hys
      have hm : ys = ((sup c).map fun (n : Nat) => (n : Int)).map V.int := by rw [hys, List.map_map]; rfl
      refine ⟨0, rfl, l, (sup c).map fun (n : Nat) => (n : Int), rfl, by rw [← hm]; exact e2, fun z => ?_, fun m h1 h2 => ?_⟩
      · refine go 0 H2 s2 ⟨fun j hj => ?_, .inl rfl⟩
        have : sup c = [] := by simpa using z
        by_cases j24 : j < 24
        · have := sup_mem.mpr ⟨j24, hj⟩
          simp_all
        · exact absurd (f24 j (by omega)) hj
      · obtain ⟨n, hn, rfl⟩ := List.mem_map.mp h1
        refine go n H2 s2 ⟨fun j hj => ?_, .inr (sup_mem.mp hn).2⟩
        by_cases j24 : j < 24
        · have := h2 j (List.mem_map.mpr ⟨j, sup_mem.mpr ⟨j24, hj⟩, rfl⟩)
          omega
        · exact absurd (f24 j (by omega)) hj
end
end Lw

namespace Lw
open PySem PySem.Spec PyProof.Rows L2 LwQ
noncomputable def Ngt (K : PySem.W.Frag) (mg : Str → Option Value) : Prop := ∃ a, mg "NOUGHT" = some (.ref a) ∧ ∀ H, SqT K H a [.int 0, .int 1]
noncomputable def NumAt (K : PySem.W.Frag) (H : Hp) (x : V) (r : Rat) : Prop := ∃ a, x = .ref a ∧ SqT K H a [.int r.num, .int r.den] ∧ (r ≠ 0 → At2 H a r.num r.den)
noncomputable def NumsAt (K : PySem.W.Frag) (H : Hp) (xs : List V) (rs : List Rat) : Prop := Paired (NumAt K H) xs rs
theorem NumAt.same {K : PySem.W.Frag} {H H' : Hp} {x : V} {r : Rat} (h : NumAt K H x r) (s : Same H H') : NumAt K H' x r := let ⟨a, e, q, z⟩ := h; ⟨a, e, sqT_same s q, fun n => s _ _ (z n)⟩
theorem NumAt.upd {K : PySem.W.Frag} {H : Hp} {x : V} {r : Rat} {l : Addr} {ys : List V} {o : HO} (h : NumAt K H x r) (e : H l = some (.lst ys)) : NumAt K (upd H l o) x r := by
  obtain ⟨a, rfl, q, z2⟩ := h
  refine ⟨a, rfl, ?_, fun n => by
    have y := z2 n
    unfold At2 at y ⊢
    rw [upd_ne (fun z => by rw [z, e] at y; cases y)]
    exact y⟩
  rcases q with (q | ⟨u, q⟩) | q
  · exact .inl (.inl (by rw [upd_ne (fun z => by rw [z, e] at q; cases q)]; exact q))
  · exact .inl (.inr ⟨u, by rw [upd_ne (fun z => by rw [z, e] at q; cases q)]; exact q⟩)
  · exact .inr q
theorem terms_ent {H : Hp} {c : Nat → Rat} {s : Nat → Nat} (hs : ∀ n, (c n).num.natAbs < 2 ^ s n ∧ (c n).den < 2 ^ s n) : ∀ {xs : List V} {l : List Nat}, TermsP H c xs l → (∀ n ∈ l, n < 24 ∧ c n ≠ 0) → ∃ E : List Ent, E.map Ent.n = l ∧ LwD.PairsIn H xs (E.map Ent.kv) ∧ ∀ e ∈ E, EntP H c s e ∧ e.t = (c e.n).num ∧ e.b = ((c e.n).den : Int)
  | _, _, .nil, _ => ⟨[], rfl, .nil, fun _ h => nomatch h⟩
  | _, _, .cons (b := n) h t, k => by
    obtain ⟨E, e1, e2, e3⟩ := terms_ent hs t fun m hm => k m (List.mem_cons_of_mem _ hm)
    obtain ⟨r, b, q, rfl, h1, h2, h3⟩ := h
    have kn := k n (List.mem_cons_self ..)
    have nl := num_low (c n)
    refine ⟨⟨n, q, (c n).num, (c n).den⟩ :: E, by rw [List.map_cons, e1], .cons ⟨r, b, rfl, .inl h1, by rw [show (Ent.kv ⟨n, q, (c n).num, (c n).den⟩).1 = LwD.ik [(n : Int)] from rfl, LwD.ik_map]; exact h2⟩ e2, fun e he => ?_⟩
    rcases List.mem_cons.mp he with rfl | he
    · refine ⟨⟨kn.1, h3, nl.1, fun z => kn.2 ?_, fv_num _, (hs n).1, ?_⟩, rfl, rfl⟩
      · have := fv_num (c n)
        rw [← this, show (c n).num = 0 from z]
        exact fv_eq nl.1 (by decide) (by simp) |>.trans fv_zero
      · have := (hs n).2
        show ((c n).den : Int).natAbs < _
        rw [Int.natAbs_natCast]
        exact this
    · exact e3 e he
theorem terms_rep {H : Hp} {c : Nat → Rat} {s : Nat → Nat} {xs : List V} (hs : ∀ n, (c n).num.natAbs < 2 ^ s n ∧ (c n).den < 2 ^ s n) (h : TermsP H c xs (sup c)) (f : F24 c) : ∃ E : List Ent, LwD.PairsIn H xs (E.map Ent.kv) ∧ RepE H E c s ∧ ∀ e ∈ E, e.t = (c e.n).num ∧ e.b = ((c e.n).den : Int) := by
  obtain ⟨E, e1, e2, e3⟩ := terms_ent hs h fun n hn => sup_mem.mp hn
  refine ⟨E, e2, ⟨by rw [e1]; exact (sup_pw c).imp fun h => Nat.ne_of_lt h, fun e he => (e3 e he).1, fun j hj => ?_⟩, fun e he => (e3 e he).2⟩
  have : j ∈ E.map Ent.n := by
    rw [e1]
    refine sup_mem.mpr ⟨?_, hj⟩
    by_cases z : j < 24
    · exact z
    · exact absurd (f j (by omega)) hj
  obtain ⟨e, he, ee⟩ := List.mem_map.mp this
  exact ⟨e, he, ee⟩
theorem kv_nodup {E : List Ent} (h : (E.map Ent.n).Nodup) : ((E.map Ent.kv).map (·.1)).Nodup := by
  rw [List.map_map]
  refine List.pairwise_map.mpr ((List.pairwise_map.mp h).imp fun {a b} k z => k ?_)
  have : [(a.n : Int)] = [(b.n : Int)] := ik_inj z
  have : (a.n : Int) = b.n := by simpa using this
  omega
noncomputable def selfS (c : Nat → Rat) : Nat → Nat := fun n => (c n).num.natAbs + (c n).den
theorem selfS_ok (c : Nat → Rat) : ∀ n, (c n).num.natAbs < 2 ^ selfS c n ∧ (c n).den < 2 ^ selfS c n := fun n => by
  have h := Nat.lt_two_pow_self (n := selfS c n)
  unfold selfS at h ⊢
  constructor <;> omega
noncomputable def spNumbers (K : PySem.W.Frag) : Sp := fun vs H Q _ => ∃ (p : Addr) (c : Nat → Rat), vs = [.ref p] ∧ SumC H p c ∧ F24 c ∧
  ∀ (l : Addr) (n : Nat) (xs : List V) (H' : Hp), H l = none → Same H H' → IsDeg c n → H' l = some (.lst xs) → NumsAt K H' xs ((List.range (n + 1)).map c) → Q (.ref l) H'
section
variable {P : Program} {w : World} {K : PySem.W.Frag} {mg : Str → Option Value} {base : Heap} {f fd : _}
theorem scNumbers : FnScope ["one", "table"] ["one"] (defScope sNumbers) := ⟨rfl, rfl, rfl, by decide +kernel, rfl, by decide +kernel, by decide +kernel⟩
theorem ok_numbers {fD : Addr} {fdD : FuncData} (F : Fun K "all_powers" "all_powers" sNumbers f fd) (T : Txt mg) (Nn : Ngt K mg) (DD : Df K mg "degree" sDegree ["one"] fD fdD) : FnOk P w K mg base CX0 2 f fd ["one"] (spNumbers K) := by
  have GD : FnOk P w K mg base CX0 1 fD fdD ["one"] spDegree := ok_degree DD.F T
  obtain ⟨na, hN, hNq⟩ := Nn
  refine F.ok scNumbers (fun vs H Q E h => ?_) (fun cdv A outer s H vs Q E hr h => ?_)
  · obtain ⟨p, c, rfl, _⟩ := h
    rfl
  · obtain ⟨p, c, rfl, hS, f24, go⟩ := h
    have hu : _ + 1 < cLine := Nat.lt_of_le_of_lt (Nat.add_le_add_left (by decide : 1 ≤ 64) _) hr.units
    have hu2 : _ + 2 < cLine := Nat.lt_of_le_of_lt (Nat.add_le_add_left (by decide : 2 ≤ 64) _) hr.units
    refine ⟨_, pss_cons (ps_set (i := 1) scNumbers.nd rfl (Or.inr rfl) (pe_callTy (LwD.call_dictT rfl hu2) (by rfl) T.dct boot_dict (pa_cons (pe_ix ix_tup (pv 0) pe_int (fun _ _ => rfl)) pa_nil)))
      (pss_one (ps_ret (pe_compF (own := 1) (idx := [1]) (N := ["power", "table"]) rfl rfl rfl (by decide +kernel) (by decide +kernel) (fun _ _ h => h) (has_of rfl) rfl (one_idx rfl ⟨rfl, rfl, rfl, rfl⟩)
        (pi_range1 (by rfl) T.rng (pa_cons (pe_op op_add (pe_call GD hr rfl DD.m DD.F.kp DD.b .nil pass0 (pa_cons (pv 0) pa_nil)) pe_int) pa_nil))
        (fun C fp s2 H2 => pg_name (i := 0) (show List.Nodup (["power", "table"] : List Str) by decide +kernel) rfl (Or.inl rfl))
        (fun C fp s2 H2 => pe_dget2 hu (pv 1) (pe_tupF (pa_cons (pv 0) pa_nil)) (pe_glob (v := .ref na) (by rfl) hN rfl) ⟨rfl, rfl, rfl, rfl⟩)))), ?_⟩
    try dsimp only [cxK]
    obtain ⟨q, o, xs, hp, hq, hd, hT⟩ := hS.ex
    obtain ⟨E, pr, R, nums⟩ := terms_rep (selfS_ok c) hT f24
    refine ⟨_, rfl, p, _, _, _, rfl, rfl, SqT.of hp, rfl, q, o, xs, E.map Ent.kv, rfl, hq, hd, pr, kv_nodup R.nd, fun t H1 n1 s1 e1 => ?_⟩
    refine ⟨_, rfl, p, c, rfl, hS.same s1, f24, fun n H2 s2 dg => ⟨_, _, rfl, rfl, _, rfl, ?_, ?_, fun l H3 n3 s3 e3 => ?_⟩⟩
    · omega
    · have : n < 24 := by
        rcases dg.2 with z | z
        · omega
        · by_cases y : n < 24
          · exact y
          · exact absurd (f24 n (by omega)) z
      omega
    have n24 : n < 24 := by
      rcases dg.2 with z | z
      · omega
      · by_cases y : n < 24
        · exact y
        · exact absurd (f24 n (by omega)) z
    rw [show ((n : Int) + 1).toNat = n + 1 by omega]
    refine comp_rangeF (fun i ys H4 => Same H2 H4 ∧ H4 l = some (.lst ys) ∧ NumsAt K H4 ys ((List.range i).map c)) (Nat.lt_of_le_of_lt (show n + 1 ≤ 24 by omega) (by decide)) ⟨s3, e3, .nil⟩ (fun i ys H4 h => h.2.1) ?_ ?_
    · rintro i m ys x H4 hx hm hy ⟨s4, e4, hN4⟩
      refine ⟨keep1, _, rfl, t, rfl, .inr ⟨_, .inl (s4 _ _ (s2 _ _ e1))⟩, _, rfl, (by show 1 ≤ sizeLine; decide), fun z H5 n5 s5 e5 => ?_⟩
      have ei : (0 : Int) + (i : Int) = (i : Int) := by omega
      rw [ei] at e5
      have s45 := s4.trans s5
      have hb5 : H5 z = some (.tup ((LwD.ik [(i : Int)]).map kV)) := by rw [LwD.ik_map]; exact e5
      refine ⟨valV (E.map Ent.kv) (LwD.ik [(i : Int)]), DGet.t (s45 _ _ (s2 _ _ e1)) hb5, ?_⟩
      have fin : NumAt K H5 ((valV (E.map Ent.kv) (LwD.ik [(i : Int)])).getD (.ref na)) (c i) := by
        by_cases ci : c i = 0
        · have : i ∉ E.map Ent.n := fun y => by
            obtain ⟨e, he, ee⟩ := List.mem_map.mp y
            have x := R.each e he
            rw [← ee, ← x.val] at ci
            exact fv_nz x.pos x.nz ci
          rw [val_out (key_ne this), ci]
          exact ⟨na, rfl, hNq H5, fun z => absurd rfl z⟩
        · obtain ⟨e, he, ee⟩ := R.all i ci
          have x := R.each e he
          rw [← ee, val_in R.nd he]
          have nm := nums e he
          have at5 : At2 H5 e.c (c e.n).num (c e.n).den := by
            rw [← nm.1, ← nm.2]
            exact s45 _ _ (s2 _ _ (s1 _ _ x.at'))
          exact ⟨e.c, rfl, SqT.of at5, fun _ => at5⟩
      refine comp_next hx hm hy (s5 _ _ e4) ⟨put_same (s4.trans s5) n3, upd_same, ?_⟩
      rw [List.range_succ, List.map_append]
      exact Paired.snoc (Paired.mono (fun _ _ y => (NumAt.same y s5).upd (s5 _ _ e4)) hN4) (fin.upd (s5 _ _ e4))
    · rintro ys H4 hy ⟨s4, e4, hN4⟩
      exact go l n ys H4 ((s1.trans s2).free n3) ((s1.trans s2).trans s4) dg e4 hN4
end
end Lw

namespace Lw
open PySem PySem.Spec PyProof.Rows L2 LwQ
theorem cross {x : Rat} {t b : Int} (hb : 0 < b) (h : x = fv t b) : x.num * b = t * x.den := by
  have n := num_low x
  exact fv_inj n.1 hb (by rw [fv_num, h])
theorem at_low {H : Hp} {r : Addr} {N D : Int} {z : Rat} (h : At2 H r (lowT N D) (lowB N D)) (hD : 0 < D) (e : fv N D = z) : At2 H r z.num z.den := by
  have nm := num_of (low_pos1 (n := N) hD) (low_gcd hD)
  rw [fv_low hD, e] at nm
  unfold At2
  rw [nm.1, nm.2]
  exact h
end Lw

namespace LwB
noncomputable def ev : List Rat → Rat → Rat
  | [], _ => 0
  | a :: r, x => a + x * ev r x
noncomputable def iq (ns : List Int) : List Rat := ns.map fun (z : Int) => (z : Rat)
theorem ev_app (x : Rat) : ∀ (l m : List Rat), ev (l ++ m) x = ev l x + x ^ l.length * ev m x
  | [], m => by simp [ev]; grind
  | a :: l, m => by
    have ih := ev_app x l m
    simp only [List.cons_append, ev, ih, List.length_cons, Rat.pow_succ]
    grind
theorem ev_zip (b s x : Rat) : ∀ (l m : List Rat), l.length = m.length → ev (List.zipWith (fun p q => b * p + s * q) l m) x = b * ev l x + s * ev m x
  | [], [], _ => by simp [ev]; grind
  | p :: l, q :: m, h => by
    have ih := ev_zip b s x l m (by simpa using h)
    simp only [List.zipWith_cons_cons, ev, ih]
    grind
noncomputable def mvZ (b s : Int) (row : List Int) : List Int := List.zipWith (fun p q => b * p + s * q) (row ++ [0]) (0 :: row)
theorem mvZ_len (b s : Int) (row : List Int) : (mvZ b s row).length = row.length + 1 := by simp [mvZ]
theorem iq_zip (b s : Int) : ∀ (l m : List Int), iq (List.zipWith (fun p q => b * p + s * q) l m) = List.zipWith (fun p q => (b : Rat) * p + s * q) (iq l) (iq m)
  | [], _ => by simp [iq]
  | _ :: _, [] => by simp [iq]
  | p :: l, q :: m => by
    have ih := iq_zip b s l m
    simp only [iq, List.zipWith_cons_cons, List.map_cons] at ih ⊢
    rw [ih, Rat.intCast_add, Rat.intCast_mul, Rat.intCast_mul]
theorem ev_mvZ (b s : Int) (row : List Int) (x : Rat) : ev (iq (mvZ b s row)) x = ((b : Rat) + s * x) * ev (iq row) x := by
  unfold mvZ
  rw [iq_zip, ev_zip _ _ _ _ _ (by simp [iq])]
  have e1 : iq (row ++ [0]) = iq row ++ [0] := by simp [iq]
  have e2 : iq (0 :: row) = 0 :: iq row := by simp [iq]
  rw [e1, e2, ev_app]
  simp only [ev]
  grind
noncomputable def bumpI (row : List Int) (y : Int) : List Int := row.set 0 (row.getD 0 0 + y)
theorem bumpI_len (row : List Int) (y : Int) : (bumpI row y).length = row.length := by simp [bumpI]
theorem ev_bumpI {row : List Int} (h : row ≠ []) (y : Int) (x : Rat) : ev (iq (bumpI row y)) x = ev (iq row) x + y := by
  cases row with
  | nil => exact absurd rfl h
  | cons a r =>
    show ev (iq ((a + y) :: r)) x = _
    simp only [iq, List.map_cons, ev, Rat.intCast_add]
    grind
noncomputable def mvS (b s u : Int) (st : List Int × Int) (t : Int) : List Int × Int := (bumpI (mvZ b s st.1) (t * (st.2 * u)), st.2 * u)
noncomputable def mvF (b s u : Int) (a : Int) (l : List Int) : List Int × Int := l.foldl (mvS b s u) ([a], 1)
theorem mvF_snoc (b s u a t : Int) (l : List Int) : mvF b s u a (l ++ [t]) = mvS b s u (mvF b s u a l) t := by
  unfold mvF
  rw [List.foldl_append]
  rfl
theorem mvF_snd (b s u a : Int) : ∀ (n : Nat) (l : List Int), l.length = n → (mvF b s u a l).2 = u ^ n
  | 0, l, h => by
    have : l = [] := List.length_eq_zero_iff.mp h
    subst this
    simp [mvF]
  | n + 1, l, h => by
    have ne : l ≠ [] := by intro z; subst z; cases h
    rw [← List.dropLast_concat_getLast ne, mvF_snoc]
    have := mvF_snd b s u a n l.dropLast (by simp [h])
    show (mvF b s u a l.dropLast).2 * u = _
    rw [this, Int.pow_succ]
theorem mvF_len (b s u a : Int) : ∀ (n : Nat) (l : List Int), l.length = n → (mvF b s u a l).1.length = n + 1
  | 0, l, h => by
    have : l = [] := List.length_eq_zero_iff.mp h
    subst this
    simp [mvF]
  | n + 1, l, h => by
    have ne : l ≠ [] := by intro z; subst z; cases h
    rw [← List.dropLast_concat_getLast ne, mvF_snoc]
    have := mvF_len b s u a n l.dropLast (by simp [h])
    show (bumpI (mvZ b s (mvF b s u a l.dropLast).1) _).length = _
    rw [bumpI_len, mvZ_len, this]
noncomputable def hor (y : Rat) (a : Rat) (l : List Rat) : Rat := l.foldl (fun h t => y * h + t) a
theorem hor_rev (y : Rat) (a : Rat) (l : List Rat) : hor y a l.reverse = ev (l ++ [a]) y := by
  unfold hor
  rw [List.foldl_reverse]
  induction l with
  | nil => simp [ev]; grind
  | cons p r ih =>
    simp only [List.foldr_cons, List.cons_append, ev, ih]
    grind
theorem mvF_ev {b s u : Int} (hu : (u : Rat) ≠ 0) (a : Int) (x : Rat) : ∀ (n : Nat) (l : List Int), l.length = n → ev (iq (mvF b s u a l).1) x = (u : Rat) ^ n * hor (((b : Rat) + s * x) / u) a (iq l)
  | 0, l, h => by
    have : l = [] := List.length_eq_zero_iff.mp h
    subst this
    simp [mvF, iq, ev, hor]
    grind
  | n + 1, l, h => by
    have ne : l ≠ [] := by intro z; subst z; cases h
    have ld : l.dropLast.length = n := by simp [h]
    have ih := mvF_ev (b := b) (s := s) hu a x n l.dropLast ld
    have sn := mvF_snd b s u a n l.dropLast ld
    have ll := mvF_len b s u a n l.dropLast ld
    rw [← List.dropLast_concat_getLast ne, mvF_snoc]
    generalize l.getLast ne = t
    show ev (iq (bumpI (mvZ b s (mvF b s u a l.dropLast).1) (t * ((mvF b s u a l.dropLast).2 * u)))) x = _
    rw [ev_bumpI (by intro z; have := mvZ_len b s (mvF b s u a l.dropLast).1; rw [z] at this; simp at this), ev_mvZ, ih, sn]
    have e : iq (l.dropLast ++ [t]) = iq l.dropLast ++ [(t : Rat)] := by simp [iq]
    rw [e]
    unfold hor
    rw [List.foldl_append]
    simp only [List.foldl_cons, List.foldl_nil]
    generalize (iq l.dropLast).foldl (fun h t => ((b : Rat) + s * x) / u * h + t) (a : Rat) = h0
    rw [Rat.intCast_mul, Rat.intCast_mul, Rat.intCast_pow, Rat.pow_succ]
    have : ((b : Rat) + s * x) / u * u = b + s * x := by grind
    grind
noncomputable def ch : Nat → Nat → Int
  | _, 0 => 1
  | 0, _ + 1 => 0
  | n + 1, k + 1 => ch n k + ch n (k + 1)
theorem ch_out : ∀ (n k : Nat), n < k → ch n k = 0
  | 0, k + 1, _ => rfl
  | n + 1, k + 1, h => by
    show ch n k + ch n (k + 1) = 0
    rw [ch_out n k (by omega), ch_out n (k + 1) (by omega)]
    rfl
theorem ch_zero (n : Nat) : ch n 0 = 1 := by cases n <;> rfl
theorem ch_step : ∀ (n k : Nat), ch n (k + 1) * ((k : Int) + 1) = ch n k * ((n : Int) - k)
  | 0, 0 => by simp [ch]
  | 0, k + 1 => by simp [ch]
  | n + 1, 0 => by
    have := ch_step n 0
    show (ch n 0 + ch n 1) * _ = 1 * _
    rw [ch_zero] at this ⊢
    simp at this ⊢
    omega
  | n + 1, k + 1 => by
    have h1 := ch_step n k
    have h2 := ch_step n (k + 1)
    show (ch n (k + 1) + ch n (k + 1 + 1)) * _ = (ch n k + ch n (k + 1)) * _
    push_cast at h1 h2 ⊢
    grind
noncomputable def ffv (n : Nat) : Nat → Int
  | 0 => 1
  | k + 1 => ffv n k * ((n : Int) - k)
noncomputable def fct : Nat → Int
  | 0 => 1
  | k + 1 => fct k * ((k : Int) + 1)
theorem fct_pos : ∀ k, 0 < fct k
  | 0 => by decide
  | k + 1 => Int.mul_pos (fct_pos k) (by omega)
theorem ffv_ch (n : Nat) : ∀ k, ffv n k = ch n k * fct k
  | 0 => by rw [ch_zero]; rfl
  | k + 1 => by
    have := ch_step n k
    show ffv n k * _ = ch n (k + 1) * (fct k * _)
    rw [ffv_ch n k]
    grind
theorem ffv_fct (n : Nat) : ∀ k, k ≤ n → ffv n k * fct (n - k) = fct n
  | 0, _ => by simp [ffv]
  | k + 1, h => by
    have ih := ffv_fct n k (by omega)
    obtain ⟨d, hd⟩ : ∃ d, n - k = d + 1 := ⟨n - k - 1, by omega⟩
    have : n - (k + 1) = d := by omega
    rw [hd] at ih
    rw [this, ← ih]
    show ffv n k * ((n : Int) - k) * fct d = ffv n k * (fct d * ((d : Int) + 1))
    rw [show (n : Int) - k = (d : Int) + 1 by omega]
    grind
theorem ch_fct {n k : Nat} (h : k ≤ n) : ch n k * fct k * fct (n - k) = fct n := by rw [← ffv_ch]; exact ffv_fct n k h
noncomputable def dvs (x : Int) : Nat → Int
  | 0 => x
  | k + 1 => dvs x k / ((k : Int) + 1)
noncomputable def pp : Nat → Nat → Int
  | _, 0 => 1
  | j, d + 1 => ((j : Int) + 1) * pp (j + 1) d
theorem pp_fct : ∀ (d j : Nat), fct j * pp j d = fct (j + d)
  | 0, j => by simp [pp]
  | d + 1, j => by
    have ih := pp_fct d (j + 1)
    show fct j * (((j : Int) + 1) * pp (j + 1) d) = _
    rw [← Int.mul_assoc, show j + (d + 1) = j + 1 + d by omega, ← ih]
    rfl
theorem dvs_pp (y : Int) (k : Nat) : ∀ j, j ≤ k → dvs (y * fct k) j = y * pp j (k - j)
  | 0, _ => by
    have := pp_fct k 0
    rw [Nat.zero_add] at this
    show y * fct k = _
    rw [← this, Nat.sub_zero]
    simp [fct]
  | j + 1, h => by
    show dvs (y * fct k) j / _ = _
    rw [dvs_pp y k j (by omega)]
    obtain ⟨d, hd⟩ : ∃ d, k - j = d + 1 := ⟨k - j - 1, by omega⟩
    rw [hd, show k - (j + 1) = d by omega]
    show y * (((j : Int) + 1) * pp (j + 1) d) / _ = _
    rw [← Int.mul_assoc, Int.mul_comm y, Int.mul_assoc]
    exact Int.mul_ediv_cancel_left _ (by omega)
theorem dvs_all (y : Int) (k : Nat) : dvs (y * fct k) k = y := by
  rw [dvs_pp y k k (Nat.le_refl _), Nat.sub_self]
  simp [pp]
noncomputable def bb (r : Nat → Int) : Nat → Int
  | 0 => r 0
  | j + 1 => bb r j + bb (fun i => r (i + 1)) j
noncomputable def lc (t s : Rat) : Nat → (Nat → Rat) → Rat
  | 0, u => u 0
  | n + 1, u => s * lc t s n u + t * lc t s n fun i => u (i + 1)
theorem lc_add (t s : Rat) : ∀ (n : Nat) (u v : Nat → Rat), lc t s n (fun i => u i + v i) = lc t s n u + lc t s n v
  | 0, u, v => rfl
  | n + 1, u, v => by
    show s * lc t s n (fun i => u i + v i) + t * lc t s n (fun i => u (i + 1) + v (i + 1)) = _
    rw [lc_add t s n u v, lc_add t s n (fun i => u (i + 1)) fun i => v (i + 1)]
    show _ = s * lc t s n u + t * lc t s n (fun i => u (i + 1)) + (s * lc t s n v + t * lc t s n (fun i => v (i + 1)))
    grind
theorem lc_bb {t s : Rat} (h : s + t = 1) : ∀ (n : Nat) (r : Nat → Int), lc t s n (fun i => (bb r i : Rat)) = lc t 1 n (fun i => (r i : Rat))
  | 0, r => rfl
  | n + 1, r => by
    have e : (fun i => (bb r (i + 1) : Rat)) = fun i => (bb r i : Rat) + (bb (fun j => r (j + 1)) i : Rat) := by
      funext i
      show ((bb r i + bb (fun j => r (j + 1)) i : Int) : Rat) = _
      rw [Rat.intCast_add]
    show s * lc t s n (fun i => (bb r i : Rat)) + t * lc t s n (fun i => (bb r (i + 1) : Rat)) = 1 * lc t 1 n (fun i => (r i : Rat)) + t * lc t 1 n (fun i => (r (i + 1) : Rat))
    rw [e, lc_add, lc_bb h n r, lc_bb h n fun j => r (j + 1)]
    grind
noncomputable def sm (f : Nat → Rat) : Nat → Rat
  | 0 => 0
  | k + 1 => sm f k + f k
theorem sm_congr {f g : Nat → Rat} : ∀ (n : Nat), (∀ k, k < n → f k = g k) → sm f n = sm g n
  | 0, _ => rfl
  | n + 1, h => by
    show sm f n + f n = sm g n + g n
    rw [sm_congr n fun k hk => h k (by omega), h n (by omega)]
theorem sm_lin (a b : Rat) (f g : Nat → Rat) : ∀ n, sm (fun k => a * f k + b * g k) n = a * sm f n + b * sm g n
  | 0 => by simp [sm]; grind
  | n + 1 => by
    show sm (fun k => a * f k + b * g k) n + (a * f n + b * g n) = a * (sm f n + f n) + b * (sm g n + g n)
    rw [sm_lin a b f g n]
    grind
theorem sm_shift (f : Nat → Rat) : ∀ n, sm f (n + 1) = f 0 + sm (fun k => f (k + 1)) n
  | 0 => by simp [sm]; grind
  | n + 1 => by
    show sm f (n + 1) + f (n + 1) = f 0 + (sm (fun k => f (k + 1)) n + f (n + 1))
    rw [sm_shift f n]
    grind
noncomputable def wt (t s : Rat) : Nat → Nat → Rat
  | 0, 0 => 1
  | 0, _ + 1 => 0
  | n + 1, 0 => s * wt t s n 0
  | n + 1, k + 1 => s * wt t s n (k + 1) + t * wt t s n k
theorem wt_out (t s : Rat) : ∀ (n k : Nat), n < k → wt t s n k = 0
  | 0, k + 1, _ => rfl
  | n + 1, k + 1, h => by
    show s * wt t s n (k + 1) + t * wt t s n k = 0
    rw [wt_out t s n k (by omega), wt_out t s n (k + 1) (by omega)]
    grind
theorem wt_ch (t s : Rat) : ∀ (n k : Nat), k ≤ n → wt t s n k = (ch n k : Rat) * (t ^ k * s ^ (n - k))
  | 0, 0, _ => by simp [wt, ch]
  | n + 1, 0, _ => by
    show s * wt t s n 0 = _
    rw [wt_ch t s n 0 (by omega), ch_zero, ch_zero, Nat.sub_zero, Nat.sub_zero, Rat.pow_succ]
    grind
  | n + 1, k + 1, h => by
    show s * wt t s n (k + 1) + t * wt t s n k = ((ch n k + ch n (k + 1) : Int) : Rat) * _
    rw [wt_ch t s n k (by omega), Rat.intCast_add, show n + 1 - (k + 1) = n - k by omega, Rat.pow_succ]
    by_cases e : k + 1 ≤ n
    · obtain ⟨d, hd⟩ : ∃ d, n - k = d + 1 := ⟨n - k - 1, by omega⟩
      rw [wt_ch t s n (k + 1) e, show n - (k + 1) = d by omega, hd, Rat.pow_succ, Rat.pow_succ]
      grind
    · rw [wt_out t s n (k + 1) (by omega), ch_out n (k + 1) (by omega)]
      have : ((0 : Int) : Rat) = 0 := rfl
      rw [this]
      grind
theorem lc_sm (t s : Rat) : ∀ (n : Nat) (u : Nat → Rat), lc t s n u = sm (fun k => u k * wt t s n k) (n + 1)
  | 0, u => by simp [lc, sm, wt]; grind
  | n + 1, u => by
    show s * lc t s n u + t * lc t s n (fun i => u (i + 1)) = _
    rw [lc_sm t s n u, lc_sm t s n fun i => u (i + 1), sm_shift _ (n + 1)]
    have e : sm (fun k => u (k + 1) * wt t s (n + 1) (k + 1)) (n + 1) = s * sm (fun k => u (k + 1) * wt t s n (k + 1)) (n + 1) + t * sm (fun k => u (k + 1) * wt t s n k) (n + 1) := by
      rw [← sm_lin]
      refine sm_congr _ fun k _ => ?_
      show u (k + 1) * (s * wt t s n (k + 1) + t * wt t s n k) = _
      grind
    rw [e]
    have e2 := sm_shift (fun k => u k * wt t s n k) (n + 1)
    have e3 : sm (fun k => u k * wt t s n k) (n + 1 + 1) = sm (fun k => u k * wt t s n k) (n + 1) := by
      show sm _ (n + 1) + u (n + 1) * wt t s n (n + 1) = _
      rw [wt_out t s n (n + 1) (by omega)]
      grind
    rw [e3] at e2
    rw [e2]
    show _ = u 0 * (s * wt t s n 0) + _
    grind
theorem ev_sm (x : Rat) : ∀ (l : List Rat), ev l x = sm (fun k => l.getD k 0 * x ^ k) l.length
  | [] => rfl
  | a :: r => by
    rw [List.length_cons, sm_shift]
    show a + x * ev r x = a * x ^ 0 + sm (fun k => r.getD k 0 * x ^ (k + 1)) r.length
    rw [ev_sm x r]
    have := sm_lin x 0 (fun k => r.getD k 0 * x ^ k) (fun _ => 0) r.length
    have e : sm (fun k => x * (r.getD k 0 * x ^ k) + 0 * 0) r.length = sm (fun k => r.getD k 0 * x ^ (k + 1)) r.length := sm_congr _ fun k _ => by rw [Rat.pow_succ]; grind
    rw [← e, this]
    grind
theorem one_pow : ∀ n : Nat, (1 : Rat) ^ n = 1
  | 0 => rfl
  | n + 1 => by rw [Rat.pow_succ, one_pow n, Rat.one_mul]
theorem spread_sum {n : Nat} (a : Nat → Int) (t : Rat) :
    sm (fun k => (bb (fun j => a j * fct j * fct (n - j)) k : Rat) * ((ch n k : Rat) * (t ^ k * (1 - t) ^ (n - k)))) (n + 1) = (fct n : Rat) * sm (fun k => (a k : Rat) * t ^ k) (n + 1) := by
  have h := lc_bb (t := t) (s := 1 - t) (by grind) n fun j => a j * fct j * fct (n - j)
  rw [lc_sm, lc_sm] at h
  have e1 : sm (fun k => (bb (fun j => a j * fct j * fct (n - j)) k : Rat) * wt t (1 - t) n k) (n + 1) = sm (fun k => (bb (fun j => a j * fct j * fct (n - j)) k : Rat) * ((ch n k : Rat) * (t ^ k * (1 - t) ^ (n - k)))) (n + 1) := sm_congr _ fun k hk => by rw [wt_ch _ _ _ _ (by omega)]
  rw [← e1, h]
  have := sm_lin (fct n : Rat) 0 (fun k => (a k : Rat) * t ^ k) (fun _ => 0) (n + 1)
  have e2 : sm (fun k => (fct n : Rat) * ((a k : Rat) * t ^ k) + 0 * 0) (n + 1) = sm (fun k => ((a k * fct k * fct (n - k) : Int) : Rat) * wt t 1 n k) (n + 1) := sm_congr _ fun k hk => by
    rw [wt_ch _ _ _ _ (by omega), one_pow, ← ch_fct (show k ≤ n by omega)]
    simp only [Rat.intCast_mul]
    grind
  rw [← e2, this]
  grind
noncomputable def sprF (r : Nat → Int) (T j : Nat) : Int := bb (fun i => r (i + (j - min T j))) (min T j)
theorem sprF_zero (r : Nat → Int) (j : Nat) : sprF r 0 j = r j := by
  unfold sprF
  rw [Nat.zero_min, Nat.sub_zero]
  show r (0 + j) = r j
  rw [Nat.zero_add]
theorem sprF_low (r : Nat → Int) {T j : Nat} (h : j ≤ T) : sprF r (T + 1) j = sprF r T j := by
  unfold sprF
  rw [Nat.min_eq_right h, Nat.min_eq_right (by omega)]
theorem sprF_up (r : Nat → Int) {T j : Nat} (h : T ≤ j) : sprF r (T + 1) (j + 1) = sprF r T (j + 1) + sprF r T j := by
  unfold sprF
  rw [Nat.min_eq_left (show T + 1 ≤ j + 1 by omega), Nat.min_eq_left (show T ≤ j + 1 by omega), Nat.min_eq_left h, show j + 1 - (T + 1) = j - T by omega, show j + 1 - T = j - T + 1 by omega]
  show bb _ T + bb (fun i => r (i + 1 + (j - T))) T = _
  rw [show (fun i => r (i + (j - T + 1))) = fun i => r (i + 1 + (j - T)) from funext fun i => by rw [show i + (j - T + 1) = i + 1 + (j - T) by omega]]
  omega
theorem sprF_all (r : Nat → Int) {T j : Nat} (h : j ≤ T) : sprF r T j = bb r j := by
  unfold sprF
  rw [Nat.min_eq_right h, Nat.sub_self]
  rfl
end LwB

namespace Lw
open PySem PySem.Spec PyProof.Rows L2 LwQ
noncomputable def NumQ (K : PySem.W.Frag) (H : Hp) (x : V) (r : Rat) : Prop := ∃ a, x = .ref a ∧ SqT K H a [.int r.num, .int r.den]
noncomputable def NumsQ (K : PySem.W.Frag) (H : Hp) (xs : List V) (rs : List Rat) : Prop := Paired (NumQ K H) xs rs
theorem NumsAt.q {K : PySem.W.Frag} {H : Hp} {xs : List V} {rs : List Rat} (h : NumsAt K H xs rs) : NumsQ K H xs rs := Paired.mono (fun _ _ ⟨a, e, q, _⟩ => ⟨a, e, q⟩) h
noncomputable def lvS (b : Int) (r : Rat) : Int := b * lowT (r.den : Int) b
noncomputable def lvD (rs : List Rat) : Int := rs.foldl lvS 1
noncomputable def lvT (rs : List Rat) : List Int := rs.map fun r => r.num * (lvD rs / (r.den : Int))
theorem lvS_pos {b : Int} (hb : 0 < b) (r : Rat) : 0 < lvS b r := by
  unfold lvS
  rw [low_posT hb]
  have g := LwM.gcd_pos (r.den : Int) b hb
  have d := r.den_pos
  have : 0 < (r.den : Int) / (Int.gcd (r.den : Int) b : Int) := by
    have h1 : (Int.gcd (r.den : Int) b : Int) ∣ (r.den : Int) := Int.gcd_dvd_left ..
    obtain ⟨k, hk⟩ := h1
    generalize (Int.gcd (r.den : Int) b : Int) = G at *
    rw [hk, Int.mul_ediv_cancel_left _ (by omega)]
    by_cases z : 0 < k
    · exact z
    · have : G * k ≤ 0 := Int.mul_nonpos_of_nonneg_of_nonpos (by omega) (by omega)
      omega
  exact Int.mul_pos hb this
theorem lvS_dvd {b : Int} (hb : 0 < b) (r : Rat) : b ∣ lvS b r ∧ (r.den : Int) ∣ lvS b r := by
  unfold lvS
  refine ⟨Int.dvd_mul_right .., ?_⟩
  rw [low_posT hb]
  have g := LwM.gcd_pos (r.den : Int) b hb
  obtain ⟨k, hk⟩ : (Int.gcd (r.den : Int) b : Int) ∣ (r.den : Int) := Int.gcd_dvd_left ..
  obtain ⟨m, hm⟩ : (Int.gcd (r.den : Int) b : Int) ∣ b := Int.gcd_dvd_right ..
  generalize (Int.gcd (r.den : Int) b : Int) = G at *
  refine ⟨m, ?_⟩
  have : (r.den : Int) / G = k := by rw [hk, Int.mul_ediv_cancel_left _ (by omega)]
  rw [this, hk]
  conv => lhs; rw [hm]
  grind
theorem lvF : ∀ (rs : List Rat) (b : Int), 0 < b → 0 < rs.foldl lvS b ∧ b ∣ rs.foldl lvS b ∧ ∀ r ∈ rs, (r.den : Int) ∣ rs.foldl lvS b
  | [], b, h => ⟨h, Int.dvd_refl _, fun _ z => nomatch z⟩
  | r :: rs, b, h => by
    obtain ⟨h1, h2, h3⟩ := lvF rs (lvS b r) (lvS_pos h r)
    have d := lvS_dvd h r
    refine ⟨h1, Int.dvd_trans d.1 h2, fun q hq => ?_⟩
    rcases List.mem_cons.mp hq with rfl | hq
    · exact Int.dvd_trans d.2 h2
    · exact h3 q hq
theorem lvD_pos (rs : List Rat) : 0 < lvD rs := (lvF rs 1 (by decide)).1
theorem lvD_dvd {rs : List Rat} {r : Rat} (h : r ∈ rs) : (r.den : Int) ∣ lvD rs := (lvF rs 1 (by decide)).2.2 r h
theorem lvF_le {e : Nat} : ∀ (rs : List Rat) (b : Int) (n : Nat), 0 < b → b.natAbs ≤ 2 ^ n → (∀ r ∈ rs, r.den ≤ 2 ^ e) → (rs.foldl lvS b).natAbs ≤ 2 ^ (n + e * rs.length)
  | [], b, n, _, h, _ => by simpa using h
  | r :: rs, b, n, hb, h, k => by
    have h1 : (lvS b r).natAbs ≤ 2 ^ (n + e) := by
      unfold lvS
      rw [Int.natAbs_mul, Nat.pow_add]
      have := lowT_le (n := (r.den : Int)) hb
      rw [Int.natAbs_natCast] at this
      exact Nat.mul_le_mul h (Nat.le_trans this (k r (List.mem_cons_self ..)))
    have := lvF_le rs (lvS b r) (n + e) (lvS_pos hb r) h1 fun q hq => k q (List.mem_cons_of_mem _ hq)
    rw [List.length_cons, Nat.mul_succ, show n + (e * rs.length + e) = n + e + e * rs.length by omega]
    exact this
theorem lvD_le {e : Nat} {rs : List Rat} (h : ∀ r ∈ rs, r.den ≤ 2 ^ e) : (lvD rs).natAbs ≤ 2 ^ (e * rs.length) := by
  have := lvF_le rs 1 0 (by decide) (by decide) h
  rwa [Nat.zero_add] at this
theorem lvD_snoc (rs : List Rat) (r : Rat) : lvD (rs ++ [r]) = lvS (lvD rs) r := by
  unfold lvD
  rw [List.foldl_append]
  rfl
theorem lv_val {rs : List Rat} {r : Rat} (h : r ∈ rs) : ((r.num * (lvD rs / (r.den : Int)) : Int) : Rat) = r * (lvD rs : Rat) := by
  obtain ⟨k, hk⟩ := lvD_dvd h
  have d := r.den_pos
  rw [hk, Int.mul_ediv_cancel_left _ (by omega), Rat.intCast_mul, Rat.intCast_mul]
  have h1 := fv_num r
  unfold fv at h1
  have h2 : ((r.den : Int) : Rat) ≠ 0 := cne (by omega)
  generalize ((r.den : Int) : Rat) = D at *
  generalize (r.num : Rat) = N at *
  rw [← h1]
  grind
theorem lvT_val (rs : List Rat) : LwB.iq (lvT rs) = rs.map fun r => r * (lvD rs : Rat) := by
  unfold lvT LwB.iq
  rw [List.map_map]
  exact List.map_congr_left fun r hr => lv_val hr
theorem lvT_len (rs : List Rat) : (lvT rs).length = rs.length := by simp [lvT]
theorem lvT_bd {rs : List Rat} {m e : Nat} (h : (lvD rs).natAbs ≤ 2 ^ e) (k : ∀ r ∈ rs, r.num.natAbs < 2 ^ m) : ∀ z ∈ lvT rs, z.natAbs < 2 ^ (m + e) := by
  intro z hz
  unfold lvT at hz
  obtain ⟨r, hr, rfl⟩ := List.mem_map.mp hz
  have d := r.den_pos
  have h1 : (lvD rs / (r.den : Int)).natAbs ≤ 2 ^ e := Nat.le_trans (LwM.ediv_abs _ _ (by omega)) h
  rw [Int.natAbs_mul, Nat.pow_add]
  exact Nat.mul_lt_mul_of_lt_of_le (k r hr) h1 (Nat.two_pow_pos _)
noncomputable def spLevel (K : PySem.W.Frag) : Sp := fun vs H Q _ => ∃ (l : Addr) (xs : List V) (rs : List Rat), vs = [.ref l] ∧ SqL K H l xs ∧ (∀ H', Same H H' → SqL K H' l xs) ∧ NumsQ K H xs rs ∧ rs.length ≤ 24 ∧ (∀ r ∈ rs, r.den ≤ 2 ^ 100 ∧ r.num.natAbs < 2 ^ 400) ∧
  ∀ (p q : Addr) (H' : Hp), H p = none → H q = none → Same H H' → H' p = some (.tup [.ref q, .int (lvD rs)]) → H' q = some (.lst ((lvT rs).map V.int)) → Q (.ref p) H'
theorem fr_one {t : Int} {n : Nat} (h : t.natAbs < 2 ^ n) (hn : 0 < n) : FrOk n t 1 := ⟨by decide, by simp, h, by
  show 1 < 2 ^ n
  exact Nat.one_lt_two_pow (by omega)⟩
section
variable {P : Program} {w : World} {K : PySem.W.Frag} {mg : Str → Option Value} {base : Heap} {f fd : _}
theorem scLevel : FnScope ["some", "bottom", "top", "under"] ["some"] (defScope sLevel) := ⟨rfl, rfl, rfl, by decide +kernel, rfl, by decide +kernel, by decide +kernel⟩
theorem ok_level {fD fM fG : Addr} {fdD fdM fdG : FuncData} (F : Fun K "level" "level" sLevel f fd) (T : Txt mg) (DD : Df K mg "divided" sDiv ["one", "other"] fD fdD) (DM : Df K mg "multiplied" sMul ["one", "other"] fM fdM) (DG : Df K mg "greatest_divisor" sGcd ["one", "other"] fG fdG) : FnOk P w K mg base CX0 4 f fd ["some"] (spLevel K) := by
  have GD : FnOk P w K mg base CX0 3 fD fdD ["one", "other"] (spDivN K) := ok_divN DD.F T DM DG
  refine F.ok scLevel (fun vs H Q E h => ?_) (fun cdv A outer s H vs Q E hr h => ?_)
  · obtain ⟨l, xs, rs, rfl, _⟩ := h
    rfl
  · obtain ⟨l, xs, rs, rfl, hl, hlk, hX, l24, bd, go⟩ := h
    refine ⟨_, pss_cons (ps_set (i := 1) scLevel.nd rfl (Or.inr rfl) pe_int)
      (pss_cons (ps_for PassesOwn.never rfl (pi_list (pv 0)) (pg_tup rfl (pgs_cons (pg_name (i := 2) scLevel.nd rfl (Or.inl rfl)) (pgs_cons (pg_name (i := 3) scLevel.nd rfl (Or.inl rfl)) pgs_nil)))
        (pss_one (ps_set (i := 1) scLevel.nd rfl (Or.inr rfl) (pe_op op_mulL (pv 1) (pe_ix ix_tup (pe_call GD hr rfl DD.m DD.F.kp DD.b .nil pass0 (pa_cons (pe_tupF (pa_cons (pv 3) (pa_cons pe_int pa_nil))) (pa_cons (pe_tupF (pa_cons (pv 1) (pa_cons pe_int pa_nil))) pa_nil))) pe_int (fun _ _ => rfl))))))
      (pss_one (ps_ret (pe_tupF (pa_cons (pe_compF (own := 2) (idx := [1]) (N := ["top", "under", "bottom"]) rfl rfl rfl (by decide +kernel) (by decide +kernel) (fun _ _ h => h) (has_of rfl) rfl (one_idx rfl ⟨rfl, rfl, rfl, rfl⟩)
        (pi_list (pv 0))
        (fun C fp s2 H2 => show PG (cxCompF _ ["top", "under", "bottom"] _ _ C fp s2 H2) _ (gTup K 2 (gCons (gName 0) (gCons (gName 1) gNil))) from pg_tup (X := cxCompF _ ["top", "under", "bottom"] _ _ C fp s2 H2) rfl (pgs_cons (pg_name (i := 0) (show List.Nodup (["top", "under", "bottom"] : List Str) by decide +kernel) rfl (Or.inl rfl) (Or.inr rfl)) (pgs_cons (pg_name (i := 1) (show List.Nodup (["top", "under", "bottom"] : List Str) by decide +kernel) rfl (Or.inl rfl) (Or.inr rfl)) pgs_nil)))
        (fun C fp s2 H2 => pe_op op_mulL (pv 0) (pe_op op_fdivL (pv 2) (pv 1)))) (pa_cons (pv 1) pa_nil)))))), ?_⟩
    try dsimp only [cxK]
    have lx : xs.length = rs.length := Paired.length hX
    have bdD : ∀ (ys : List Rat), (∀ r ∈ ys, r ∈ rs) → ys.length ≤ 24 → (lvD ys).natAbs ≤ 2 ^ 2400 := fun ys hy h24 => by
      have := lvD_le (e := 100) (rs := ys) fun r hr => (bd r (hy r hr)).1
      exact Nat.le_trans this (Nat.pow_le_pow_right (by decide) (by omega))
    refine ⟨_, rfl, l, rfl, ⟨xs, hl⟩, for_list (K := K) (a := l) (xs := xs) (fun i σ H1 => Same H H1 ∧ ∃ v2 v3, σ = [some (.ref l), some (.int (lvD (rs.take i))), v2, v3]) ⟨Same.refl H, _, _, rfl⟩ (fun i σ H1 _ h => hlk _ h.1) ?_ ?_⟩
    · rintro i x σ H1 hx ⟨s1, v2, v3, rfl⟩
      obtain ⟨r, hr', a, rfl, sq⟩ := paired_get hX hx
      have hir : i < rs.length := (List.getElem?_eq_some_iff.mp hr').1
      have rm : r ∈ rs := List.mem_of_getElem? hr'
      have tk : rs.take (i + 1) = rs.take i ++ [r] := by
        rw [List.take_succ, hr']
        rfl
      have bi := bdD (rs.take i) (fun q hq => List.mem_of_mem_take hq) (by rw [List.length_take]; omega)
      have pi := lvD_pos (rs.take i)
      have brm := bd r rm
      have dp := r.den_pos
      have bi' : (lvD (rs.take i)).natAbs < 2 ^ 2401 := Nat.lt_of_le_of_lt bi (Nat.pow_lt_pow_right (by decide) (by decide))
      have bd' : ((r.den : Int)).natAbs < 2 ^ 101 := by
        rw [Int.natAbs_natCast]
        exact Nat.lt_of_le_of_lt brm.1 (Nat.pow_lt_pow_right (by decide) (by decide))
      refine (gT2 (sqT_same s1 sq) rfl ?_)
      refine ⟨_, rfl, _, rfl, (by show 2 ≤ sizeLine; decide), fun z H2 n2 s2 e2 => ⟨_, rfl, (by show 2 ≤ sizeLine; decide), fun y H3 n3 s3 e3 => ?_⟩⟩
      refine ⟨z, y, (r.den : Int), 1, lvD (rs.take i), 1, rfl, SqT.of (s3 _ _ e2), SqT.of e3, fr_one (abs_up bd' (by decide)) (by decide), fr_one (abs_up bi' (by decide)) (by decide), by omega, fun q H4 n4 s4 e4 => ?_⟩
      rw [Int.mul_one, Int.one_mul] at e4
      have lt := lowT_le (n := (r.den : Int)) pi
      refine ⟨q, _, _, _, rfl, rfl, SqT.of e4, rfl, _, _, rfl, rfl, ⟨abs_up bi' (by decide), Nat.lt_of_le_of_lt lt (abs_up bd' (by decide))⟩, ?_⟩
      refine ⟨((s1.trans s2).trans s3).trans s4, some (.int r.num), some (.int r.den), ?_⟩
      rw [tk, lvD_snoc]
      rfl
    · rintro σ H1 ⟨s1, v2, v3, rfl⟩
      rw [lx, List.take_length]
      have bD := bdD rs (fun _ h => h) l24
      have pD := lvD_pos rs
      have bD' : (lvD rs).natAbs < 2 ^ 2401 := Nat.lt_of_le_of_lt bD (Nat.pow_lt_pow_right (by decide) (by decide))
      refine ⟨_, rfl, l, rfl, ⟨xs, hlk _ s1⟩, fun q H2 n2 s2 e2 => ?_⟩
      refine comp_listF (K := K) (a := l) (xs := xs) (CmI (fun i => ((lvT rs).take i).map V.int) q H1) (by rw [lx]; exact Nat.lt_of_le_of_lt l24 (by decide)) ⟨s2, e2, rfl⟩ (fun i ys H4 h => ⟨hlk _ (s1.trans h.1), h.2⟩) ?_ ?_
      · rintro i m ys x H4 hx hm hy ⟨s4, e4, rfl⟩
        obtain ⟨r, hr', a, rfl, sq⟩ := paired_get hX hx
        have rm : r ∈ rs := List.mem_of_getElem? hr'
        have brm := bd r rm
        have dp := r.den_pos
        have bd' : ((r.den : Int)).natAbs < 2 ^ 101 := by
          rw [Int.natAbs_natCast]
          exact Nat.lt_of_le_of_lt brm.1 (Nat.pow_lt_pow_right (by decide) (by decide))
        refine (gT2 (sqT_same (s1.trans s4) sq) rfl ⟨keep2, ?_⟩)
        have bq : (lvD rs / (r.den : Int)).natAbs < 2 ^ 2401 := abs_div bD' (by omega)
        refine ⟨_, rfl, _, rfl, _, rfl, _, _, rfl, rfl, ⟨by omega, abs_up bd' (by decide)⟩, _, _, rfl, rfl, ⟨abs_up brm.2 (by decide), abs_up bq (by decide)⟩, ?_⟩
        refine comp_next hx hm hy e4 ⟨put_same s4 n2, upd_same, ?_⟩
        have : (lvT rs)[i]? = some (r.num * (lvD rs / (r.den : Int))) := by
          unfold lvT
          rw [List.getElem?_map, hr']
          rfl
        rw [List.take_succ, this, List.map_append]
        rfl
      · rintro ys H4 hy ⟨s4, e4, rfl⟩
        refine ⟨_, rfl, (by show 2 ≤ sizeLine; decide), fun p H5 n5 s5 e5 => ?_⟩
        rw [lx, ← lvT_len rs, List.take_length] at e4
        exact go p q H5 ((s1.trans s4).free n5) (s1.free n2) ((s1.trans s4).trans s5) e5 (s5 _ _ e4)
end
end Lw

namespace Lw
open PySem PySem.Spec PyProof.Rows L2 LwQ
theorem get_list {X : Cx} : PGet X (rIxL X.K) := by
  intro pins s σ H x y v u Q I rx ry h
  obtain ⟨p, xs, i, z, rfl, rfl, hq, he, q⟩ := h
  cases rx
  obtain ⟨t, rfl⟩ := ry
  obtain ⟨its, r, pl, hz⟩ := I.list hq
  obtain ⟨j, h1, h2, h3, h4, h5⟩ := atI_get he
  obtain ⟨w, ew, rw'⟩ := r.get h2
  have hl := r.length
  have hn := line63
  have fin : EP X pins σ Q w s := ⟨z, H, I, rw', q⟩
  by_cases h0 : 0 ≤ i
  · have hj : i.toNat = j := by
      rw [seqIndex_of h0 h5] at h1
      exact Option.some.inj h1
    exact wpAny_getItem_list pl.isList h0 (by omega) (by rw [hj]; simpa using ew) fin
  · have hj : (i + (its.toArray.size : Int)).toNat = j := by
      rw [seqIndex_neg (by omega) h4] at h1
      rw [List.size_toArray, ← hl]
      exact Option.some.inj h1
    exact wpAny_getItem_list_neg pl.isList (by omega) (by rw [List.size_toArray] <;> omega) (by omega) (by rw [hj]; simpa using ew) fin
theorem two_idx {X : Cx} {scope : Scope} {own j0 j1 : Nat} {N : List Str} {x0 x1 : Str} (h0 : N[own]? = some x0) (h1 : N[own + 1]? = some x1) (a : X.N[j0]? = some x0 ∧ X.env.kindOf x0 = some .cell ∧ (relabel scope X.env).names.lookup x0 = some .cell ∧ X.env.scope.names.lookup x0 = some .cell)
    (b : X.N[j1]? = some x1 ∧ X.env.kindOf x1 = some .cell ∧ (relabel scope X.env).names.lookup x1 = some .cell ∧ X.env.scope.names.lookup x1 = some .cell) :
    ∀ (k j : Nat) (x : Str), [j0, j1][k]? = some j → N[own + k]? = some x → X.N[j]? = some x ∧ X.env.kindOf x = some .cell ∧ (relabel scope X.env).names.lookup x = some .cell ∧ X.env.scope.names.lookup x = some .cell := by
  intro k j x e1 e2
  match k, e1, e2 with
  | 0, e1, e2 =>
    cases e1
    rw [Nat.add_zero, h0] at e2
    cases e2
    exact a
  | 1, e1, e2 =>
    cases e1
    rw [h1] at e2
    cases e2
    exact b
  | k + 2, e1, _ => cases e1
theorem at_last {xs : List V} {N : Nat} {x : V} (l : xs.length = N + 1) (h : xs[N]? = some x) : atI xs (-1) = some x := by
  unfold atI ixN
  rw [l, if_neg (by decide), if_pos (by omega)]
  show xs[(-1 + ((N + 1 : Nat) : Int)).toNat]? = some x
  rw [show (-1 + ((N + 1 : Nat) : Int)).toNat = N by omega]
  exact h
theorem ix_nat {n i : Nat} {z : Int} (e : z = i) (h : i < n) : ixN n z = some i := by
  subst e
  unfold ixN
  rw [if_pos (by omega), if_pos (by omega)]
  simp
theorem at_nat {xs : List V} {i : Nat} {z : Int} {x : V} (e : z = i) (h : xs[i]? = some x) : atI xs z = some x := by
  subst e
  exact atI_nat h
theorem cut_last (ns : List Int) (h : ns ≠ []) : cutV (ns.map V.int) none (some (-1)) = ns.dropLast.map V.int := by
  unfold cutV
  have l0 : 0 < ns.length := List.length_pos_iff.mpr h
  have e : HT.sIx (ns.map V.int).length (ns.map V.int).length (some (-1)) = ns.length - 1 := by
    unfold HT.sIx
    dsimp only
    rw [if_pos (by decide), List.length_map]
    omega
  rw [e, HT.sIx_none, List.drop_zero, Nat.sub_zero, List.dropLast_eq_take, List.map_take]
theorem fct_le : ∀ n : Nat, n ≤ 24 → (LwB.fct n).natAbs ≤ 2 ^ (5 * n)
  | 0, _ => by decide
  | n + 1, h => by
    show (LwB.fct n * ((n : Int) + 1)).natAbs ≤ _
    rw [Int.natAbs_mul, Nat.mul_succ, Nat.pow_add]
    exact Nat.mul_le_mul (fct_le n (by omega)) (by omega)
theorem fct_bd {n : Nat} (h : n ≤ 24) : (LwB.fct n).natAbs < 2 ^ 121 := Nat.lt_of_le_of_lt (fct_le n h) (Nat.pow_lt_pow_right (by decide) (by omega))
noncomputable def spFact : Sp := fun vs H Q _ => ∃ n : Nat, vs = [.int n] ∧ n ≤ 24 ∧ Q (.int (LwB.fct n)) H
section
variable {P : Program} {w : World} {K : PySem.W.Frag} {mg : Str → Option Value} {base : Heap} {f fd : _}
theorem scFact : FnScope ["many", "product", "factor"] ["many"] (defScope sFact) := ⟨rfl, rfl, rfl, by decide +kernel, rfl, by decide +kernel, by decide +kernel⟩
theorem ok_fact (F : Fun K "factorial" "factorial" sFact f fd) (T : Txt mg) : FnOk P w K mg base CX0 1 f fd ["many"] spFact := by
  refine F.ok scFact (fun vs H Q E h => ?_) (fun cdv A outer s H vs Q E hr h => ?_)
  · obtain ⟨n, rfl, _⟩ := h
    rfl
  · obtain ⟨n, rfl, h24, go⟩ := h
    refine ⟨_, pss_cons (ps_set (i := 1) scFact.nd rfl (Or.inl rfl) pe_int)
      (pss_cons (ps_for PassesOwn.never rfl (pi_range2 (by rfl) T.rng (pa_cons pe_int (pa_cons (pe_op op_add (pv 0) pe_int) pa_nil))) (pg_name (i := 2) scFact.nd rfl (Or.inl rfl))
        (pss_one (ps_set (i := 1) scFact.nd rfl (Or.inl rfl) (pe_op op_mulL (pv 1) (pv 2)))))
      (pss_one (ps_ret (pv 1)))), ?_⟩
    try dsimp only [cxK]
    refine ⟨_, rfl, _, _, rfl, rfl, _, _, rfl, ⟨by decide, by decide, by omega, by omega⟩, ?_⟩
    have f1 : LwB.fct 1 = 1 := by decide
    refine for_range (fun i σ H1 => H1 = H ∧ ∃ v, σ = [some (.int n), some (.int (LwB.fct (i + 1))), v]) ⟨rfl, _, by rw [f1]; rfl⟩ ?_ ?_
    · rintro i σ H1 hi ⟨rfl, v, rfl⟩
      refine (oVV rfl rfl ⟨abs_up (fct_bd (n := i + 1) (by omega)) (by decide), Nat.lt_of_lt_of_le (show (2 + (i : Int)).natAbs < 2 ^ 10 by omega) (Nat.pow_le_pow_right (by decide) (by decide))⟩ ⟨rfl, some (.int (2 + (i : Int))), ?_⟩)
      show [some (V.int n), some (V.int (LwB.fct (i + 1) * (2 + (i : Int)))), _] = [_, some (V.int (LwB.fct (i + 1) * (((i + 1 : Nat) : Int) + 1))), _]
      rw [show (2 : Int) + (i : Int) = ((i + 1 : Nat) : Int) + 1 by omega]
    · rintro σ H1 ⟨rfl, v, rfl⟩
      refine ⟨_, rfl, ?_⟩
      have : LwB.fct (((n : Int) + 1 - 2).toNat + 1) = LwB.fct n := by
        by_cases z : n = 0
        · subst z; decide
        · rw [show ((n : Int) + 1 - 2).toNat + 1 = n by omega]
      rw [this]
      exact go
end
end Lw

namespace Lw
open PySem PySem.Spec PyProof.Rows L2 LwQ
noncomputable def mvB (st pc : Rat) : Int := st.num * (lvD [st, pc] / (st.den : Int))
noncomputable def mvP (st pc : Rat) : Int := pc.num * (lvD [st, pc] / (pc.den : Int))
noncomputable def mvR (cs : List Rat) (st pc : Rat) : List Int × Int := LwB.mvF (mvB st pc) (mvP st pc) (lvD [st, pc]) ((lvT cs).getLastD 0) (lvT cs).dropLast.reverse
noncomputable def cL (c : Nat → Rat) (n : Nat) : List Rat := (List.range (n + 1)).map c
noncomputable def Sm (c : Nat → Rat) : Prop := (∀ j, 9 ≤ j → c j = 0) ∧ ∀ j, (c j).den ≤ 2 ^ 10 ∧ (c j).num.natAbs < 2 ^ 40
noncomputable def Se (r : Rat) : Prop := r.den ≤ 2 ^ 40 ∧ r.num.natAbs < 2 ^ 90
noncomputable def spMoved (K : PySem.W.Frag) : Sp := fun vs H Q _ => ∃ (p a b : Addr) (c : Nat → Rat) (st pc : Rat), vs = [.ref p, .ref a, .ref b] ∧ SumC H p c ∧ Sm c ∧ SqT K H a [.int st.num, .int st.den] ∧ SqT K H b [.int pc.num, .int pc.den] ∧ Se st ∧ Se pc ∧
  ∀ (t q : Addr) (n : Nat) (H' : Hp), H t = none → H q = none → Same H H' → IsDeg c n → H' t = some (.tup [.ref q, .int (lvD (cL c n) * (mvR (cL c n) st pc).2)]) → H' q = some (.lst ((mvR (cL c n) st pc).1.map V.int)) → Q (.ref t) H'
theorem zip_all {Pz : Int → Prop} {fz : Int → Int → Int} : ∀ {l m : List Int}, (∀ p ∈ l, ∀ q ∈ m, Pz (fz p q)) → ∀ z ∈ List.zipWith fz l m, Pz z
  | [], _, _, z, hz => by simp at hz
  | _ :: _, [], _, z, hz => by simp at hz
  | p :: l, q :: m, h, z, hz => by
    rw [List.zipWith_cons_cons] at hz
    rcases List.mem_cons.mp hz with rfl | hz
    · exact h p (List.mem_cons_self ..) q (List.mem_cons_self ..)
    · exact zip_all (fun p hp q hq => h p (List.mem_cons_of_mem _ hp) q (List.mem_cons_of_mem _ hq)) z hz
theorem mvZ_bd {b s : Int} {row : List Int} {β B : Nat} (hb : b.natAbs < 2 ^ β) (hs : s.natAbs < 2 ^ β) (h : ∀ z ∈ row, z.natAbs < 2 ^ B) : ∀ z ∈ LwB.mvZ b s row, z.natAbs < 2 ^ (β + B + 1) := by
  have h0 : (0 : Int).natAbs < 2 ^ B := Nat.two_pow_pos _
  have h1 : ∀ z ∈ row ++ [0], z.natAbs < 2 ^ B := fun z hz => by
    rcases List.mem_append.mp hz with y | y
    · exact h z y
    · rw [List.mem_singleton.mp y]; exact h0
  have h2 : ∀ z ∈ 0 :: row, z.natAbs < 2 ^ B := fun z hz => by
    rcases List.mem_cons.mp hz with y | y
    · rw [y]; exact h0
    · exact h z y
  exact zip_all (Pz := fun z => z.natAbs < 2 ^ (β + B + 1)) fun p hp q hq => abs_add (abs_mul hb (h1 p hp)) (abs_mul hs (h2 q hq))
theorem bumpI_bd {row : List Int} {y : Int} {B : Nat} (h : ∀ z ∈ row, z.natAbs < 2 ^ B) (hy : y.natAbs < 2 ^ B) : ∀ z ∈ LwB.bumpI row y, z.natAbs < 2 ^ (B + 1) := by
  intro z hz
  have up : (2 : Nat) ^ B ≤ 2 ^ (B + 1) := Nat.pow_le_pow_right (by decide) (by omega)
  cases row with
  | nil => simp [LwB.bumpI] at hz
  | cons a r =>
    rcases List.mem_cons.mp (show z ∈ (a + y) :: r from hz) with rfl | hz
    · exact abs_add (h a (List.mem_cons_self ..)) hy
    · exact Nat.lt_of_lt_of_le (h z (List.mem_cons_of_mem _ hz)) up
theorem mvF_bd {b s u a : Int} {β υ τ : Nat} (hb : b.natAbs < 2 ^ β) (hs : s.natAbs < 2 ^ β) (hu : u.natAbs ≤ 2 ^ υ) (uβ : υ ≤ β) (ha : a.natAbs < 2 ^ τ) : ∀ (n : Nat) (l : List Int), l.length = n → (∀ t ∈ l, t.natAbs < 2 ^ τ) →
    (∀ z ∈ (LwB.mvF b s u a l).1, z.natAbs < 2 ^ (τ + (β + 2) * n)) ∧ (LwB.mvF b s u a l).2.natAbs ≤ 2 ^ (υ * n)
  | 0, l, h, _ => by
    have : l = [] := List.length_eq_zero_iff.mp h
    subst this
    refine ⟨fun z hz => ?_, by show (1 : Int).natAbs ≤ 2 ^ (υ * 0); rw [Nat.mul_zero]; decide⟩
    rw [List.mem_singleton.mp (show z ∈ [a] from hz)]
    exact ha
  | n + 1, l, h, k => by
    have ne : l ≠ [] := by intro z; subst z; cases h
    have ld : l.dropLast.length = n := by simp [h]
    obtain ⟨h1, h2⟩ := mvF_bd hb hs hu uβ ha n l.dropLast ld fun t ht => k t (List.dropLast_subset _ ht)
    rw [← List.dropLast_concat_getLast ne, LwB.mvF_snoc]
    have ht := k _ (List.getLast_mem ne)
    generalize l.getLast ne = t at ht
    have h3 : ((LwB.mvF b s u a l.dropLast).2 * u).natAbs ≤ 2 ^ (υ * (n + 1)) := by
      rw [Int.natAbs_mul, Nat.mul_succ, Nat.pow_add]
      exact Nat.mul_le_mul h2 hu
    have h4 : (t * ((LwB.mvF b s u a l.dropLast).2 * u)).natAbs < 2 ^ (β + (τ + (β + 2) * n) + 1) := by
      have e : υ * (n + 1) ≤ β * (n + 1) := Nat.mul_le_mul_right _ uβ
      have : (t * ((LwB.mvF b s u a l.dropLast).2 * u)).natAbs < 2 ^ (τ + υ * (n + 1)) := by
        rw [Int.natAbs_mul, Nat.pow_add]
        exact Nat.mul_lt_mul_of_lt_of_le ht h3 (Nat.two_pow_pos _)
      refine Nat.lt_of_lt_of_le this (Nat.pow_le_pow_right (by decide) ?_)
      have e2 : β * (n + 1) = β * n + β := Nat.mul_succ ..
      have e3 : (β + 2) * n = β * n + 2 * n := Nat.add_mul ..
      omega
    refine ⟨fun z hz => ?_, h3⟩
    have := bumpI_bd (mvZ_bd hb hs h1) h4 z hz
    have e3 : (β + 2) * (n + 1) = (β + 2) * n + (β + 2) := Nat.mul_succ ..
    rw [e3]
    exact Nat.lt_of_lt_of_le this (Nat.pow_le_pow_right (by decide) (by omega))
theorem comp_zipF {K : PySem.W.Frag} {a b : Addr} {ts us : List V} {σ0 : L2.St} {g : TG} {te : TE} {Q : VK} {p : Addr} {H' : Hp} (Pv : Nat → List V → Hp → Prop) (hle : us.length = ts.length) (hz : us.length < sizeLine) (h0 : Pv 0 [] H')
    (hl : ∀ i ys H2, Pv i ys H2 → SqL K H2 a ts ∧ SqL K H2 b us ∧ H2 p = some (.lst ys))
    (hs : ∀ i m ys x y c H2, ts[i]? = some x → us[i]? = some y → m = us.length - i → ys.length = i → Pv i ys H2 → H2 c = none → g (.ref c) σ0 (upd H2 c (.tup [x, y])) fun σ4 H4 => Keep σ0 σ4 ∧ te σ4 H4 fun y H5 => H5 p = some (.lst ys) ∧ ∃ m', m' < m ∧ CompW us Pv (i + 1) m' (ys ++ [y]) (upd H5 p (.lst (ys ++ [y]))))
    (hd : ∀ ys H2, ys.length = us.length → Pv us.length ys H2 → Q (.ref p) H2) : CompGoF σ0 (ItzL K a b) g te Q p H' := by
  refine ⟨CompW us Pv, ⟨_, rfl, Nat.zero_le _, rfl, h0⟩, ?_⟩
  rintro i m ys H2 ⟨hm, hi, hy, hp⟩
  obtain ⟨q1, q2, e⟩ := hl i ys H2 hp
  refine ⟨e, by omega, ?_⟩
  by_cases hlt : i < us.length
  · have h2 : i < ts.length := by omega
    refine .inr ⟨⟨ts, us, ts[i], us[i], q1, q2, by simp [h2], by simp [hlt]⟩, ?_⟩
    rintro _ _ ⟨c, x, y, hc, rfl, rfl, h1, h2⟩
    exact hs i m ys x y c H2 (h1 _ q1) (h2 _ q2) hm hy hp hc
  · obtain rfl : i = us.length := by omega
    exact .inl ⟨⟨ts, us, q1, q2, .inr (Nat.le_refl _)⟩, hd ys H2 hy hp⟩
theorem deg_sm {c : Nat → Rat} {n : Nat} (h : Sm c) (d : IsDeg c n) : n ≤ 8 := by
  rcases d.2 with z | z
  · omega
  · by_cases y : n < 9
    · omega
    · exact absurd (h.1 n (by omega)) z
theorem Sm.f24 {c : Nat → Rat} (h : Sm c) : F24 c := fun j hj => h.1 j (by omega)
theorem cL_len (c : Nat → Rat) (n : Nat) : (cL c n).length = n + 1 := by simp [cL]
theorem cL_sz {c : Nat → Rat} (h : Sm c) (n : Nat) : ∀ r ∈ cL c n, r.den ≤ 2 ^ 10 ∧ r.num.natAbs < 2 ^ 40 := fun r hr => by
  obtain ⟨j, _, rfl⟩ := List.mem_map.mp hr
  exact h.2 j
theorem lvD_c {c : Nat → Rat} {n : Nat} (h : Sm c) (hn : n ≤ 8) : (lvD (cL c n)).natAbs ≤ 2 ^ 90 := by
  have := lvD_le (e := 10) (rs := cL c n) fun r hr => (cL_sz h n r hr).1
  exact Nat.le_trans this (Nat.pow_le_pow_right (by decide) (by rw [cL_len]; omega))
theorem lvT_c {c : Nat → Rat} {n : Nat} (h : Sm c) (hn : n ≤ 8) : ∀ z ∈ lvT (cL c n), z.natAbs < 2 ^ 130 := lvT_bd (lvD_c h hn) fun r hr => (cL_sz h n r hr).2
theorem lvD_2 {st pc : Rat} (h1 : Se st) (h2 : Se pc) : (lvD [st, pc]).natAbs ≤ 2 ^ 80 := lvD_le (e := 40) (rs := [st, pc]) fun r hr => by
  simp only [List.mem_cons, List.not_mem_nil, or_false] at hr
  rcases hr with rfl | rfl
  · exact h1.1
  · exact h2.1
theorem mv_2 {st pc : Rat} (h1 : Se st) (h2 : Se pc) : (mvB st pc).natAbs < 2 ^ 170 ∧ (mvP st pc).natAbs < 2 ^ 170 := by
  have := lvT_bd (rs := [st, pc]) (m := 90) (lvD_2 h1 h2) fun r hr => by
    simp only [List.mem_cons, List.not_mem_nil, or_false] at hr
    rcases hr with rfl | rfl
    · exact h1.2
    · exact h2.2
  exact ⟨this (mvB st pc) (List.mem_cons_self ..), this (mvP st pc) (List.mem_cons_of_mem _ (List.mem_cons_self ..))⟩
theorem mvR_bd {c : Nat → Rat} {n : Nat} {st pc : Rat} (h : Sm c) (hn : n ≤ 8) (h1 : Se st) (h2 : Se pc) (i : Nat) (hi : i ≤ n) :
    (∀ z ∈ (LwB.mvF (mvB st pc) (mvP st pc) (lvD [st, pc]) ((lvT (cL c n)).getLastD 0) ((lvT (cL c n)).dropLast.reverse.take i)).1, z.natAbs < 2 ^ 1600) ∧ (LwB.mvF (mvB st pc) (mvP st pc) (lvD [st, pc]) ((lvT (cL c n)).getLastD 0) ((lvT (cL c n)).dropLast.reverse.take i)).2.natAbs ≤ 2 ^ 700 := by
  have bt := lvT_c h hn
  have b2 := mv_2 h1 h2
  have ll := lvT_len (cL c n)
  rw [cL_len] at ll
  have ne : lvT (cL c n) ≠ [] := by intro z; rw [z] at ll; simp at ll
  have la : ((lvT (cL c n)).getLastD 0).natAbs < 2 ^ 130 := by
    rw [List.getLastD_eq_getLast?, List.getLast?_eq_some_getLast ne]
    exact bt _ (List.getLast_mem ne)
  have lr : ((lvT (cL c n)).dropLast.reverse.take i).length = i := by
    rw [List.length_take, List.length_reverse, List.length_dropLast, ll]
    omega
  have := mvF_bd b2.1 b2.2 (lvD_2 h1 h2) (by decide) la i _ lr fun t ht => bt t (List.dropLast_subset _ (List.mem_reverse.mp (List.mem_of_mem_take ht)))
  refine ⟨fun z hz => Nat.lt_of_lt_of_le (this.1 z hz) (Nat.pow_le_pow_right (by decide) (by omega)), Nat.le_trans this.2 (Nat.pow_le_pow_right (by decide) (by omega))⟩
theorem gT3 {K : PySem.W.Frag} {H : Hp} {a q : Addr} {x y z : V} {n m : Nat} {σ : L2.St} {Q : L2.St → Hp → Prop} (h : SqT K H a [.ref q, z]) (h' : SqL K H q [x, y]) (hn : 2 = n) (hm : 2 = m) (k : Q (((σ.set 5 (some x)).set 6 (some y)).set 7 (some z)) H) : gTup K n (gCons (gTupL K m (gCons (gName 5) (gCons (gName 6) gNil))) (gCons (gName 7) gNil)) (.ref a) σ H Q := ⟨a, _, rfl, h, hn, _, _, rfl, q, _, rfl, h', hm, _, _, rfl, _, _, rfl, rfl, _, _, rfl, rfl, k⟩
inductive MvI (p a b q2 : Addr) (DD' bb pp uu ta : Int) (tl : List Int) (H H7 : Hp) (i : Nat) (σ : L2.St) (H8 : Hp) : Prop
  | mk (s : Same H7 H8) (rr : Addr) (v : Option V) : H rr = none → H8 rr = some (.lst ((LwB.mvF bb pp uu ta (tl.take i)).1.map V.int)) → σ = [some (.ref p), some (.ref a), some (.ref b), some (.ref q2), some (.int DD'), some (.int bb), some (.int pp), some (.int uu), some (.ref rr), some (.int (LwB.mvF bb pp uu ta (tl.take i)).2), v] → MvI p a b q2 DD' bb pp uu ta tl H H7 i σ H8
section
variable {P : Program} {w : World} {K : PySem.W.Frag} {mg : Str → Option Value} {base : Heap} {f fd : _}
theorem scMoved : FnScope ["one", "start", "pace", "tops", "bottom", "base", "step", "under", "row", "share", "top"] ["one", "start", "pace"] (defScope sMoved) := ⟨rfl, rfl, rfl, by decide +kernel, rfl, by decide +kernel, by decide +kernel⟩
theorem ok_moved {fD fM fG fL fN fE : Addr} {fdD fdM fdG fdL fdN fdE : FuncData} (F : Fun K "moved" "moved" sMoved f fd) (T : Txt mg) (Nn : Ngt K mg) (DL : Df K mg "level" sLevel ["some"] fL fdL) (DN : Df K mg "all_powers" sNumbers ["one"] fN fdN) (DE : Df K mg "degree" sDegree ["one"] fE fdE) (DD : Df K mg "divided" sDiv ["one", "other"] fD fdD) (DM : Df K mg "multiplied" sMul ["one", "other"] fM fdM) (DG : Df K mg "greatest_divisor" sGcd ["one", "other"] fG fdG) : FnOk P w K mg base CX0 5 f fd ["one", "start", "pace"] (spMoved K) := by
  have GL : FnOk P w K mg base CX0 4 fL fdL ["some"] (spLevel K) := ok_level DL.F T DD DM DG
  have GN : FnOk P w K mg base CX0 2 fN fdN ["one"] (spNumbers K) := ok_numbers DN.F T Nn DE
  refine F.ok scMoved (fun vs H Q E h => ?_) (fun cdv A outer s H vs Q E hr h => ?_)
  · obtain ⟨p, a, b, c, st, pc, rfl, _⟩ := h
    rfl
  · obtain ⟨p, a, b, c, st, pc, rfl, hS, sm, ha, hb, e1, e2, go⟩ := h
    have hr2 : Room 2 _ := hr.mono (by decide)
    refine ⟨_, pss_cons (ps_asg (pe_call GL hr rfl DL.m DL.F.kp DL.b .nil pass0 (pa_cons (pe_call GN hr2 rfl DN.m DN.F.kp DN.b .nil pass0 (pa_cons (pv 0) pa_nil)) pa_nil)) (pg_tup rfl (pgs_cons (pg_name (i := 3) scMoved.nd rfl (Or.inl rfl)) (pgs_cons (pg_name (i := 4) scMoved.nd rfl (Or.inl rfl)) pgs_nil))))
      (pss_cons (ps_asg (pe_call GL hr rfl DL.m DL.F.kp DL.b .nil pass0 (pa_cons (pe_lstF (pa_cons (pv 1) (pa_cons (pv 2) pa_nil))) pa_nil)) (pg_tup rfl (pgs_cons (pg_tupL rfl (pgs_cons (pg_name (i := 5) scMoved.nd rfl (Or.inr rfl)) (pgs_cons (pg_name (i := 6) scMoved.nd rfl (Or.inr rfl)) pgs_nil))) (pgs_cons (pg_name (i := 7) scMoved.nd rfl (Or.inl rfl)) pgs_nil))))
      (pss_cons (ps_set (i := 8) scMoved.nd rfl (Or.inl rfl) (pe_lstF (pa_cons (pe_ix ix_list (pv 3) (pe_un un_neg pe_int) (fun _ _ => rfl)) pa_nil)))
      (pss_cons (ps_set (i := 9) scMoved.nd rfl (Or.inl rfl) pe_int)
      (pss_cons (ps_for PassesOwn.never rfl (pi_list (pe_backL (pe_slice sl_listF (pv 3) po_none (po_some (pe_un un_neg pe_int))) (po_some (pe_un un_neg pe_int)))) (pg_name (i := 10) scMoved.nd rfl (Or.inl rfl))
        (pss_cons (ps_set (i := 9) scMoved.nd rfl (Or.inl rfl) (pe_op op_mulL (pv 9) (pv 7)))
        (pss_cons (ps_setComp (i := 8) scMoved.nd rfl (Or.inl rfl) (own := 2) (idx := [5, 6]) (N := ["same", "lower", "base", "step"]) rfl rfl rfl (by decide +kernel) (by decide +kernel) (fun _ _ h => h) (has_of rfl) rfl (two_idx rfl rfl ⟨rfl, rfl, rfl, rfl⟩ ⟨rfl, rfl, rfl, rfl⟩)
          (pi_zipL (by rfl) T.zip (pa_cons (pe_op op_catF (pv 8) (pe_lstF (pa_cons pe_int pa_nil))) (pa_cons (pe_op op_catF (pe_lstF (pa_cons pe_int pa_nil)) (pv 8)) pa_nil)))
          (fun C fp s2 H2 => show PG (cxCompF _ ["same", "lower", "base", "step"] _ _ C fp s2 H2) _ (gTup K 2 (gCons (gName 0) (gCons (gName 1) gNil))) from pg_tup (X := cxCompF _ ["same", "lower", "base", "step"] _ _ C fp s2 H2) rfl (pgs_cons (pg_name (i := 0) (show List.Nodup (["same", "lower", "base", "step"] : List Str) by decide +kernel) rfl (Or.inl rfl) (Or.inr rfl)) (pgs_cons (pg_name (i := 1) (show List.Nodup (["same", "lower", "base", "step"] : List Str) by decide +kernel) rfl (Or.inl rfl) (Or.inr rfl)) pgs_nil)))
          (fun C fp s2 H2 => pe_op op_add (pe_op op_mulL (pv 2) (pv 0)) (pe_op op_mulL (pv 3) (pv 1))))
        (pss_one (ps_augS (pv 8) pe_int get_list (pe_op op_mulL (pv 10) (pv 9)) ip_add set_list)))))
      (pss_one (ps_ret (pe_tupF (pa_cons (pv 8) (pa_cons (pe_op op_mulL (pv 4) (pv 9)) pa_nil))))))))), ?_⟩
    try dsimp only [cxK]
    refine ⟨_, rfl, p, c, rfl, hS, sm.f24, fun l1 n xs1 H1 n1 s1 dg e1' hN => ?_⟩
    have n8 := deg_sm sm dg
    have sz := cL_sz sm n
    refine ⟨l1, xs1, cL c n, rfl, SqL.of e1', fun H' s' => SqL.of (s' _ _ e1'), hN.q, by rw [cL_len]; omega, fun r hr => ⟨Nat.le_trans (sz r hr).1 (Nat.pow_le_pow_right (by decide) (by decide)), Nat.lt_of_lt_of_le (sz r hr).2 (Nat.pow_le_pow_right (by decide) (by decide))⟩, fun t2 q2 H2 n2 m2 s2 et2 eq2 => ?_⟩
    refine (gT2 (SqT.of et2) rfl ?_)
    refine ⟨_, rfl, _, rfl, (by show 2 ≤ sizeLine; decide), fun l3 H3 n3 s3 e3 => ?_⟩
    have s13 := (s1.trans s2).trans s3
    have up2 : ∀ r ∈ [st, pc], r.den ≤ 2 ^ 100 ∧ r.num.natAbs < 2 ^ 400 := fun r hr => by
      have : Se r := by
        simp only [List.mem_cons, List.not_mem_nil, or_false] at hr
        rcases hr with rfl | rfl
        · exact e1
        · exact e2
      exact ⟨Nat.le_trans this.1 (Nat.pow_le_pow_right (by decide) (by decide)), Nat.lt_of_lt_of_le this.2 (Nat.pow_le_pow_right (by decide) (by decide))⟩
    refine ⟨l3, _, [st, pc], rfl, SqL.of e3, fun H' s' => SqL.of (s' _ _ e3), .cons ⟨a, rfl, sqT_same s13 ha⟩ (.cons ⟨b, rfl, sqT_same s13 hb⟩ .nil), (by show 2 ≤ 24; decide), up2, fun t4 q4 H4 n4 m4 s4 et4 eq4 => ?_⟩
    rw [show (lvT [st, pc]).map V.int = [.int (mvB st pc), .int (mvP st pc)] from rfl] at eq4
    refine gT3 (SqT.of et4) (SqL.of eq4) rfl rfl ?_
    have s34 := s3.trans s4
    have s14 := (s1.trans s2).trans s34
    have ll := lvT_len (cL c n)
    rw [cL_len] at ll
    have ne : lvT (cL c n) ≠ [] := by intro z; rw [z] at ll; simp at ll
    have hlast : ((lvT (cL c n)).map V.int)[n]? = some (.int ((lvT (cL c n)).getLastD 0)) := by
      rw [List.getElem?_map, List.getLastD_eq_getLast?, List.getLast?_eq_getElem?, ll]
      show Option.map V.int (lvT (cL c n))[n]? = some (V.int ((lvT (cL c n))[n + 1 - 1]?.getD 0))
      rw [Nat.add_sub_cancel, List.getElem?_eq_getElem (by omega)]
      rfl
    have eq2' := s34 _ _ eq2
    refine ⟨_, rfl, _, rfl, q2, _, _, _, rfl, rfl, SqL.of eq2', at_last (by rw [List.length_map, ll]) hlast, (by show 1 ≤ sizeLine; decide), fun r5 H5 n5 s5 e5 => ?_⟩
    have s15 := s14.trans s5
    refine ⟨_, rfl, _, rfl, _, rfl, q2, _, rfl, SqL.of (s5 _ _ eq2'), fun l6 H6 n6 s6 e6 => ?_⟩
    rw [cut_last _ ne] at e6
    refine ⟨_, rfl, _, rfl, rfl, l6, _, rfl, SqL.of e6, fun l7 H7 n7 s7 e7 => ?_⟩
    rw [← List.map_reverse] at e7
    have s57 := s6.trans s7
    have s17 := s15.trans s57
    have bnd := mvR_bd sm n8 e1 e2
    have hB := mv_2 e1 e2
    have hU := lvD_2 e1 e2
    have ld : (lvT (cL c n)).dropLast.reverse.length = n := by rw [List.length_reverse, List.length_dropLast, ll]; rfl
    have btl : ∀ t ∈ (lvT (cL c n)).dropLast.reverse, t.natAbs < 2 ^ 130 := fun t ht => lvT_c sm n8 t (List.dropLast_subset _ (List.mem_reverse.mp ht))
    have mvRe : mvR (cL c n) st pc = LwB.mvF (mvB st pc) (mvP st pc) (lvD [st, pc]) ((lvT (cL c n)).getLastD 0) (lvT (cL c n)).dropLast.reverse := rfl
    have hD : (lvD (cL c n)).natAbs < 2 ^ 91 := Nat.lt_of_le_of_lt (lvD_c sm n8) (by decide)
    have g7 : H4 r5 = none := n5
    generalize hl : (lvT (cL c n)).dropLast.reverse = tl at *
    generalize (lvT (cL c n)).getLastD 0 = ta at *
    generalize mvB st pc = bb at *
    generalize mvP st pc = pp at *
    generalize hu : lvD [st, pc] = uu at *
    generalize hDD : lvD (cL c n) = DD' at *
    refine ⟨l7, rfl, ⟨_, SqL.of e7⟩, for_list (K := K) (a := l7) (xs := tl.map V.int) (MvI p a b q2 DD' bb pp uu ta tl H H7) ⟨Same.refl _, r5, none, s14.free g7, s57 _ _ e5, rfl⟩ (fun i σ H1 _ h => by obtain ⟨s, _⟩ := h; exact SqL.of (s _ _ e7)) ?_ ?_⟩
    · rintro i x σ H8 hx ⟨s8, rr, v, nrr, er, rfl⟩
      have hi : i < tl.length := by
        have := (List.getElem?_eq_some_iff.mp hx).1
        rwa [List.length_map] at this
      obtain ⟨t, ht, rfl⟩ : ∃ t, tl[i]? = some t ∧ x = .int t := by
        rw [List.getElem?_map, List.getElem?_eq_getElem hi] at hx
        exact ⟨tl[i], List.getElem?_eq_getElem hi, (Option.some.inj hx).symm⟩
      have tk : tl.take (i + 1) = tl.take i ++ [t] := by rw [List.take_succ, ht]; rfl
      have bi := bnd i (by omega)
      have bt := btl t (List.mem_of_getElem? ht)
      have lrow := LwB.mvF_len bb pp uu ta i (tl.take i) (by rw [List.length_take]; omega)
      have stp : LwB.mvF bb pp uu ta (tl.take (i + 1)) = LwB.mvS bb pp uu (LwB.mvF bb pp uu ta (tl.take i)) t := by rw [tk, LwB.mvF_snoc]
      generalize hrow : LwB.mvF bb pp uu ta (tl.take i) = st0 at *
      obtain ⟨row, shr⟩ := st0
      dsimp only at *
      refine oVV rfl rfl ⟨Nat.lt_of_le_of_lt bi.2 (Nat.pow_lt_pow_right (by decide) (by decide)), Nat.lt_of_le_of_lt hU (Nat.pow_lt_pow_right (by decide) (by decide))⟩ ?_
      refine ⟨_, rfl, (by show 1 ≤ sizeLine; decide), fun z1 H9 n9 s9 e9 => ?_⟩
      refine ⟨rr, z1, row.map V.int, [.int 0], rfl, rfl, s9 _ _ er, e9, ?_, fun c1 H10 n10 s10 e10 => ?_⟩
      · have : (row.map V.int).length + [V.int 0].length ≤ 24 := by
          rw [List.length_map, lrow]
          show i + 1 + 1 ≤ 24
          omega
        exact Nat.le_trans this (by decide)
      refine ⟨(by show 1 ≤ sizeLine; decide), fun z2 H11 n11 s11 e11 => ⟨_, rfl, z2, rr, [.int 0], row.map V.int, rfl, rfl, e11, (s9.trans (s10.trans s11)) _ _ er, ?_, fun c2 H12 n12 s12 e12 => ?_⟩⟩
      · have : [V.int 0].length + (row.map V.int).length ≤ 24 := by
          rw [List.length_map, lrow]
          show 1 + (i + 1) ≤ 24
          omega
        exact Nat.le_trans this (by decide)
      have s812 := s9.trans (s10.trans (s11.trans s12))
      have e10' := (s11.trans s12) _ _ e10
      rw [show row.map V.int ++ [V.int 0] = (row ++ [0]).map V.int by rw [List.map_append]; rfl] at e10'
      rw [show [V.int 0] ++ row.map V.int = (0 :: row).map V.int from rfl] at e12
      refine ⟨c1, c2, rfl, ⟨_, SqL.of e10'⟩, ⟨_, SqL.of e12⟩, fun rn H13 n13 s13 e13 => ?_⟩
      have lz := LwB.mvZ_len bb pp row
      have nn : Same H7 H12 := s8.trans s812
      have l24 : ((0 :: row).map V.int).length ≤ 24 := by
        rw [List.length_map, List.length_cons, lrow]
        omega
      refine comp_zipF (K := K) (a := c1) (b := c2) (ts := (row ++ [0]).map V.int) (us := (0 :: row).map V.int) (CmI (fun k => ((LwB.mvZ bb pp row).take k).map V.int) rn H12) (by simp) (Nat.lt_of_le_of_lt l24 (by decide)) ⟨s13, e13, rfl⟩ (fun k ys H14 h => ⟨SqL.of (h.1 _ _ e10'), SqL.of (h.1 _ _ e12), h.2⟩) ?_ ?_
      · rintro k m ys x y z H14 hx hy hm hl' ⟨s14', e14, rfl⟩ nz
        have hk : k < row.length + 1 := by
          have := (List.getElem?_eq_some_iff.mp hy).1
          rwa [List.length_map, List.length_cons] at this
        obtain ⟨x', hx', rfl⟩ : ∃ x', (row ++ [0])[k]? = some x' ∧ x = .int x' := by
          rw [List.getElem?_map] at hx
          obtain ⟨x', h1, h2⟩ := Option.map_eq_some_iff.mp hx
          exact ⟨x', h1, h2.symm⟩
        obtain ⟨y', hy', rfl⟩ : ∃ y', (0 :: row)[k]? = some y' ∧ y = .int y' := by
          rw [List.getElem?_map] at hy
          obtain ⟨y', h1, h2⟩ := Option.map_eq_some_iff.mp hy
          exact ⟨y', h1, h2.symm⟩
        have bx : x'.natAbs < 2 ^ 1600 := by
          rcases List.mem_append.mp (List.mem_of_getElem? hx') with q | q
          · exact bi.1 x' q
          · rw [List.mem_singleton.mp q]; exact Nat.two_pow_pos _
        have by' : y'.natAbs < 2 ^ 1600 := by
          rcases List.mem_cons.mp (List.mem_of_getElem? hy') with q | q
          · rw [q]; exact Nat.two_pow_pos _
          · exact bi.1 y' q
        have sz' : Same H14 (upd H14 z (.tup [.int x', .int y'])) := same_upd _ nz
        have ez : (upd H14 z (.tup [.int x', .int y'])) z = some (.tup [.int x', .int y']) := upd_same
        generalize upd H14 z (.tup [.int x', .int y']) = H15 at sz' ez
        refine (gT2 (SqT.of ez) rfl ⟨keep2, ?_⟩)
        refine ⟨_, rfl, _, rfl, _, _, rfl, rfl, ⟨abs_up hB.1 (by decide), abs_up bx (by decide)⟩, _, rfl, _, rfl, _, _, rfl, rfl, ⟨abs_up hB.2 (by decide), abs_up by' (by decide)⟩, _, _, rfl, rfl, ?_⟩
        refine comp_next (x := .int y') (by rw [List.getElem?_map, hy']; rfl) hm hl' (sz' _ _ e14) ⟨put_same (s14'.trans sz') n13, upd_same, ?_⟩
        have : (LwB.mvZ bb pp row)[k]? = some (bb * x' + pp * y') := by
          unfold LwB.mvZ
          rw [List.getElem?_zipWith, hx', hy']
        rw [List.take_succ, this, List.map_append]
        rfl
      · rintro ys H14 hl' ⟨s14', e14, rfl⟩
        have tka : (LwB.mvZ bb pp row).take ((0 :: row).map V.int).length = LwB.mvZ bb pp row := List.take_of_length_le (by rw [lz, List.length_map, List.length_cons]; exact Nat.le_refl _)
        rw [tka] at e14
        have g0 : ∃ g0, (LwB.mvZ bb pp row)[0]? = some g0 := ⟨_, List.getElem?_eq_getElem (by rw [lz]; omega)⟩
        obtain ⟨g0, hg0⟩ := g0
        have hat : atI ((LwB.mvZ bb pp row).map V.int) 0 = some (.int g0) := at_nat (i := 0) rfl (by rw [List.getElem?_map, hg0]; rfl)
        have bs2 : (shr * uu).natAbs < 2 ^ 800 := by
          have : (shr * uu).natAbs ≤ 2 ^ (700 + 80) := by
            rw [Int.natAbs_mul, Nat.pow_add]
            exact Nat.mul_le_mul bi.2 hU
          exact Nat.lt_of_le_of_lt this (Nat.pow_lt_pow_right (by decide) (by decide))
        refine ⟨_, rfl, rn, _, _, _, rfl, rfl, SqL.of e14, hat, _, rfl, _, rfl, _, _, rfl, rfl, ⟨abs_up bt (by decide), abs_up bs2 (by decide)⟩, _, _, rfl, rfl, rn, _, _, 0, rfl, rfl, e14, ix_nat (i := 0) rfl (by rw [List.length_map, lz]; omega), ?_⟩
        have n7 : H7 rn = none := nn.free n13
        refine ⟨put_same (nn.trans s14') n7, rn, some (.int t), s17.free n7, ?_, ?_⟩
        · rw [upd_same, stp]
          show some (HO.lst (((LwB.mvZ bb pp row).map V.int).set 0 (.int (g0 + t * (shr * uu))))) = some (HO.lst ((LwB.bumpI (LwB.mvZ bb pp row) (t * (shr * uu))).map V.int))
          unfold LwB.bumpI
          rw [List.map_set, List.getD_eq_getElem?_getD, hg0]
          rfl
        · rw [stp]
          rfl
    · rintro σ H8 ⟨s8, rr, v, nrr, er, rfl⟩
      have tka : tl.take (tl.map V.int).length = tl := by rw [List.length_map, List.take_length]
      rw [tka] at er
      have bi := bnd n (Nat.le_refl _)
      rw [show tl.take n = tl from List.take_of_length_le (by omega)] at bi
      refine ⟨_, rfl, _, rfl, _, rfl, _, _, rfl, rfl, ⟨abs_up hD (by decide), ?_⟩, (by show 2 ≤ sizeLine; decide), fun tt H9 n9 s9 e9 => ?_⟩
      · rw [tka]
        exact Nat.lt_of_le_of_lt bi.2 (Nat.pow_lt_pow_right (by decide) (by decide))
      rw [tka] at e9
      refine go tt rr n H9 ((s17.trans s8).free n9) nrr ((s17.trans s8).trans s9) dg ?_ ?_
      · rw [mvRe, hDD]; exact e9
      · rw [mvRe]; exact s9 _ _ er
end
end Lw

namespace Lw
open PySem PySem.Spec PyProof.Rows L2 LwQ
noncomputable def spR (ns : List Int) : Nat → Int := fun j => ns.getD j 0 * LwB.fct j * LwB.fct (ns.length - 1 - j)
noncomputable def spRow (ns : List Int) : List Int := (List.range ns.length).map (LwB.bb (spR ns))
theorem bb_bd {B : Nat} : ∀ (j : Nat) {r : Nat → Int}, (∀ i, (r i).natAbs < 2 ^ B) → (LwB.bb r j).natAbs < 2 ^ (B + j)
  | 0, r, h => h 0
  | j + 1, r, h => by
    show (LwB.bb r j + LwB.bb (fun i => r (i + 1)) j).natAbs < 2 ^ (B + j + 1)
    exact abs_add (bb_bd j h) (bb_bd j fun i => h (i + 1))
theorem spR_bd {ns : List Int} (l : ns.length ≤ 24) (h : ∀ z ∈ ns, z.natAbs < 2 ^ 1600) (i : Nat) : (spR ns i).natAbs < 2 ^ 1842 := by
  unfold spR
  by_cases hi : i < ns.length
  · have e : ns.getD i 0 = ns[i] := by rw [List.getD_eq_getElem?_getD, List.getElem?_eq_getElem hi]; rfl
    rw [e]
    exact abs_mul (abs_mul (h _ (List.getElem_mem hi)) (fct_bd (by omega))) (fct_bd (by omega))
  · have e : ns.getD i 0 = 0 := by rw [List.getD_eq_getElem?_getD, List.getElem?_eq_none (by omega)]; rfl
    rw [e, Int.zero_mul, Int.zero_mul]
    exact Nat.two_pow_pos _
theorem spRow_bd {ns : List Int} (l : ns.length ≤ 24) (h : ∀ z ∈ ns, z.natAbs < 2 ^ 1600) : ∀ z ∈ spRow ns, z.natAbs < 2 ^ 1900 := fun z hz => by
  obtain ⟨j, hj, rfl⟩ := List.mem_map.mp hz
  have := List.mem_range.mp hj
  exact Nat.lt_of_lt_of_le (bb_bd j (spR_bd l h)) (Nat.pow_le_pow_right (by decide) (by omega))
theorem mapI_set {g g' : Nat → Int} {N i : Nat} (hi : i < N) (k : ∀ j, j < N → j ≠ i → g' j = g j) : ((List.range N).map fun j => V.int (g j)).set i (.int (g' i)) = (List.range N).map fun j => V.int (g' j) := by
  apply List.ext_getElem
  · simp
  · intro j h1 h2
    simp at h1
    rw [List.getElem_set]
    by_cases e : i = j
    · subst e; simp
    · rw [if_neg e]; simp [k j h1 (Ne.symm e)]
theorem comp_enumF {K : PySem.W.Frag} {a : Addr} {xs : List V} {σ0 : L2.St} {g : TG} {te : TE} {Q : VK} {p : Addr} {H' : Hp} (Pv : Nat → List V → Hp → Prop) (hz : xs.length < sizeLine) (h0 : Pv 0 [] H')
    (hl : ∀ i ys H2, Pv i ys H2 → SqL K H2 a xs ∧ H2 p = some (.lst ys))
    (hs : ∀ i m ys x c H2, xs[i]? = some x → m = xs.length - i → ys.length = i → Pv i ys H2 → H2 c = none → g (.ref c) σ0 (upd H2 c (.tup [.int i, x])) fun σ4 H4 => Keep σ0 σ4 ∧ te σ4 H4 fun y H5 => H5 p = some (.lst ys) ∧ ∃ m', m' < m ∧ CompW xs Pv (i + 1) m' (ys ++ [y]) (upd H5 p (.lst (ys ++ [y]))))
    (hd : ∀ ys H2, ys.length = xs.length → Pv xs.length ys H2 → Q (.ref p) H2) : CompGoF σ0 (Itel K a) g te Q p H' := by
  refine ⟨CompW xs Pv, ⟨_, rfl, Nat.zero_le _, rfl, h0⟩, ?_⟩
  rintro i m ys H2 ⟨hm, hi, hy, hp⟩
  obtain ⟨q1, e⟩ := hl i ys H2 hp
  refine ⟨e, by omega, ?_⟩
  by_cases hlt : i < xs.length
  · refine .inr ⟨⟨xs, xs[i], q1, by simp [hlt]⟩, ?_⟩
    rintro _ _ ⟨c, x, hc, rfl, rfl, h1⟩
    exact hs i m ys x c H2 (h1 _ q1) hm hy hp hc
  · obtain rfl : i = xs.length := by omega
    exact .inl ⟨⟨xs, q1, Nat.le_refl _⟩, hd ys H2 hy hp⟩
noncomputable def spSpread (K : PySem.W.Frag) : Sp := fun vs H Q _ => ∃ (l : Addr) (ns : List Int), vs = [.ref l] ∧ H l = some (.lst (ns.map V.int)) ∧ 0 < ns.length ∧ ns.length ≤ 24 ∧ (∀ z ∈ ns, z.natAbs < 2 ^ 1600) ∧
  ∀ (q : Addr) (H' : Hp), H q = none → Same H H' → H' q = some (.lst ((spRow ns).map V.int)) → Q (.ref q) H'
structure SpA (l q : Addr) (m : Nat) (ns : List Int) (H : Hp) (T : Nat) (σ : L2.St) (H3 : Hp) : Prop where
  s : Same H H3
  e : H3 q = some (.lst ((List.range (m + 1)).map fun j => V.int (LwB.sprF (spR ns) T j)))
  v : ∃ v3 v4, σ = [some (.ref l), some (.int m), some (.ref q), v3, v4]
structure SpB (l q : Addr) (m : Nat) (ns : List Int) (H : Hp) (T i : Nat) (σ : L2.St) (H5 : Hp) : Prop where
  s : Same H H5
  e : H5 q = some (.lst ((List.range (m + 1)).map fun j => V.int (if m < j + i then LwB.sprF (spR ns) (T + 1) j else LwB.sprF (spR ns) T j)))
  v : ∃ v4, σ = [some (.ref l), some (.int m), some (.ref q), some (.int (0 + (T : Int))), v4]
section
variable {P : Program} {w : World} {K : PySem.W.Frag} {mg : Str → Option Value} {base : Heap} {f fd : _}
theorem scSpread : FnScope ["tops", "most", "row", "turn", "at"] ["tops"] (defScope sSpread) := ⟨rfl, rfl, rfl, by decide +kernel, rfl, by decide +kernel, by decide +kernel⟩
theorem ok_spread {fF : Addr} {fdF : FuncData} (F : Fun K "spread" "spread" sSpread f fd) (T : Txt mg) (DF : Df K mg "factorial" sFact ["many"] fF fdF) : FnOk P w K mg base CX0 2 f fd ["tops"] (spSpread K) := by
  have GF : FnOk P w K mg base CX0 1 fF fdF ["many"] spFact := ok_fact DF.F T
  refine F.ok scSpread (fun vs H Q E h => ?_) (fun cdv A outer s H vs Q E hr h => ?_)
  · obtain ⟨l, ns, rfl, _⟩ := h
    rfl
  · obtain ⟨l, ns, rfl, hl, l0, l24, bd, go⟩ := h
    refine ⟨_, pss_cons (ps_set (i := 1) scSpread.nd rfl (Or.inr rfl) (pe_op op_sub (pe_callB call_len_seq (by rfl) T.len PySem.boot_len (pa_cons (pv 0) pa_nil)) pe_int))
      (pss_cons (ps_setComp (i := 2) scSpread.nd rfl (Or.inl rfl) (own := 2) (idx := [1]) (N := ["power", "top", "most"]) rfl rfl rfl (by decide +kernel) (by decide +kernel) (fun _ _ h => h) (has_of rfl) rfl (one_idx rfl ⟨rfl, rfl, rfl, rfl⟩)
        (pi_enumL (by rfl) T.enum (pa_cons (pv 0) pa_nil))
        (fun C fp s2 H2 => show PG (cxCompF _ ["power", "top", "most"] _ _ C fp s2 H2) _ (gTup K 2 (gCons (gName 0) (gCons (gName 1) gNil))) from pg_tup (X := cxCompF _ ["power", "top", "most"] _ _ C fp s2 H2) rfl (pgs_cons (pg_name (i := 0) (show List.Nodup (["power", "top", "most"] : List Str) by decide +kernel) rfl (Or.inl rfl) (Or.inr rfl)) (pgs_cons (pg_name (i := 1) (show List.Nodup (["power", "top", "most"] : List Str) by decide +kernel) rfl (Or.inl rfl) (Or.inr rfl)) pgs_nil)))
        (fun C fp s2 H2 => pe_op op_mulL (pe_op op_mulL (pv 1) (pe_call GF hr rfl DF.m DF.F.kp DF.b .nil pass0 (pa_cons (pv 0) pa_nil))) (pe_call GF hr rfl DF.m DF.F.kp DF.b .nil pass0 (pa_cons (pe_op op_sub (pv 2) (pv 0)) pa_nil))))
      (pss_cons (ps_for PassesOwn.never rfl (pi_range1 (by rfl) T.rng (pa_cons (pv 1) pa_nil)) (pg_name (i := 3) scSpread.nd rfl (Or.inl rfl))
        (pss_one (ps_for PassesOwn.never rfl (pi_rev2 (by rfl) T.rev (pa_cons (pe_callTy call_range2 (by rfl) T.rng boot_range (pa_cons (pe_op op_add (pv 3) pe_int) (pa_cons (pe_op op_add (pv 1) pe_int) pa_nil))) pa_nil)) (pg_name (i := 4) scSpread.nd rfl (Or.inl rfl))
          (pss_one (ps_augS (pv 2) (pv 4) get_list (pe_ix ix_list (pv 2) (pe_op op_sub (pv 4) pe_int) (fun _ _ => rfl)) ip_add set_list)))))
      (pss_one (ps_ret (pv 2))))), ?_⟩
    try dsimp only [cxK]
    have lm : ((ns.map V.int).length : Int) - 1 = ((ns.length - 1 : Nat) : Int) := by rw [List.length_map]; omega
    refine ⟨_, rfl, l, _, rfl, .inl (SqL.of hl), _, _, rfl, rfl, ?_⟩
    show gName 1 (.int (((ns.map V.int).length : Int) - 1)) _ H _
    rw [lm]
    generalize hm : ns.length - 1 = m at *
    refine ⟨_, rfl, l, rfl, ⟨_, SqL.of hl⟩, fun q H1 n1 s1 e1 => ?_⟩
    refine comp_enumF (K := K) (a := l) (xs := ns.map V.int) (CmI (fun i => (List.range i).map fun j => V.int (spR ns j)) q H) (Nat.lt_of_le_of_lt (show (ns.map V.int).length ≤ 24 by rw [List.length_map]; exact l24) (by decide)) ⟨s1, e1, rfl⟩ (fun i ys H2 h => ⟨SqL.of (h.1 _ _ hl), h.2⟩) ?_ ?_
    · rintro i k ys x z H2 hx hm' hy ⟨s2, e2, rfl⟩ nz
      have hi : i < ns.length := by
        have := (List.getElem?_eq_some_iff.mp hx).1
        rwa [List.length_map] at this
      obtain ⟨t, ht, rfl⟩ : ∃ t, ns[i]? = some t ∧ x = .int t := by
        rw [List.getElem?_map] at hx
        obtain ⟨x', h1, h2⟩ := Option.map_eq_some_iff.mp hx
        exact ⟨x', h1, h2.symm⟩
      have bt := bd t (List.mem_of_getElem? ht)
      have sz' : Same H2 (upd H2 z (.tup [.int i, .int t])) := same_upd _ nz
      have ez : (upd H2 z (.tup [.int i, .int t])) z = some (.tup [.int i, .int t]) := upd_same
      generalize upd H2 z (.tup [.int i, .int t]) = H3 at sz' ez
      refine (gT2 (SqT.of ez) rfl ⟨keep2, ?_⟩)
      refine ⟨_, rfl, _, rfl, i, rfl, by omega, _, _, rfl, rfl, ⟨abs_up bt (by decide), abs_up (fct_bd (by omega)) (by decide)⟩, _, rfl, _, rfl, _, _, rfl, rfl, m - i, ?_, by omega, _, _, rfl, rfl, ⟨abs_up (abs_mul bt (fct_bd (n := i) (by omega))) (by decide), abs_up (fct_bd (by omega)) (by decide)⟩, ?_⟩
      · show [V.int ((m : Int) - (i : Int))] = [V.int ((m - i : Nat) : Int)]
        rw [show (m : Int) - (i : Int) = ((m - i : Nat) : Int) by omega]
      refine comp_next hx hm' hy (sz' _ _ e2) ⟨put_same (s2.trans sz') n1, upd_same, ?_⟩
      rw [List.range_succ, List.map_append]
      have : spR ns i = t * LwB.fct i * LwB.fct (m - i) := by
        unfold spR
        rw [hm, List.getD_eq_getElem?_getD, ht]
        rfl
      rw [List.map_cons, this]
      rfl
    · rintro ys H2 hy ⟨s2, e2, rfl⟩
      rw [List.length_map] at e2
      have hml : ns.length = m + 1 := by omega
      rw [hml] at e2
      clear hm lm
      refine ⟨_, rfl, _, rfl, by omega, by omega, ?_⟩
      rw [Int.toNat_natCast]
      refine for_range (SpA l q m ns H) ⟨s2, ?_, _, _, rfl⟩ ?_ ?_
      · rw [e2]
        congr 3
        funext j
        rw [LwB.sprF_zero]
      · rintro T σ H3 hT ⟨s3, e3, v3, v4, rfl⟩
        refine ⟨_, rfl, _, _, rfl, rfl, _, rfl, _, _, rfl, rfl, _, _, rfl, fun rg nrg => ?_⟩
        have s4 : Same H3 (upd H3 rg (.rng (0 + (T : Int) + 1) ((m : Int) + 1))) := same_upd _ nrg
        have er : (upd H3 rg (.rng (0 + (T : Int) + 1) ((m : Int) + 1))) rg = some (.rng (0 + (T : Int) + 1) ((m : Int) + 1)) := upd_same
        generalize upd H3 rg (.rng (0 + (T : Int) + 1) ((m : Int) + 1)) = H4 at s4 er
        refine ⟨rg, T + 1, m - T, rfl, ?_, by omega, by omega, ?_⟩
        · rw [er, show (0 : Int) + (T : Int) + 1 = ((T + 1 : Nat) : Int) by omega, show (m : Int) + 1 = ((T + 1 : Nat) : Int) + ((m - T : Nat) : Int) by omega]
        refine for_down2 (SpB l q m ns H T) ⟨s3.trans s4, ?_, _, rfl⟩ ?_ ?_
        · rw [s4 _ _ e3]
          congr 2
          refine List.map_congr_left fun j hj => ?_
          have := List.mem_range.mp hj
          rw [if_neg (by omega)]
        · rintro i σ H5 hi ⟨s5, e5, v4, rfl⟩
          have ea : ((T + 1 : Nat) : Int) + (((m - T : Nat) : Int) - 1 - i) = ((m - i : Nat) : Int) := by omega
          rw [ea]
          obtain ⟨k, hk⟩ : ∃ k, m - i = k + 1 := ⟨m - i - 1, by omega⟩
          rw [hk]
          have g1 : ((List.range (m + 1)).map fun j => V.int (if m < j + i then LwB.sprF (spR ns) (T + 1) j else LwB.sprF (spR ns) T j))[k + 1]? = some (.int (LwB.sprF (spR ns) T (k + 1))) := by
            rw [List.getElem?_map, List.getElem?_range (by omega)]
            show some (V.int (if m < k + 1 + i then _ else _)) = _
            rw [if_neg (by omega)]
          have g2 : ((List.range (m + 1)).map fun j => V.int (if m < j + i then LwB.sprF (spR ns) (T + 1) j else LwB.sprF (spR ns) T j))[k]? = some (.int (LwB.sprF (spR ns) T k)) := by
            rw [List.getElem?_map, List.getElem?_range (by omega)]
            show some (V.int (if m < k + i then _ else _)) = _
            rw [if_neg (by omega)]
          refine ⟨_, rfl, _, rfl, q, _, _, _, rfl, rfl, SqL.of e5, at_nat rfl g1, _, rfl, _, rfl, _, _, rfl, rfl, q, _, _, _, rfl, rfl, SqL.of e5, at_nat (i := k) (by omega) g2, _, _, rfl, rfl, q, _, _, k + 1, rfl, rfl, e5, ix_nat (i := k + 1) rfl (by rw [List.length_map, List.length_range]; omega), ?_⟩
          refine ⟨put_same s5 (by exact n1), ?_, _, rfl⟩
          rw [upd_same]
          have := mapI_set (g := fun j => if m < j + i then LwB.sprF (spR ns) (T + 1) j else LwB.sprF (spR ns) T j) (g' := fun j => if m < j + (i + 1) then LwB.sprF (spR ns) (T + 1) j else LwB.sprF (spR ns) T j) (N := m + 1) (i := k + 1) (by omega) fun j hj hne => by
            by_cases z : m < j + i
            · rw [if_pos z, if_pos (by omega)]
            · rw [if_neg z, if_neg (by omega)]
          rw [← this]
          dsimp only
          rw [if_pos (by omega), LwB.sprF_up _ (by omega)]
        · rintro σ H5 ⟨s5, e5, v4, rfl⟩
          refine ⟨s5, ?_, _, _, rfl⟩
          rw [e5]
          congr 2
          refine List.map_congr_left fun j hj => ?_
          by_cases z : m < j + (m - T)
          · rw [if_pos z]
          · rw [if_neg z, LwB.sprF_low _ (by omega)]
      · rintro σ H3 ⟨s3, e3, v3, v4, rfl⟩
        refine ⟨_, rfl, go q H3 n1 s3 ?_⟩
        rw [e3]
        unfold spRow
        rw [hml, List.map_map]
        congr 2
        refine List.map_congr_left fun j hj => ?_
        have := List.mem_range.mp hj
        rw [LwB.sprF_all _ (by omega)]
        rfl
end
end Lw

namespace Lw
open PySem PySem.Spec PyProof.Rows L2 LwQ
noncomputable def One1 (K : PySem.W.Frag) (mg : Str → Option Value) : Prop := ∃ a, mg "ONE" = some (.ref a) ∧ ∀ H, SqT K H a [.int 1, .int 1]
noncomputable def EndV (K : PySem.W.Frag) (H : Hp) (x : V) : Option Rat → Prop
  | none => x = .non
  | some r => NumQ K H x r
noncomputable def NumT (H : Hp) (x : V) (r : Rat) : Prop := ∃ a, x = .ref a ∧ At2 H a r.num r.den
theorem NumT.same {H H' : Hp} {x : V} {r : Rat} (h : NumT H x r) (s : Same H H') : NumT H' x r := let ⟨a, e, q⟩ := h; ⟨a, e, s _ _ q⟩
theorem NumT.upd {H : Hp} {x : V} {r : Rat} {l : Addr} {ys : List V} {o : HO} (h : NumT H x r) (e : H l = some (.lst ys)) : NumT (upd H l o) x r := by
  obtain ⟨a, rfl, q⟩ := h
  refine ⟨a, rfl, ?_⟩
  unfold At2 at q ⊢
  rw [upd_ne (fun z => by rw [z, e] at q; cases q)]
  exact q
noncomputable def EndOk : Option Rat → Option Rat → Prop
  | some l, none => Se l
  | none, some h => Se h
  | some l, some h => Se l ∧ Se h ∧ Se (h - l)
  | none, none => False
noncomputable def rawF (cs : List Rat) : Option Rat → Option Rat → List Int × Int
  | some l, none => ((mvR cs l 1).1, lvD cs * (mvR cs l 1).2)
  | none, some h => ((mvR cs h (-1)).1, lvD cs * (mvR cs h (-1)).2)
  | some l, some h => (spRow (mvR cs l (h - l)).1, lvD cs * (mvR cs l (h - l)).2 * LwB.fct ((mvR cs l (h - l)).1.length - 1))
  | none, none => ([], 1)
noncomputable def numsF (cs : List Rat) (lo hi : Option Rat) : List Rat := (rawF cs lo hi).1.map fun t => fv t (rawF cs lo hi).2
theorem fv_sub {t b o u : Int} (hb : 0 < b) (hu : 0 < u) : fv (t * u - o * b) (b * u) = fv t b - fv o u := by
  have h1 := cne hb
  have h2 := cne hu
  unfold fv
  rw [Rat.intCast_sub, Rat.intCast_mul, Rat.intCast_mul, Rat.intCast_mul]
  grind
theorem Se.fr {r : Rat} (h : Se r) : FrOk 7900 r.num r.den := by
  have := num_low r
  refine ⟨this.1, this.2, abs_up h.2 (by decide), ?_⟩
  rw [Int.natAbs_natCast]
  exact Nat.lt_of_le_of_lt h.1 (Nat.pow_lt_pow_right (by decide) (by decide))
theorem se_one : Se 1 := ⟨by decide, by decide⟩
theorem se_neg : Se (-1) := ⟨by decide, by decide⟩
theorem mvR_len {c : Nat → Rat} {n : Nat} {st pc : Rat} : (mvR (cL c n) st pc).1.length = n + 1 := by
  unfold mvR
  refine LwB.mvF_len _ _ _ _ n _ ?_
  rw [List.length_reverse, List.length_dropLast, lvT_len, cL_len]
  rfl
theorem mvR_snd {c : Nat → Rat} {n : Nat} {st pc : Rat} : (mvR (cL c n) st pc).2 = lvD [st, pc] ^ n := by
  unfold mvR
  refine LwB.mvF_snd _ _ _ _ n _ ?_
  rw [List.length_reverse, List.length_dropLast, lvT_len, cL_len]
  rfl
theorem mvR_bds {c : Nat → Rat} {n : Nat} {st pc : Rat} (h : Sm c) (hn : n ≤ 8) (h1 : Se st) (h2 : Se pc) : (∀ z ∈ (mvR (cL c n) st pc).1, z.natAbs < 2 ^ 1600) ∧ (mvR (cL c n) st pc).2.natAbs ≤ 2 ^ 700 := by
  have := mvR_bd h hn h1 h2 n (Nat.le_refl _)
  rw [show (lvT (cL c n)).dropLast.reverse.take n = (lvT (cL c n)).dropLast.reverse from List.take_of_length_le (by rw [List.length_reverse, List.length_dropLast, lvT_len, cL_len]; exact Nat.le_refl _)] at this
  exact this
theorem mvR_pos {c : Nat → Rat} {n : Nat} {st pc : Rat} : 0 < lvD (cL c n) * (mvR (cL c n) st pc).2 := by
  rw [mvR_snd]
  exact Int.mul_pos (lvD_pos _) (Int.pow_pos (lvD_pos _))
theorem mvR_bot {c : Nat → Rat} {n : Nat} {st pc : Rat} (h : Sm c) (hn : n ≤ 8) (h1 : Se st) (h2 : Se pc) : (lvD (cL c n) * (mvR (cL c n) st pc).2).natAbs < 2 ^ 800 := by
  have : (lvD (cL c n) * (mvR (cL c n) st pc).2).natAbs ≤ 2 ^ (90 + 700) := by
    rw [Int.natAbs_mul, Nat.pow_add]
    exact Nat.mul_le_mul (lvD_c h hn) (mvR_bds h hn h1 h2).2
  exact Nat.lt_of_le_of_lt this (Nat.pow_lt_pow_right (by decide) (by decide))
theorem raw_bd {c : Nat → Rat} {n : Nat} {lo hi : Option Rat} (h : Sm c) (hn : n ≤ 8) (e : EndOk lo hi) : (∀ z ∈ (rawF (cL c n) lo hi).1, z.natAbs < 2 ^ 1900) ∧ 0 < (rawF (cL c n) lo hi).2 ∧ (rawF (cL c n) lo hi).2.natAbs < 2 ^ 1000 ∧ (rawF (cL c n) lo hi).1.length = n + 1 := by
  match lo, hi, e with
  | some l, none, e =>
    exact ⟨fun z hz => abs_up ((mvR_bds h hn e se_one).1 z hz) (by decide), mvR_pos, abs_up (mvR_bot h hn e se_one) (by decide), mvR_len⟩
  | none, some l, e =>
    exact ⟨fun z hz => abs_up ((mvR_bds h hn e se_neg).1 z hz) (by decide), mvR_pos, abs_up (mvR_bot h hn e se_neg) (by decide), mvR_len⟩
  | some l, some h', e =>
    have b := mvR_bds h hn e.1 e.2.2
    have ll : (mvR (cL c n) l (h' - l)).1.length = n + 1 := mvR_len
    refine ⟨spRow_bd (by rw [ll]; omega) b.1, Int.mul_pos mvR_pos (LwB.fct_pos _), ?_, ?_⟩
    · refine abs_up (abs_mul (mvR_bot h hn e.1 e.2.2) (fct_bd ?_)) (by decide)
      rw [ll]
      omega
    · show (spRow (mvR (cL c n) l (h' - l)).1).length = _
      unfold spRow
      rw [List.length_map, List.length_range, ll]
noncomputable def spRaw (K : PySem.W.Frag) : Sp := fun vs H Q _ => ∃ (p : Addr) (x y : V) (c : Nat → Rat) (lo hi : Option Rat), vs = [.ref p, x, y] ∧ SumC H p c ∧ Sm c ∧ EndV K H x lo ∧ EndV K H y hi ∧ EndOk lo hi ∧
  ∀ (t q : Addr) (n : Nat) (H' : Hp), H t = none → H q = none → Same H H' → IsDeg c n → H' t = some (.tup [.ref q, .int (rawF (cL c n) lo hi).2]) → H' q = some (.lst ((rawF (cL c n) lo hi).1.map V.int)) → Q (.ref t) H'
noncomputable def spNums (K : PySem.W.Frag) : Sp := fun vs H Q _ => ∃ (p : Addr) (x y : V) (c : Nat → Rat) (lo hi : Option Rat), vs = [.ref p, x, y] ∧ SumC H p c ∧ Sm c ∧ EndV K H x lo ∧ EndV K H y hi ∧ EndOk lo hi ∧
  ∀ (l : Addr) (n : Nat) (xs : List V) (H' : Hp), H l = none → Same H H' → IsDeg c n → H' l = some (.lst xs) → Paired (NumT H') xs (numsF (cL c n) lo hi) → Q (.ref l) H'
section
variable {P : Program} {w : World} {K : PySem.W.Frag} {mg : Str → Option Value} {base : Heap} {f fd : _}
theorem scRaw : FnScope ["one", "low", "high", "tops", "bottom"] ["one", "low", "high"] (defScope sRaw) := ⟨rfl, rfl, rfl, by decide +kernel, rfl, by decide +kernel, by decide +kernel⟩
theorem ok_raw {fV fL fS fF : Addr} {fdV fdL fdS fdF : FuncData} (F : Fun K "raw_numbers" "raw_numbers" sRaw f fd) (T : Txt mg) (No : One1 K mg) (DV : Df K mg "moved" sMoved ["one", "start", "pace"] fV fdV) (GV : FnOk P w K mg base CX0 5 fV fdV ["one", "start", "pace"] (spMoved K)) (DL : Df K mg "less" sLess ["one", "other"] fL fdL) (GL : FnOk P w K mg base CX0 3 fL fdL ["one", "other"] (spLess K)) (DS : Df K mg "spread" sSpread ["tops"] fS fdS) (DF : Df K mg "factorial" sFact ["many"] fF fdF) : FnOk P w K mg base CX0 6 f fd ["one", "low", "high"] (spRaw K) := by
  have GF : FnOk P w K mg base CX0 1 fF fdF ["many"] spFact := ok_fact DF.F T
  have GS : FnOk P w K mg base CX0 2 fS fdS ["tops"] (spSpread K) := ok_spread DS.F T DF
  obtain ⟨oa, hO, hOq⟩ := No
  refine F.ok scRaw (fun vs H Q E h => ?_) (fun cdv A outer s H vs Q E hr h => ?_)
  · obtain ⟨p, x, y, c, lo, hi, rfl, _⟩ := h
    rfl
  · obtain ⟨p, x, y, c, lo, hi, rfl, hS, sm, hx, hy, ok, go⟩ := h
    have hr1 : Room 1 _ := hr.mono (by decide)
    have hr2 : Room 2 _ := hr.mono (by decide)
    have hr3 : Room 3 _ := hr.mono (by decide)
    refine ⟨_, pss_cons (ps_if (pt_cmpR op_isN (pv 2) pe_non (nomark _)) (pss_one (ps_ret (pe_call GV hr rfl DV.m DV.F.kp DV.b .nil pass0 (pa_cons (pv 0) (pa_cons (pv 1) (pa_cons (pe_glob (v := .ref oa) (by rfl) hO rfl) pa_nil)))))) pss_nil)
      (pss_cons (ps_if (pt_cmpR op_isN (pv 1) pe_non (nomark _)) (pss_one (ps_ret (pe_call GV hr rfl DV.m DV.F.kp DV.b .nil pass0 (pa_cons (pv 0) (pa_cons (pv 2) (pa_cons (pe_tupF (pa_cons (pe_un un_neg pe_int) (pa_cons pe_int pa_nil))) pa_nil)))))) pss_nil)
      (pss_cons (ps_asg (pe_call GV hr rfl DV.m DV.F.kp DV.b .nil pass0 (pa_cons (pv 0) (pa_cons (pv 1) (pa_cons (pe_call GL hr3 rfl DL.m DL.F.kp DL.b .nil pass0 (pa_cons (pv 2) (pa_cons (pv 1) pa_nil))) pa_nil)))) (pg_tup rfl (pgs_cons (pg_name (i := 3) scRaw.nd rfl (Or.inl rfl)) (pgs_cons (pg_name (i := 4) scRaw.nd rfl (Or.inl rfl)) pgs_nil))))
      (pss_one (ps_ret (pe_tupF (pa_cons (pe_call GS hr2 rfl DS.m DS.F.kp DS.b .nil pass0 (pa_cons (pv 3) pa_nil)) (pa_cons (pe_op op_mulL (pv 4) (pe_call GF hr1 rfl DF.m DF.F.kp DF.b .nil pass0 (pa_cons (pe_op op_sub (pe_callB call_len_seq (by rfl) T.len PySem.boot_len (pa_cons (pv 3) pa_nil)) pe_int) pa_nil))) pa_nil))))))), ?_⟩
    try dsimp only [cxK]
    rcases lo with _ | l <;> rcases hi with _ | h
    · exact ok.elim
    · obtain ⟨a, ea, qa⟩ := hy
      subst ea
      have hx : x = .non := hx
      subst hx
      refine ⟨_, rfl, rfl, _, rfl, iteN rfl ?_⟩
      refine ⟨_, rfl, rfl, _, rfl, iteP rfl ?_⟩
      refine ⟨_, rfl, _, rfl, _, rfl, (by show 2 ≤ sizeLine; decide), fun z H1 n1 s1 e1 => ?_⟩
      exact ⟨p, a, z, c, h, -1, rfl, hS.same s1, sm, sqT_same s1 qa, SqT.of e1, ok, se_neg, fun t q n H' m1 m2 s2 dg e2 e3 => go t q n H' (s1.free m1) (s1.free m2) (s1.trans s2) dg e2 e3⟩
    · obtain ⟨a, ea, qa⟩ := hx
      subst ea
      have hy : y = .non := hy
      subst hy
      refine ⟨_, rfl, rfl, _, rfl, iteP rfl ?_⟩
      refine ⟨_, rfl, _, rfl, p, a, oa, c, l, 1, rfl, hS, sm, qa, hOq H, ok, se_one, fun t q n H' n1 n2 s1 dg e1 e2 => go t q n H' n1 n2 s1 dg e1 e2⟩
    · obtain ⟨a, ea, qa⟩ := hx
      obtain ⟨b, eb, qb⟩ := hy
      subst ea
      subst eb
      refine ⟨_, rfl, rfl, _, rfl, iteN rfl ?_⟩
      refine ⟨_, rfl, rfl, _, rfl, iteN rfl ?_⟩
      refine ⟨_, rfl, _, rfl, _, rfl, _, rfl, b, a, h.num, h.den, l.num, l.den, rfl, qb, qa, ok.2.1.fr, ok.1.fr, fun z H1 n1 s1 e1 => ?_⟩
      have d1 := num_low h
      have d2 := num_low l
      have e1 : At2 H1 z (h - l).num (h - l).den := at_low e1 (Int.mul_pos d1.1 d2.1) (by rw [fv_sub d1.1 d2.1, fv_num, fv_num])
      refine ⟨p, a, z, c, l, h - l, rfl, hS.same s1, sm, sqT_same s1 qa, SqT.of e1, ok.1, ok.2.2, fun t q n H2 m1 m2 s2 dg e2 e3 => ?_⟩
      have n8 := deg_sm sm dg
      have ll : (mvR (cL c n) l (h - l)).1.length = n + 1 := mvR_len
      have bds := mvR_bds sm n8 ok.1 ok.2.2
      have bot := mvR_bot sm n8 ok.1 ok.2.2
      refine (gT2 (SqT.of e2) rfl ?_)
      refine ⟨_, rfl, q, _, rfl, e3, by rw [ll]; omega, by rw [ll]; omega, bds.1, fun q3 H3 n3 s3 e4 => ?_⟩
      refine ⟨_, rfl, _, rfl, q, _, rfl, .inl (SqL.of (s3 _ _ e3)), _, _, rfl, rfl, (mvR (cL c n) l (h - l)).1.length - 1, ?_, by rw [ll]; omega, _, _, rfl, rfl, ⟨abs_up bot (by decide), abs_up (fct_bd (by rw [ll]; omega)) (by decide)⟩, (by show 2 ≤ sizeLine; decide), fun t4 H4 n4 s4 e5 => ?_⟩
      · show [V.int (((((mvR (cL c n) l (h - l)).1.map V.int).length : Nat) : Int) - 1)] = _
        rw [List.length_map, ll]
        show [V.int (((n + 1 : Nat) : Int) - 1)] = [V.int ((n + 1 - 1 : Nat) : Int)]
        rw [show ((n + 1 : Nat) : Int) - 1 = ((n + 1 - 1 : Nat) : Int) by omega]
      · exact go t4 q3 n H4 ((s1.trans (s2.trans s3)).free n4) ((s1.trans s2).free n3) (s1.trans (s2.trans (s3.trans s4))) dg e5 (s4 _ _ e4)
theorem scNums : FnScope ["one", "low", "high", "tops", "bottom"] ["one", "low", "high"] (defScope sNums) := ⟨rfl, rfl, rfl, by decide +kernel, rfl, by decide +kernel, by decide +kernel⟩
theorem ok_nums {fR fD : Addr} {fdR fdD : FuncData} (F : Fun K "numbers" "numbers" sNums f fd) (T : Txt mg) (DR : Df K mg "raw_numbers" sRaw ["one", "low", "high"] fR fdR) (GR : FnOk P w K mg base CX0 6 fR fdR ["one", "low", "high"] (spRaw K)) (DD : Df K mg "divided" sDiv ["one", "other"] fD fdD) (GD : FnOk P w K mg base CX0 3 fD fdD ["one", "other"] (spDivN K)) : FnOk P w K mg base CX0 7 f fd ["one", "low", "high"] (spNums K) := by
  refine F.ok scNums (fun vs H Q E h => ?_) (fun cdv A outer s H vs Q E hr h => ?_)
  · obtain ⟨p, x, y, c, lo, hi, rfl, _⟩ := h
    rfl
  · obtain ⟨p, x, y, c, lo, hi, rfl, hS, sm, hx, hy, ok, go⟩ := h
    have hr3 : Room 3 _ := hr.mono (by decide)
    refine ⟨_, pss_cons (ps_asg (pe_call GR hr rfl DR.m DR.F.kp DR.b .nil pass0 (pa_cons (pv 0) (pa_cons (pv 1) (pa_cons (pv 2) pa_nil)))) (pg_tup rfl (pgs_cons (pg_name (i := 3) scNums.nd rfl (Or.inl rfl)) (pgs_cons (pg_name (i := 4) scNums.nd rfl (Or.inr rfl)) pgs_nil))))
      (pss_one (ps_ret (pe_compF (own := 1) (idx := [4]) (N := ["top", "bottom"]) rfl rfl rfl (by decide +kernel) (by decide +kernel) (fun _ _ h => h) (has_of rfl) rfl (one_idx rfl ⟨rfl, rfl, rfl, rfl⟩)
        (pi_list (pv 3))
        (fun C fp s2 H2 => pg_name (i := 0) (show List.Nodup (["top", "bottom"] : List Str) by decide +kernel) rfl (Or.inl rfl))
        (fun C fp s2 H2 => pe_call GD hr3 rfl DD.m DD.F.kp DD.b .nil pass0 (pa_cons (pe_tupF (pa_cons (pv 0) (pa_cons pe_int pa_nil))) (pa_cons (pe_tupF (pa_cons (pv 1) (pa_cons pe_int pa_nil))) pa_nil)))))), ?_⟩
    try dsimp only [cxK]
    refine ⟨_, rfl, _, rfl, _, rfl, p, x, y, c, lo, hi, rfl, hS, sm, hx, hy, ok, fun t q n H1 n1 n2 s1 dg e1 e2 => ?_⟩
    have n8 := deg_sm sm dg
    have bds := raw_bd (n := n) sm n8 ok
    refine (gT2 (SqT.of e1) rfl ?_)
    refine ⟨_, rfl, q, rfl, ⟨_, SqL.of e2⟩, fun l H2 n2' s2 e3 => ?_⟩
    have nf : numsF (cL c n) lo hi = (rawF (cL c n) lo hi).1.map fun t => fv t (rawF (cL c n) lo hi).2 := rfl
    generalize rawF (cL c n) lo hi = rw' at *
    obtain ⟨ts, B⟩ := rw'
    dsimp only at *
    refine comp_listF (K := K) (a := q) (xs := ts.map V.int) (fun i ys H4 => Same H1 H4 ∧ H4 l = some (.lst ys) ∧ Paired (NumT H4) ys ((ts.take i).map fun t => fv t B)) (Nat.lt_of_le_of_lt (show (ts.map V.int).length ≤ 24 by rw [List.length_map]; omega) (by decide)) ⟨s2, e3, .nil⟩ (fun i ys H4 h => ⟨SqL.of (h.1 _ _ e2), h.2.1⟩) ?_ ?_
    · rintro i m ys x' H4 hx' hm hy' ⟨s4, e4, pr⟩
      obtain ⟨tt, ht, rfl⟩ : ∃ tt, ts[i]? = some tt ∧ x' = .int tt := by
        rw [List.getElem?_map] at hx'
        obtain ⟨x'', h1, h2⟩ := Option.map_eq_some_iff.mp hx'
        exact ⟨x'', h1, h2.symm⟩
      have bt := bds.1 tt (List.mem_of_getElem? ht)
      refine ⟨keep1, _, rfl, (by show 2 ≤ sizeLine; decide), fun z1 H5 n5 s5 e5 => ⟨_, rfl, (by show 2 ≤ sizeLine; decide), fun z2 H6 n6 s6 e6 => ?_⟩⟩
      refine ⟨z1, z2, tt, 1, B, 1, rfl, SqT.of (s6 _ _ e5), SqT.of e6, fr_one (abs_up bt (by decide)) (by decide), fr_one (abs_up bds.2.2.1 (by decide)) (by decide), by have := bds.2.1; omega, fun z3 H7 n7 s7 e7 => ?_⟩
      rw [Int.mul_one, Int.one_mul] at e7
      have e7 : At2 H7 z3 (fv tt B).num (fv tt B).den := at_low e7 bds.2.1 rfl
      have s47 := s5.trans (s6.trans s7)
      refine comp_next hx' hm hy' (s47 _ _ e4) ⟨put_same (s4.trans s47) n2', upd_same, ?_⟩
      rw [List.take_succ, ht, List.map_append]
      exact Paired.snoc (Paired.mono (fun _ _ y => (NumT.same y s47).upd (s47 _ _ e4)) pr) ((show NumT H7 (.ref z3) (fv tt B) from ⟨z3, rfl, e7⟩).upd (s47 _ _ e4))
    · rintro ys H4 hy' ⟨s4, e4, pr⟩
      rw [List.length_map, List.take_length, ← nf] at pr
      exact go l n ys H4 (s1.free n2') (s1.trans s4) dg e4 pr
end
end Lw

namespace Lw
open LwB LwQ
theorem ev_scale (D : Rat) (y : Rat) : ∀ cs : List Rat, ev (cs.map fun r => r * D) y = D * ev cs y
  | [] => by simp [ev]
  | a :: r => by
    have := ev_scale D y r
    simp only [List.map_cons, ev, this]
    grind
theorem ev_fv {B : Int} (hB : 0 < B) (x : Rat) : ∀ ns : List Int, ev (ns.map fun t => fv t B) x * (B : Rat) = ev (iq ns) x
  | [] => by simp [ev, iq]
  | a :: r => by
    have ih := ev_fv hB x r
    have h := cne hB
    have e : fv a B * (B : Rat) = (a : Rat) := by unfold fv; grind
    show (fv a B + x * ev (r.map fun t => fv t B) x) * (B : Rat) = (a : Rat) + x * ev (iq r) x
    rw [← ih]
    grind
theorem iq_rev (ns : List Int) : iq ns.reverse = (iq ns).reverse := by simp [iq]
theorem mv_ev {c : Nat → Rat} {n : Nat} {st pc : Rat} (x : Rat) : ev (iq (mvR (cL c n) st pc).1) x = ((lvD (cL c n) * (mvR (cL c n) st pc).2 : Int) : Rat) * ev (cL c n) (st + pc * x) := by
  have up := lvD_pos [st, pc]
  have hu : ((lvD [st, pc] : Int) : Rat) ≠ 0 := cne up
  have ll : (lvT (cL c n)).length = n + 1 := by rw [lvT_len, cL_len]
  have ne : lvT (cL c n) ≠ [] := by intro z; rw [z] at ll; simp at ll
  have ld : (lvT (cL c n)).dropLast.reverse.length = n := by rw [List.length_reverse, List.length_dropLast, ll]; rfl
  have h := mvF_ev (b := mvB st pc) (s := mvP st pc) hu ((lvT (cL c n)).getLastD 0) x n _ ld
  have hl : (lvT (cL c n)).getLastD 0 = (lvT (cL c n)).getLast ne := by rw [List.getLastD_eq_getLast?, List.getLast?_eq_some_getLast ne]; rfl
  rw [iq_rev, hor_rev] at h
  have e1 : iq (lvT (cL c n)).dropLast ++ [(((lvT (cL c n)).getLastD 0 : Int) : Rat)] = iq (lvT (cL c n)) := by
    rw [hl]
    conv => rhs; rw [← List.dropLast_concat_getLast ne]
    simp [iq]
  rw [e1, lvT_val, ev_scale] at h
  have m1 : ((mvB st pc : Int) : Rat) = st * (lvD [st, pc] : Rat) := lv_val (rs := [st, pc]) (List.mem_cons_self ..)
  have m2 : ((mvP st pc : Int) : Rat) = pc * (lvD [st, pc] : Rat) := lv_val (rs := [st, pc]) (List.mem_cons_of_mem _ (List.mem_cons_self ..))
  have ey : ((mvB st pc : Rat) + (mvP st pc : Rat) * x) / (lvD [st, pc] : Rat) = st + pc * x := by
    rw [m1, m2]
    grind
  rw [ey] at h
  show ev (iq (mvF _ _ _ _ _).1) x = _
  rw [h, mvR_snd, Rat.intCast_mul, Rat.intCast_pow]
  grind
noncomputable def shq (n k : Nat) (x : Rat) (ended : Bool) : Rat := if ended then (ch n k : Rat) * (x ^ k * (1 - x) ^ (n - k)) else x ^ k
noncomputable def plc (x : Rat) : Option Rat → Option Rat → Rat
  | some l, none => l + x
  | none, some h => h + -x
  | some l, some h => l + (h + -l) * x
  | none, none => 0
noncomputable def ends : Option Rat → Option Rat → Bool
  | some _, some _ => true
  | _, _ => false
theorem nums_one {c : Nat → Rat} {n : Nat} {st pc : Rat} (x : Rat) : sm (fun k => ((mvR (cL c n) st pc).1.map fun t => fv t (lvD (cL c n) * (mvR (cL c n) st pc).2)).getD k 0 * x ^ k) (n + 1) = ev (cL c n) (st + pc * x) := by
  have hB := mvR_pos (c := c) (n := n) (st := st) (pc := pc)
  have h := mv_ev (c := c) (n := n) (st := st) (pc := pc) x
  rw [← ev_fv hB] at h
  have hl : ((mvR (cL c n) st pc).1.map fun t => fv t (lvD (cL c n) * (mvR (cL c n) st pc).2)).length = n + 1 := by rw [List.length_map, mvR_len]
  rw [ev_sm, hl] at h
  have := cne hB
  generalize sm (fun k => ((mvR (cL c n) st pc).1.map fun t => fv t (lvD (cL c n) * (mvR (cL c n) st pc).2)).getD k 0 * x ^ k) (n + 1) = S at *
  generalize ((lvD (cL c n) * (mvR (cL c n) st pc).2 : Int) : Rat) = B at *
  grind
theorem nums_ok {c : Nat → Rat} {n : Nat} {lo hi : Option Rat} (e : EndOk lo hi) (x : Rat) : sm (fun k => (numsF (cL c n) lo hi).getD k 0 * shq n k x (ends lo hi)) (n + 1) = ev (cL c n) (plc x lo hi) := by
  match lo, hi, e with
  | some l, none, _ =>
    have := nums_one (c := c) (n := n) (st := l) (pc := 1) x
    rw [show l + 1 * x = l + x by grind] at this
    exact this
  | none, some h, _ =>
    have := nums_one (c := c) (n := n) (st := h) (pc := -1) x
    rw [show h + -1 * x = h + -x by grind] at this
    exact this
  | some l, some h, _ =>
    have hB := mvR_pos (c := c) (n := n) (st := l) (pc := h - l)
    have ll : (mvR (cL c n) l (h - l)).1.length = n + 1 := mvR_len
    have hev := mv_ev (c := c) (n := n) (st := l) (pc := h - l) x
    have hsp := spread_sum (n := n) (fun j => (mvR (cL c n) l (h - l)).1.getD j 0) x
    have es : (fun j => (mvR (cL c n) l (h - l)).1.getD j 0 * fct j * fct (n - j)) = spR (mvR (cL c n) l (h - l)).1 := by
      funext j
      unfold spR
      rw [ll]
      rfl
    rw [es] at hsp
    have hiq : ev (iq (mvR (cL c n) l (h - l)).1) x = sm (fun k => (((mvR (cL c n) l (h - l)).1.getD k 0 : Int) : Rat) * x ^ k) (n + 1) := by
      rw [ev_sm]
      have : (iq (mvR (cL c n) l (h - l)).1).length = n + 1 := by simp [iq, ll]
      rw [this]
      refine sm_congr _ fun k hk => ?_
      congr 1
      unfold iq
      rw [List.getD_eq_getElem?_getD, List.getD_eq_getElem?_getD, List.getElem?_map, List.getElem?_eq_getElem (by rw [ll]; exact hk)]
      rfl
    rw [← hiq, hev] at hsp
    have fp := fct_pos n
    have hF := cne fp
    have hBr := cne hB
    have enum : ∀ k, k < n + 1 → (numsF (cL c n) (some l) (some h)).getD k 0 * shq n k x (ends (some l) (some h)) = (1 / (((lvD (cL c n) * (mvR (cL c n) l (h - l)).2 : Int) : Rat) * (fct n : Rat))) * ((bb (spR (mvR (cL c n) l (h - l)).1) k : Rat) * ((ch n k : Rat) * (x ^ k * (1 - x) ^ (n - k)))) + 0 * 0 := fun k hk => by
      have g : (numsF (cL c n) (some l) (some h)).getD k 0 = fv (bb (spR (mvR (cL c n) l (h - l)).1) k) (lvD (cL c n) * (mvR (cL c n) l (h - l)).2 * fct n) := by
        show ((spRow (mvR (cL c n) l (h - l)).1).map fun t => fv t (lvD (cL c n) * (mvR (cL c n) l (h - l)).2 * fct ((mvR (cL c n) l (h - l)).1.length - 1))).getD k 0 = _
        unfold spRow
        rw [List.getD_eq_getElem?_getD, List.getElem?_map, List.getElem?_map, ll, List.getElem?_range hk]
        rfl
      rw [g]
      show _ * ((ch n k : Rat) * (x ^ k * (1 - x) ^ (n - k))) = _
      unfold fv
      rw [Rat.intCast_mul]
      generalize ((lvD (cL c n) * (mvR (cL c n) l (h - l)).2 : Int) : Rat) = B at *
      generalize ((fct n : Int) : Rat) = F at *
      grind
    rw [sm_congr (n + 1) enum, sm_lin, hsp]
    show _ = ev (cL c n) (l + (h + -l) * x)
    rw [show l + (h + -l) * x = l + (h - l) * x by grind]
    generalize ((lvD (cL c n) * (mvR (cL c n) l (h - l)).2 : Int) : Rat) = B at *
    generalize ((fct n : Int) : Rat) = F at *
    generalize ev (cL c n) (l + (h - l) * x) = Y at *
    grind
end Lw

namespace Lw
open PySem PySem.Spec PyProof.Rows L2 LwQ
section
variable {X : Cx}
noncomputable def rIsiT (K : PySem.W.Frag) : List V → Hp → VK → Prop := fun xs H Q => match xs with
  | [x, y] => y = .ty "tuple" ∧ ∃ a ys, x = .ref a ∧ SqT K H a ys ∧ Q (.bl true) H
  | _ => False
theorem call_isiT : CallR X (.builtin "isinstance") (rIsiT X.K) := by
  intro pins s σ H xs us Q I r h
  match xs, h with
  | [x, y], h =>
    obtain ⟨rfl, a, ys, rfl, hq, q⟩ := h
    obtain ⟨u, w', rfl, ru, rw'⟩ := vals2 r
    cases (show w' = Value.type "tuple" from rw')
    cases ru
    obtain ⟨its, rv, ⟨o, h1, h2, _⟩, _⟩ := I.tuple hq
    exact PySem.W.kia_one (b := true) PySem.W.kitx_tuple I.kIn ⟨o, h1, h2⟩ rfl (fun z => nomatch z) fun tk => ⟨.bl true, H, I.tok tk, rfl, q⟩
theorem pe_isiT {e : Expr} {te : TE} {p p2 pos : Pos} (hm : X.mg "isinstance" = none) (hm2 : X.mg "tuple" = none) (he : PE X e te)
    (hg : Gl X "isinstance" := by rfl) (hg2 : Gl X "tuple" := by rfl)
    (hs : starEach [e, .Name "tuple" p2] X.env = (false, eval e X.env) :: starEach [.Name "tuple" p2] X.env := by rfl) (hs2 : starEach [.Name "tuple" p2] X.env = (false, eval (.Name "tuple" p2) X.env) :: starEach [] X.env := by rfl)
    (hpl : (backTo pos (starEach [.Name "tuple" p2] X.env)).any (·.1) = false := by rfl) : PE X (.Call (.Name "isinstance" p) [e, .Name "tuple" p2] [] pos) (tCB (rIsiT X.K) (tCons te (tCons (tC (.ty "tuple")) tNil))) :=
  pe_callB (X := X) (p := p) (pos := pos) call_isiT hg hm boot_isinstance (pa_cons he (pa_cons (pe_bltn (v := .ty "tuple") hg2 hm2 boot_tuple rfl (by decide) (by decide)) pa_nil hs2) hs) (by decide) (by decide) hs hpl
end
noncomputable def spNumK (K : PySem.W.Frag) : Sp := fun vs H Q _ => ∃ (a : Addr) (t b : Int), vs = [.ref a] ∧ SqT K H a [.int t, .int b] ∧ FrOk 7900 t b ∧ ∀ H', Same H H' → Q (.bl true) H'
section
variable {P : Program} {w : World} {K : PySem.W.Frag} {mg : Str → Option Value} {base : Heap} {f fd : _}
theorem scNum : FnScope ["thing", "one"] ["thing"] (defScope sNum) := ⟨rfl, rfl, rfl, by decide +kernel, rfl, by decide +kernel, by decide +kernel⟩
theorem ok_numK {fL : Addr} {fdL : FuncData} (F : Fun K "_law_is_number" "_law_is_number" sNum f fd) (T : Txt mg) (DL : Df K mg "_law_low" sLow ["top", "bottom"] fL fdL) : FnOk P w K mg base CX0 2 f fd ["thing"] (spNumK K) := by
  have GL : FnOk P w K mg base CX0 1 fL fdL ["top", "bottom"] spLow := ok_low DL.F T
  refine F.ok scNum (fun vs H Q E h => ?_) (fun cdv A outer s H vs Q E hr h => ?_)
  · obtain ⟨a, t, b, rfl, _⟩ := h
    rfl
  · obtain ⟨a, t, b, rfl, ha, fr, q⟩ := h
    have hu := hr.units0
    refine ⟨_, pss_cons (ps_if (PW.pt (pw_or (pt_not (pt_val (pe_isiT T.isi T.tup (pv 0)))) (pw_or1 (pt_cmpR op_ne (pe_callB call_len_seq (by rfl) T.len PySem.boot_len (pa_cons (pv 0) pa_nil)) pe_int (nomark _))))) (pss_one (ps_ret pe_bl)) pss_nil)
      (pss_cons (ps_for PassesOwn.never rfl (pi_tup (pv 0)) (pg_name (i := 1) scNum.nd rfl (Or.inl rfl))
        (pss_one (ps_if (PW.pt (pw_or (pt_not (pt_val (pe_isi isi_int T.isi T.int boot_int (pv 1)))) (pw_or1 (pt_val (pe_isi isi_bool T.isi T.bool boot_bool (pv 1)))))) (pss_one (ps_ret pe_bl)) pss_nil)))
      (pss_one (ps_ret (pe_and (pe_cmpR op_gt (pe_ix ix_tup (pv 0) pe_int (fun _ _ => rfl)) pe_int (nomark _))
        (pe_one (pe_cmpR (op_eqT hu) (pe_call GL hr rfl DL.m DL.F.kp DL.b .nil pass0 (pa_cons (pe_ix ix_tup (pv 0) pe_int (fun _ _ => rfl)) (pa_cons (pe_ix ix_tup (pv 0) pe_int (fun _ _ => rfl)) pa_nil))) (pv 0) (nomark _))))))), ?_⟩
    try dsimp only [cxK]
    refine ⟨_, rfl, rfl, a, _, rfl, ha, _, rfl, iteF ?_⟩
    refine ⟨_, rfl, a, _, rfl, .inr ha, rfl, _, rfl, iteF ?_⟩
    refine ⟨_, rfl, a, rfl, ⟨_, ha⟩, for_tup (K := K) (a := a) (xs := [.int t, .int b]) (fun i σ H1 => H1 = H ∧ ∃ v, σ = [some (.ref a), v]) ⟨rfl, _, rfl⟩ (fun i σ H1 _ h => by obtain ⟨rfl, _⟩ := h; exact ha) ?_ ?_⟩
    · rintro i z σ H1 hz ⟨rfl, v, rfl⟩
      obtain ⟨n, rfl⟩ : ∃ n, z = .int n := by
        match i, hz with
        | 0, hz => cases hz; exact ⟨_, rfl⟩
        | 1, hz => cases hz; exact ⟨_, rfl⟩
        | _ + 2, hz => cases hz
      refine ⟨_, rfl, rfl, .int, .int n, _, rfl, iteF ⟨_, rfl, rfl, .int, .int n, _, rfl, iteF ?_⟩⟩
      exact ⟨rfl, _, rfl⟩
    · rintro σ H1 ⟨rfl, v, rfl⟩
      refine (rvT rfl ha rfl ⟨_, _, rfl, rfl, _, rfl, iteP (decide_eq_true fr.pos) ?_⟩)
      refine (rvT rfl ha rfl (rvT rfl ha rfl ⟨t, b, rfl, by have := fr.pos; omega, .inl (abs_up fr.sb (by decide)), fun p H' n s1 e1 => ?_⟩))
      refine ⟨_, rfl, p, a, [lowT t b, lowB t b], [t, b], rfl, rfl, SqT.of e1, sqT_same s1 ha, ?_⟩
      have e : [lowT t b, lowB t b] = [t, b] := by
        obtain ⟨z1, z2⟩ := (LwM.low_same t b fr.pos).mpr fr.low
        rw [(low_pos fr.pos).1, (low_pos fr.pos).2, z1, z2]
      rw [decide_eq_true e]
      exact q H' s1
noncomputable def spMore : Sp := fun vs H Q _ => ∃ (p q : Addr) (t b o u : Int), vs = [.ref p, .ref q] ∧ At2 H p t b ∧ At2 H q o u ∧ 0 < b ∧ 0 < u ∧ t.natAbs < 2 ^ 100 ∧ b.natAbs < 2 ^ 100 ∧ o.natAbs < 2 ^ 100 ∧ u.natAbs < 2 ^ 100 ∧
  ∀ (r : Addr) (H' : Hp), H r = none → Same H H' → At2 H' r (fv t b + fv o u).num (fv t b + fv o u).den → Q (.ref r) H'
theorem dMore {p q : Addr} {t b o u : Int} {H : Hp} {Q : VK} {σ : L2.St} {x y : Nat} (e1 : σ[x]? = some (some (.ref p))) (e2 : σ[y]? = some (some (.ref q))) (h1 : At2 H p t b) (h2 : At2 H q o u) (h3 : 0 < b) (h4 : 0 < u) (h5 : t.natAbs < 2 ^ 100) (h6 : b.natAbs < 2 ^ 100) (h7 : o.natAbs < 2 ^ 100) (h8 : u.natAbs < 2 ^ 100)
    (k : ∀ (r : Addr) (H' : Hp), H r = none → Same H H' → At2 H' r (fv t b + fv o u).num (fv t b + fv o u).den → Q (.ref r) H') : tCall spMore [] E0 (tCons (tVar x) (tCons (tVar y) tNil)) σ H Q := ⟨_, e1, _, e2, p, q, t, b, o, u, rfl, h1, h2, h3, h4, h5, h6, h7, h8, k⟩
theorem scMore : FnScope ["one", "other", "some"] ["one", "other"] (defScope sMore) := ⟨rfl, rfl, rfl, by decide +kernel, rfl, by decide +kernel, by decide +kernel⟩
theorem ok_more {fP fL : Addr} {fdP fdL : FuncData} (F : Fun K "_law_more" "_law_more" sMore f fd) (T : Txt mg) (DP : Df K mg "_law_plus" sPlus ["one", "other"] fP fdP) (DL : Df K mg "_law_low" sLow ["top", "bottom"] fL fdL) : FnOk P w K mg base CX0 2 f fd ["one", "other"] spMore := by
  have GP : FnOk P w K mg base CX0 1 fP fdP ["one", "other"] spPlus := ok_plus DP.F
  have GL : FnOk P w K mg base CX0 1 fL fdL ["top", "bottom"] spLow := ok_low DL.F T
  refine F.ok scMore (fun vs H Q E h => ?_) (fun cdv A outer s H vs Q E hr h => ?_)
  · obtain ⟨p, q, t, b, o, u, rfl, _⟩ := h
    rfl
  · obtain ⟨p, q, t, b, o, u, rfl, hp, hq, b0, u0, h1, h2, h3, h4, go⟩ := h
    refine ⟨_, pss_cons (ps_set (i := 2) scMore.nd rfl (Or.inl rfl) (pe_call GP hr rfl DP.m DP.F.kp DP.b .nil pass0 (pa_cons (pv 0) (pa_cons (pv 1) pa_nil))))
      (pss_one (ps_ret (pe_call GL hr rfl DL.m DL.F.kp DL.b .nil pass0 (pa_cons (pe_ix ix_tup (pv 2) pe_int (fun _ _ => rfl)) (pa_cons (pe_ix ix_tup (pv 2) pe_int (fun _ _ => rfl)) pa_nil))))), ?_⟩
    try dsimp only [cxK]
    refine (dPlus rfl rfl hp hq b0 u0 (abs_up h1 (by decide)) (abs_up h2 (by decide)) (abs_up h3 (by decide)) (abs_up h4 (by decide)) (fun r t' b' H1 n1 s1 e1 b1 lb eq => ?_))
    have bits := plus_bits b0 u0 h1 h2 h3 h4 lb eq
    refine (rvT rfl (SqT.of e1) rfl (rvT rfl (SqT.of e1) rfl ⟨t', b', rfl, by omega, .inl (abs_up bits.2 (by decide)), fun r2 H2 n2 s2 e2 => ?_⟩))
    exact go r2 H2 (s1.free n2) (s1.trans s2) (at_low e2 b1 (fv_plus b0 u0 b1 eq))
noncomputable def spMinus : Sp := fun vs H Q _ => ∃ (p : Addr) (t b : Int), vs = [.ref p] ∧ At2 H p t b ∧ ∀ (r : Addr) (H' : Hp), H r = none → Same H H' → At2 H' r (0 - t) b → Q (.ref r) H'
theorem scMinus : FnScope ["number"] ["number"] (defScope sMinus) := ⟨rfl, rfl, rfl, by decide +kernel, rfl, by decide +kernel, by decide +kernel⟩
theorem ok_minus (F : Fun K "_law_minus" "_law_minus" sMinus f fd) : FnOk P w K mg base CX0 1 f fd ["number"] spMinus := by
  refine F.ok scMinus (fun vs H Q E h => ?_) (fun cdv A outer s H vs Q E hr h => ?_)
  · obtain ⟨p, t, b, rfl, _⟩ := h
    rfl
  · obtain ⟨p, t, b, rfl, hp, go⟩ := h
    refine ⟨_, pss_one (ps_ret (pe_tupF (pa_cons (pe_op op_sub pe_int (pe_ix ix_tup (pv 0) pe_int (fun _ _ => rfl))) (pa_cons (pe_ix ix_tup (pv 0) pe_int (fun _ _ => rfl)) pa_nil)))), ?_⟩
    try dsimp only [cxK]
    have sq := SqT.of (K := K) hp
    refine (rvT rfl sq rfl ⟨_, _, rfl, rfl, rvT rfl sq rfl ⟨(by show 2 ≤ sizeLine; decide), fun r H1 n1 s1 e1 => ?_⟩⟩)
    exact go r H1 n1 s1 e1
end
end Lw

namespace Lw
open PySem PySem.Spec PyProof.Rows L2 LwQ
noncomputable def EndT (H : Hp) (x : V) : Option Rat → Prop
  | none => x = .non
  | some r => NumT H x r
theorem EndT.same {H H' : Hp} {x : V} {o : Option Rat} (h : EndT H x o) (s : Same H H') : EndT H' x o := by
  cases o with
  | none => exact h
  | some r => exact NumT.same h s
theorem EndT.v {K : PySem.W.Frag} {H : Hp} {x : V} {o : Option Rat} (h : EndT H x o) : EndV K H x o := by
  cases o with
  | none => exact h
  | some r => obtain ⟨a, e, q⟩ := h; exact ⟨a, e, SqT.of q⟩
noncomputable def Sd (r : Rat) : Prop := r.den ≤ 2 ^ 25 ∧ r.num.natAbs < 2 ^ 60
noncomputable def EndS : Option Rat → Option Rat → Prop
  | some l, none => Sd l
  | none, some h => Sd h
  | some l, some h => Sd l ∧ Sd h ∧ Se (h - l)
  | none, none => False
theorem Sd.se {r : Rat} (h : Sd r) : Se r := ⟨Nat.le_trans h.1 (Nat.pow_le_pow_right (by decide) (by decide)), Nat.lt_of_lt_of_le h.2 (Nat.pow_le_pow_right (by decide) (by decide))⟩
theorem EndS.ok {lo hi : Option Rat} (h : EndS lo hi) : EndOk lo hi := by
  match lo, hi, h with
  | some l, none, h => exact h.se
  | none, some l, h => exact h.se
  | some l, some m, h => exact ⟨h.1.se, h.2.1.se, h.2.2⟩
theorem den_dvd {x : Rat} {t b : Int} (hb : 0 < b) (h : x = fv t b) : (x.den : Int) ∣ b ∧ x.num.natAbs ≤ t.natAbs := by
  have n := num_low x
  have d : (x.den : Int) ∣ b := Wh.dvd n.1 n.2 (by rw [fv_num, h]; exact Wh.of hb)
  refine ⟨d, ?_⟩
  obtain ⟨k, hk⟩ := d
  have c := cross hb h
  have k0 : k ≠ 0 := fun z => by rw [z, Int.mul_zero] at hk; omega
  have : x.num * k = t := by
    have e : x.den * (x.num * k) = x.den * t := by rw [hk] at c; grind
    exact Int.eq_of_mul_eq_mul_left (by omega) e
  rw [← this, Int.natAbs_mul]
  exact Nat.le_mul_of_pos_right _ (by omega)
theorem sd_of {t b : Int} (hb : 0 < b) (h1 : t.natAbs < 2 ^ 60) (h2 : b.natAbs ≤ 2 ^ 25) : Sd (fv t b) := by
  have := den_dvd hb (x := fv t b) rfl
  refine ⟨?_, Nat.lt_of_le_of_lt this.2 h1⟩
  have := Int.le_of_dvd hb this.1
  omega
theorem frs_num {t b : Int} (h : FrS t b) : (fv t b).num = t ∧ ((fv t b).den : Int) = b := num_of h.pos h.low
noncomputable def spStretch : Sp := fun vs H Q _ => ∃ (tp : Addr) (B : Int), vs = [.ref tp] ∧ ∃ cl, Tape cl H tp B ∧ B < 2 ^ 30 ∧
  ∀ (r : Addr) (x y : V) (lo hi : Option Rat) (H' : Hp), H r = none → H' r = some (.tup [x, y]) → EndT H' x lo → EndT H' y hi → EndS lo hi → Tape cl H' tp (B + 13) → But tp H H' → Q (.ref r) H'
theorem but_free {p : Addr} {H H' : Hp} (b : But p H H') {c : Addr} (hc : c ≠ p) (n : H' c = none) : H c = none := by
  cases e : H c with
  | none => rfl
  | some o => rw [b c o e hc] at n; cases n
inductive StJ (cl tp a : Addr) (ta ba B : Int) (H : Hp) (σ : L2.St) (H3 : Hp) : Prop
  | mk (b' : Addr) (t' u' : Int) : σ = [some (.ref tp), some (.ref a), some (.ref b'), none, none] → At2 H3 b' t' u' → 0 < u' → t'.natAbs < 2 ^ 42 → u'.natAbs < 2 ^ 10 → At2 H3 a ta ba → Tape cl H3 tp (B + 12) → But tp H H3 → StJ cl tp a ta ba B H σ H3
section
variable {P : Program} {w : World} {K : PySem.W.Frag} {mg : Str → Option Value} {base : Heap} {f fd : _}
theorem scStretch : FnScope ["tape", "low", "width", "way", "high"] ["tape"] (defScope sStretch) := ⟨rfl, rfl, rfl, by decide +kernel, rfl, by decide +kernel, by decide +kernel⟩
theorem ok_stretch {fD fN fL fM : Addr} {fdD fdN fdL fdM : FuncData} (F : Fun K "_law_stretch" "_law_stretch" sStretch f fd) (T : Txt mg) (DD : Df K mg "_law_draw" sDraw ["tape", "many"] fD fdD) (DN : Df K mg "_law_number" sNumber ["tape"] fN fdN) (DL : Df K mg "_law_low" sLow ["top", "bottom"] fL fdL) (DM : Df K mg "_law_more" sMore ["one", "other"] fM fdM) (GM : FnOk P w K mg base CX0 2 fM fdM ["one", "other"] spMore) : FnOk P w K mg base CX0 3 f fd ["tape"] spStretch := by
  have GD : FnOk P w K mg base CX0 1 fD fdD ["tape", "many"] spDraw := ok_draw DD.F T
  have GN : FnOk P w K mg base CX0 2 fN fdN ["tape"] (spDrawn 6 (2 ^ 38)) := ok_number DN.F T DD DL
  have GL : FnOk P w K mg base CX0 1 fL fdL ["top", "bottom"] spLow := ok_low DL.F T
  refine F.ok scStretch (fun vs H Q E h => ?_) (fun cdv A outer s H vs Q E hr h => ?_)
  · obtain ⟨tp, B, rfl, _⟩ := h
    rfl
  · obtain ⟨tp, B, rfl, cl, hT, hB, go⟩ := h
    have hr1 : Room 1 _ := hr.mono (by decide)
    refine ⟨_, pss_cons (ps_set (i := 1) scStretch.nd rfl (Or.inl rfl) (pe_call GN hr rfl DN.m DN.F.kp DN.b .nil pass0 (pa_cons (pv 0) pa_nil)))
      (pss_cons (ps_set (i := 2) scStretch.nd rfl (Or.inl rfl) (pe_call GN hr rfl DN.m DN.F.kp DN.b .nil pass0 (pa_cons (pv 0) pa_nil)))
      (pss_cons (ps_if (pt_cmpR op_le (pe_ix ix_tup (pv 2) pe_int (fun _ _ => rfl)) pe_int (nomark _)) (pss_one (ps_set (i := 2) scStretch.nd rfl (Or.inl rfl) (pe_call GL hr1 rfl DL.m DL.F.kp DL.b .nil pass0 (pa_cons (pe_op op_sub pe_int (pe_ix ix_tup (pv 2) pe_int (fun _ _ => rfl))) (pa_cons (pe_ix ix_tup (pv 2) pe_int (fun _ _ => rfl)) pa_nil))))) pss_nil)
      (pss_cons (ps_set (i := 3) scStretch.nd rfl (Or.inl rfl) (pe_call GD hr1 rfl DD.m DD.F.kp DD.b .nil pass0 (pa_cons (pv 0) (pa_cons pe_int pa_nil))))
      (pss_cons (ps_set (i := 4) scStretch.nd rfl (Or.inl rfl) (pe_call GM hr rfl DM.m DM.F.kp DM.b .nil pass0 (pa_cons (pv 1) (pa_cons (pv 2) pa_nil))))
      (pss_cons (ps_if (PW.pt (pw_or (pt_cmpR op_eq (pv 3) pe_int (nomark _)) (pw_or1 (pt_cmpR op_eq (pv 3) pe_int (nomark _))))) (pss_one (ps_set (i := 4) scStretch.nd rfl (Or.inl rfl) pe_non)) pss_nil)
      (pss_cons (ps_if (pt_cmpR op_eq (pv 3) pe_int (nomark _)) (pss_one (ps_set (i := 4) scStretch.nd rfl (Or.inl rfl) (pv 1))) pss_nil)
      (pss_cons (ps_if (PW.pt (pw_or (pt_cmpR op_eq (pv 3) pe_int (nomark _)) (pw_or1 (pt_cmpR op_eq (pv 3) pe_int (nomark _))))) (pss_one (ps_set (i := 1) scStretch.nd rfl (Or.inl rfl) pe_non)) pss_nil)
      (pss_one (ps_ret (pe_tupF (pa_cons (pv 1) (pa_cons (pv 4) pa_nil)))))))))))), ?_⟩
    try dsimp only [cxK]
    refine (dDrawn rfl hT (by omega) (fun a ta ba H1 f1 a1 ne1 T1 bt1 old1 => ?_))
    refine (dDrawn rfl T1 (by omega) (fun b tb bb H2 f2 a2 ne2 T2 bt2 old2 => ?_))
    have a1' : At2 H2 a ta ba := bt2 _ _ a1 ne1
    dsimp only [gName]
    refine seq_join (t := tIfS _ _ _) (StJ cl tp a ta ba B H) ?_ (fun join => ?_)
    · rintro σ H3 ⟨b', t', u', rfl, a3, u0, bt', bu', a1'', T3, bt3⟩
      refine (dDraw rfl T3 (by omega) (by decide) (by decide) (fun way H4 w0 w1 T4 bt4 => ?_))
      have ne3 : b' ≠ tp := (T3.ne a3 (fun _ z => by cases z)).1
      have neA : a ≠ tp := ne1
      have a4 : At2 H4 b' t' u' := bt4 _ _ a3 ne3
      have aa4 : At2 H4 a ta ba := bt4 _ _ a1'' neA
      have up : ∀ {z : Int} {m : Nat}, z.natAbs < 2 ^ m → m ≤ 100 → z.natAbs < 2 ^ 100 := fun h k => abs_up h k
      refine (dMore rfl rfl aa4 a4 f1.pos u0 (up f1.st (by decide)) (up f1.sb (by decide)) (up bt' (by decide)) (up bu' (by decide)) (fun r H5 n5 s5 e5 => ?_))
      have T5 : Tape cl H5 tp (B + 13) := T4.mono s5 (by omega)
      have bt5 : But tp H H5 := bt3.trans (bt4.trans (But.of s5))
      have aa5 : At2 H5 a (fv ta ba).num (fv ta ba).den := by
        have := frs_num f1
        unfold At2
        rw [this.1, this.2]
        exact s5 _ _ aa4
      have sdl : Sd (fv ta ba) := sd_of f1.pos (abs_up f1.st (by decide)) (Nat.le_of_lt (abs_up f1.sb (by decide)))
      have sdw : Sd (fv t' u') := sd_of u0 (abs_up bt' (by decide)) (Nat.le_of_lt (abs_up bu' (by decide)))
      have sdh : Sd (fv ta ba + fv t' u') := by
        rw [← fv_add f1.pos u0]
        refine sd_of (Int.mul_pos f1.pos u0) (abs_up (abs_add (n := 52) (abs_up (abs_mul f1.st bu') (by decide)) (abs_mul bt' f1.sb)) (by decide)) (Nat.le_of_lt (abs_up (abs_mul f1.sb bu') (by decide)))
      have eqw : fv ta ba + fv t' u' - fv ta ba = fv t' u' := by grind
      have fin : ∀ (x y : V) (lo hi : Option Rat) (σ5 : L2.St), σ5[1]? = some (some x) → σ5[4]? = some (some y) → EndT H5 x lo → EndT H5 y hi → EndS lo hi → tRet (tTupF (tCons (tVar 1) (tCons (tVar 4) tNil))) { nx := fun _ H' => Q .non H', rt := Q } σ5 H5 := fun x y lo hi σ5 g1 g4 ex ey es =>
        ⟨x, g1, y, g4, (by show 2 ≤ sizeLine; decide), fun z H6 n6 s6 e6 => go z x y lo hi H6 (but_free bt5 (T5.off n6).1 n6) e6 (ex.same s6) (ey.same s6) es (T5.mono s6 (Int.le_refl _)) (bt5.trans (But.of s6))⟩
      have ne5 : decide (V.int way = V.int 5) = false := decide_eq_false (by intro z; injection z with z; omega)
      by_cases w3 : way = 3
      · subst w3
        refine ⟨_, rfl, rfl, _, rfl, iteP rfl (iteT ?_)⟩
        refine ⟨_, rfl, rfl, _, rfl, iteN rfl ?_⟩
        refine ⟨_, rfl, rfl, _, rfl, iteN rfl ⟨_, rfl, rfl, _, rfl, iteN rfl ?_⟩⟩
        exact fin (.ref a) .non (some (fv ta ba)) none _ rfl rfl ⟨a, rfl, aa5⟩ rfl sdl
      · have n3 : decide (V.int way = V.int 3) = false := decide_eq_false (by intro z; injection z with z; exact w3 z)
        refine ⟨_, rfl, rfl, _, rfl, iteN n3 ⟨_, rfl, rfl, _, rfl, iteN ne5 ?_⟩⟩
        by_cases w4 : way = 4
        · subst w4
          refine ⟨_, rfl, rfl, _, rfl, iteP rfl ?_⟩
          refine ⟨_, rfl, ?_⟩
          refine ⟨_, rfl, rfl, _, rfl, iteP rfl (iteT ?_)⟩
          exact fin .non (.ref a) none (some (fv ta ba)) _ rfl rfl rfl ⟨a, rfl, aa5⟩ sdl
        · have n4 : decide (V.int way = V.int 4) = false := decide_eq_false (by intro z; injection z with z; exact w4 z)
          refine ⟨_, rfl, rfl, _, rfl, iteN n4 ?_⟩
          refine ⟨_, rfl, rfl, _, rfl, iteN n4 ⟨_, rfl, rfl, _, rfl, iteN ne5 ?_⟩⟩
          exact fin (.ref a) (.ref r) (some (fv ta ba)) (some (fv ta ba + fv t' u')) _ rfl rfl ⟨a, rfl, aa5⟩ ⟨r, rfl, e5⟩ ⟨sdl, sdh, by rw [eqw]; exact sdw.se⟩
    · refine (rvT rfl (SqT.of a2) rfl ⟨_, _, rfl, rfl, _, rfl, ?_⟩)
      by_cases z : tb ≤ 0
      · refine iteP (decide_eq_true z) ?_
        refine ⟨_, rfl, b, _, _, _, rfl, rfl, SqT.of a2, rfl, _, _, rfl, rfl, _, rfl, b, _, _, _, rfl, rfl, SqT.of a2, rfl, 1 - tb, bb, rfl, by have := f2.pos; omega, .inl (abs_up f2.sb (by decide)), fun r H3 n3 s3 e3 => ?_⟩
        have b1 : (1 - tb).natAbs < 2 ^ 41 := by have := f2.st; omega
        refine join _ _ ⟨r, _, _, rfl, e3, low_pos1 f2.pos, Nat.lt_of_le_of_lt (lowT_le f2.pos) (abs_up b1 (by decide)), Nat.lt_of_le_of_lt (lowB_le f2.pos) f2.sb, s3 _ _ a1', T2.mono s3 (by omega), bt1.trans (bt2.trans (But.of s3))⟩
      · refine iteN (decide_eq_false z) ?_
        exact join _ _ ⟨b, tb, bb, rfl, a2, f2.pos, abs_up f2.st (by decide), f2.sb, a1', T2.mono (Same.refl _) (by omega), bt1.trans bt2⟩
end
end Lw

namespace Lw
open PySem PySem.Spec PyProof.Rows L2 LwQ
theorem pow_abs {a : Int} {m : Nat} (h : a.natAbs ≤ 2 ^ m) : ∀ k : Nat, (a ^ k).natAbs ≤ 2 ^ (m * k)
  | 0 => by rw [Int.pow_zero, Nat.mul_zero]; decide
  | k + 1 => by
    rw [Int.pow_succ, Int.natAbs_mul, Nat.mul_succ, Nat.pow_add]
    exact Nat.mul_le_mul (pow_abs h k) h
theorem ffv_abs {n : Nat} (hn : n ≤ 8) : ∀ k : Nat, k ≤ n → (LwB.ffv n k).natAbs ≤ 2 ^ (3 * k)
  | 0, _ => by show (1 : Int).natAbs ≤ 2 ^ (3 * 0); decide
  | k + 1, h => by
    show (LwB.ffv n k * ((n : Int) - k)).natAbs ≤ _
    rw [Int.natAbs_mul, Nat.mul_succ, Nat.pow_add]
    exact Nat.mul_le_mul (ffv_abs hn k (by omega)) (by omega)
noncomputable def shI (n k st : Nat) (e : Bool) : Int := if e then LwB.ch n k * ((st : Int) ^ k * (1 - (st : Int)) ^ (n - k)) else (st : Int) ^ k
theorem shI_q (n k st : Nat) (e : Bool) : ((shI n k st e : Int) : Rat) = shq n k (st : Int) e := by
  unfold shI shq
  cases e with
  | false =>
    show (((st : Int) ^ k : Int) : Rat) = ((st : Int) : Rat) ^ k
    rw [Rat.intCast_pow]
  | true =>
    show ((LwB.ch n k * ((st : Int) ^ k * (1 - (st : Int)) ^ (n - k)) : Int) : Rat) = _
    rw [Rat.intCast_mul, Rat.intCast_mul, Rat.intCast_pow, Rat.intCast_pow, Rat.intCast_sub]
    rfl
theorem ch_abs {n : Nat} (hn : n ≤ 8) {k : Nat} (hk : k ≤ n) : (LwB.ch n k).natAbs ≤ 2 ^ 24 := by
  have h := LwB.ffv_ch n k
  have f0 := LwB.fct_pos k
  have b := ffv_abs hn k hk
  rw [h, Int.natAbs_mul] at b
  refine Nat.le_trans (Nat.le_mul_of_pos_right _ (show 0 < (LwB.fct k).natAbs by omega)) (Nat.le_trans b (Nat.pow_le_pow_right (by decide) (by omega)))
theorem shI_abs {n k st : Nat} (hn : n ≤ 8) (hk : k ≤ n) (hs : st ≤ 8) (e : Bool) : (shI n k st e).natAbs < 2 ^ 100 := by
  have h1 : ((st : Int) ^ k).natAbs ≤ 2 ^ (3 * k) := pow_abs (show ((st : Int)).natAbs ≤ 2 ^ 3 by omega) k
  have h2 : ((1 - (st : Int)) ^ (n - k)).natAbs ≤ 2 ^ (3 * (n - k)) := pow_abs (show (1 - (st : Int)).natAbs ≤ 2 ^ 3 by omega) (n - k)
  unfold shI
  cases e with
  | false => exact Nat.lt_of_le_of_lt h1 (Nat.pow_lt_pow_right (by decide) (by omega))
  | true =>
    show (LwB.ch n k * ((st : Int) ^ k * (1 - (st : Int)) ^ (n - k))).natAbs < _
    rw [Int.natAbs_mul, Int.natAbs_mul]
    have := Nat.mul_le_mul (ch_abs hn hk) (Nat.mul_le_mul h1 h2)
    rw [← Nat.pow_add, ← Nat.pow_add] at this
    exact Nat.lt_of_le_of_lt this (Nat.pow_lt_pow_right (by decide) (by omega))
noncomputable def spShare : Sp := fun vs H Q _ => ∃ (n k st : Nat) (e : Bool), vs = [.int n, .int k, .int st, .bl e] ∧ n ≤ 8 ∧ k ≤ n ∧ st ≤ 8 ∧ Q (.int (shI n k st e)) H
section
variable {P : Program} {w : World} {K : PySem.W.Frag} {mg : Str → Option Value} {base : Heap} {f fd : _}
theorem scShare : FnScope ["many", "k", "step", "ended", "found", "turn"] ["many", "k", "step", "ended"] (defScope sShare) := ⟨rfl, rfl, rfl, by decide +kernel, rfl, by decide +kernel, by decide +kernel⟩
theorem ok_share (F : Fun K "_law_share" "_law_share" sShare f fd) (T : Txt mg) : FnOk P w K mg base CX0 1 f fd ["many", "k", "step", "ended"] spShare := by
  refine F.ok scShare (fun vs H Q E h => ?_) (fun cdv A outer s H vs Q E hr h => ?_)
  · obtain ⟨n, k, st, e, rfl, _⟩ := h
    rfl
  · obtain ⟨n, k, st, e, rfl, hn, hk, hs, go⟩ := h
    refine ⟨_, pss_cons (ps_set (i := 4) scShare.nd rfl (Or.inl rfl) pe_int)
      (pss_cons (ps_for PassesOwn.never rfl (pi_range1 (by rfl) T.rng (pa_cons (pv 1) pa_nil)) (pg_name (i := 5) scShare.nd rfl (Or.inl rfl)) (pss_one (ps_set (i := 4) scShare.nd rfl (Or.inl rfl) (pe_op op_mulL (pv 4) (pv 2)))))
      (pss_cons (ps_if (pt_val (pv 3))
        (pss_cons (ps_for PassesOwn.never rfl (pi_range1 (by rfl) T.rng (pa_cons (pe_op op_sub (pv 0) (pv 1)) pa_nil)) (pg_name (i := 5) scShare.nd rfl (Or.inl rfl)) (pss_one (ps_set (i := 4) scShare.nd rfl (Or.inl rfl) (pe_op op_mulL (pv 4) (pe_op op_sub pe_int (pv 2))))))
        (pss_cons (ps_for PassesOwn.never rfl (pi_range1 (by rfl) T.rng (pa_cons (pv 1) pa_nil)) (pg_name (i := 5) scShare.nd rfl (Or.inl rfl)) (pss_one (ps_set (i := 4) scShare.nd rfl (Or.inl rfl) (pe_op op_mulL (pv 4) (pe_op op_sub (pv 0) (pv 5))))))
        (pss_one (ps_for PassesOwn.never rfl (pi_range1 (by rfl) T.rng (pa_cons (pv 1) pa_nil)) (pg_name (i := 5) scShare.nd rfl (Or.inl rfl)) (pss_one (ps_set (i := 4) scShare.nd rfl (Or.inl rfl) (pe_op op_fdiv (pv 4) (pe_op op_add (pv 5) pe_int)))))))) pss_nil)
      (pss_one (ps_ret (pv 4))))), ?_⟩
    try dsimp only [cxK]
    have g1 : ∀ i, i ≤ 8 → ((st : Int) ^ i).natAbs < 2 ^ 30 := fun i hi => Nat.lt_of_le_of_lt (pow_abs (show ((st : Int)).natAbs ≤ 2 ^ 3 by omega) i) (Nat.pow_lt_pow_right (by decide) (by omega))
    have g2 : ∀ i, i ≤ 8 → ((1 - (st : Int)) ^ i).natAbs < 2 ^ 30 := fun i hi => Nat.lt_of_le_of_lt (pow_abs (show (1 - (st : Int)).natAbs ≤ 2 ^ 3 by omega) i) (Nat.pow_lt_pow_right (by decide) (by omega))
    have g3 : ∀ i, i ≤ n → (LwB.ffv n i).natAbs < 2 ^ 30 := fun i hi => Nat.lt_of_le_of_lt (ffv_abs hn i hi) (Nat.pow_lt_pow_right (by decide) (by omega))
    have sm : ∀ z : Int, z.natAbs ≤ 8 → z.natAbs < 2 ^ 100000 := fun z hz => Nat.lt_of_le_of_lt hz (Nat.lt_of_lt_of_le (show 8 < 2 ^ 4 by decide) (Nat.pow_le_pow_right (by decide) (by decide)))
    have bX : ((st : Int) ^ k * (1 - (st : Int)) ^ (n - k)).natAbs < 2 ^ 60 := abs_mul (g1 k (by omega)) (g2 (n - k) (by omega))
    refine ⟨_, rfl, k, rfl, by omega, by omega, ?_⟩
    rw [Int.toNat_natCast]
    refine for_range (fun i σ H1 => H1 = H ∧ ∃ v, σ = [some (.int n), some (.int k), some (.int st), some (.bl e), some (.int ((st : Int) ^ i)), v]) ⟨rfl, none, by rw [Int.pow_zero]; rfl⟩ ?_ ?_
    · rintro i σ H1 hi ⟨rfl, v, rfl⟩
      refine (oVV rfl rfl ⟨abs_up (g1 i (by omega)) (by decide), sm _ (by omega)⟩ ⟨rfl, some (.int (0 + (i : Int))), ?_⟩)
      rw [Int.pow_succ]
      rfl
    · rintro σ H1 ⟨rfl, v, rfl⟩
      refine ⟨_, rfl, e, rfl, ?_⟩
      cases e with
      | false =>
        refine iteN rfl ?_
        exact ⟨_, rfl, go⟩
      | true =>
        refine iteP rfl ?_
        refine ⟨_, rfl, _, rfl, _, _, rfl, rfl, ((n - k : Nat) : Int), by show [V.int ((n : Int) - (k : Int))] = _; rw [show ((n : Int) - (k : Int)) = ((n - k : Nat) : Int) by omega], by omega, by omega, ?_⟩
        rw [Int.toNat_natCast]
        refine for_range (fun i σ H2 => H2 = H1 ∧ ∃ v, σ = [some (.int n), some (.int k), some (.int st), some (.bl true), some (.int ((st : Int) ^ k * (1 - (st : Int)) ^ i)), v]) ⟨rfl, v, by rw [Int.pow_zero, Int.mul_one]⟩ ?_ ?_
        · rintro i σ H2 hi ⟨rfl, v, rfl⟩
          refine ⟨_, rfl, _, rfl, _, _, rfl, rfl, _, _, rfl, rfl, ⟨abs_up (abs_mul (g1 k (by omega)) (g2 i (by omega))) (by decide), sm _ (by omega)⟩, rfl, some (.int (0 + (i : Int))), ?_⟩
          rw [Int.pow_succ, ← Int.mul_assoc]
          rfl
        · rintro σ H2 ⟨rfl, v, rfl⟩
          refine ⟨_, rfl, k, rfl, by omega, by omega, ?_⟩
          rw [Int.toNat_natCast]
          have hI : shI n k st true = LwB.ch n k * ((st : Int) ^ k * (1 - (st : Int)) ^ (n - k)) := rfl
          generalize (st : Int) ^ k * (1 - (st : Int)) ^ (n - k) = X at *
          refine for_range (fun i σ H3 => H3 = H2 ∧ ∃ v, σ = [some (.int n), some (.int k), some (.int st), some (.bl true), some (.int (X * LwB.ffv n i)), v]) ⟨rfl, v, by rw [show LwB.ffv n 0 = 1 from rfl, Int.mul_one]⟩ ?_ ?_
          · rintro i σ H3 hi ⟨rfl, v, rfl⟩
            refine ⟨_, rfl, _, rfl, _, rfl, _, _, rfl, rfl, _, _, rfl, rfl, ⟨abs_up (abs_mul bX (g3 i (by omega))) (by decide), sm _ (by omega)⟩, rfl, some (.int (0 + (i : Int))), ?_⟩
            show [_, _, _, _, some (V.int (X * LwB.ffv n i * ((n : Int) - (0 + (i : Int))))), _] = [_, _, _, _, some (V.int (X * (LwB.ffv n i * ((n : Int) - i)))), _]
            rw [Int.zero_add, Int.mul_assoc]
          · rintro σ H3 ⟨rfl, v, rfl⟩
            refine ⟨_, rfl, k, rfl, by omega, by omega, ?_⟩
            rw [Int.toNat_natCast]
            refine for_range (fun i σ H4 => H4 = H3 ∧ ∃ v, σ = [some (.int n), some (.int k), some (.int st), some (.bl true), some (.int (LwB.dvs (X * LwB.ffv n k) i)), v]) ⟨rfl, v, rfl⟩ ?_ ?_
            · rintro i σ H4 hi ⟨rfl, v, rfl⟩
              refine ⟨_, rfl, _, rfl, _, _, rfl, rfl, _, _, rfl, rfl, ⟨by omega, by omega⟩, rfl, some (.int (0 + (i : Int))), ?_⟩
              show [_, _, _, _, some (V.int (LwB.dvs (X * LwB.ffv n k) i / (0 + (i : Int) + 1))), _] = [_, _, _, _, some (V.int (LwB.dvs (X * LwB.ffv n k) i / ((i : Int) + 1))), _]
              rw [Int.zero_add]
            · rintro σ H4 ⟨rfl, v, rfl⟩
              refine ⟨_, rfl, ?_⟩
              have : LwB.dvs (X * LwB.ffv n k) k = LwB.ch n k * X := by
                rw [LwB.ffv_ch, ← Int.mul_assoc, LwB.dvs_all, Int.mul_comm]
              rw [this, ← hI]
              exact go
end
end Lw

namespace Lw
open PySem PySem.Spec PyProof.Rows L2 LwQ
noncomputable def spPlace : Sp := fun vs H Q _ => ∃ (x y : V) (lo hi : Option Rat) (st : Nat), vs = [x, y, .int st] ∧ EndT H x lo ∧ EndT H y hi ∧ EndS lo hi ∧ st ≤ 8 ∧
  ∀ (r : Addr) (t b : Int) (H' : Hp), H r = none → Same H H' → At2 H' r t b → 0 < b → t.natAbs < 2 ^ 300 → b.natAbs < 2 ^ 300 → fv t b = plc ((st : Int) : Rat) lo hi → Q (.ref r) H'
theorem Sd.bits {r : Rat} (h : Sd r) : r.num.natAbs < 2 ^ 61 ∧ ((r.den : Int)).natAbs < 2 ^ 61 := by
  refine ⟨abs_up h.2 (by decide), ?_⟩
  rw [Int.natAbs_natCast]
  exact Nat.lt_of_le_of_lt h.1 (Nat.pow_lt_pow_right (by decide) (by decide))
theorem fv_neg {t b : Int} (hb : 0 < b) : fv (0 - t) b = -fv t b := by
  have := cne hb
  unfold fv
  rw [Rat.intCast_sub]
  have e : ((0 : Int) : Rat) = 0 := rfl
  rw [e]
  grind
section
variable {P : Program} {w : World} {K : PySem.W.Frag} {mg : Str → Option Value} {base : Heap} {f fd : _}
theorem scPlace : FnScope ["low", "high", "step", "width"] ["low", "high", "step"] (defScope sPlace) := ⟨rfl, rfl, rfl, by decide +kernel, rfl, by decide +kernel, by decide +kernel⟩
theorem ok_place {fP fM fI : Addr} {fdP fdM fdI : FuncData} (F : Fun K "_law_place" "_law_place" sPlace f fd) (DP : Df K mg "_law_plus" sPlus ["one", "other"] fP fdP) (DM : Df K mg "_law_mul" sLMul ["one", "other"] fM fdM) (DI : Df K mg "_law_minus" sMinus ["number"] fI fdI) : FnOk P w K mg base CX0 2 f fd ["low", "high", "step"] spPlace := by
  have GP : FnOk P w K mg base CX0 1 fP fdP ["one", "other"] spPlus := ok_plus DP.F
  have GM : FnOk P w K mg base CX0 1 fM fdM ["one", "other"] spLMul := ok_lmul DM.F
  have GI : FnOk P w K mg base CX0 1 fI fdI ["number"] spMinus := ok_minus DI.F
  refine F.ok scPlace (fun vs H Q E h => ?_) (fun cdv A outer s H vs Q E hr h => ?_)
  · obtain ⟨x, y, lo, hi, st, rfl, _⟩ := h
    rfl
  · obtain ⟨x, y, lo, hi, st, rfl, hx, hy, es, hs, go⟩ := h
    refine ⟨_, pss_cons (ps_if (pt_cmpR op_isN (pv 1) pe_non (nomark _)) (pss_one (ps_ret (pe_call GP hr rfl DP.m DP.F.kp DP.b .nil pass0 (pa_cons (pv 0) (pa_cons (pe_tupF (pa_cons (pv 2) (pa_cons pe_int pa_nil))) pa_nil))))) pss_nil)
      (pss_cons (ps_if (pt_cmpR op_isN (pv 0) pe_non (nomark _)) (pss_one (ps_ret (pe_call GP hr rfl DP.m DP.F.kp DP.b .nil pass0 (pa_cons (pv 1) (pa_cons (pe_tupF (pa_cons (pe_op op_sub pe_int (pv 2)) (pa_cons pe_int pa_nil))) pa_nil))))) pss_nil)
      (pss_cons (ps_set (i := 3) scPlace.nd rfl (Or.inl rfl) (pe_call GP hr rfl DP.m DP.F.kp DP.b .nil pass0 (pa_cons (pv 1) (pa_cons (pe_call GI hr rfl DI.m DI.F.kp DI.b .nil pass0 (pa_cons (pv 0) pa_nil)) pa_nil))))
      (pss_one (ps_ret (pe_call GP hr rfl DP.m DP.F.kp DP.b .nil pass0 (pa_cons (pv 0) (pa_cons (pe_call GM hr rfl DM.m DM.F.kp DM.b .nil pass0 (pa_cons (pv 3) (pa_cons (pe_tupF (pa_cons (pv 2) (pa_cons pe_int pa_nil))) pa_nil))) pa_nil))))))), ?_⟩
    try dsimp only [cxK]
    have bs : ((st : Int)).natAbs < 2 ^ 61 := by omega
    have bs' : (0 - (st : Int)).natAbs < 2 ^ 61 := by omega
    have b1 : (1 : Int).natAbs < 2 ^ 61 := by decide
    rcases lo with _ | l <;> rcases hi with _ | h
    · exact False.elim es
    · obtain ⟨a, ea, qa⟩ := hy
      subst ea
      have hx : x = .non := hx
      subst hx
      have nl := num_low h
      have bl := es.bits
      refine ⟨_, rfl, rfl, _, rfl, iteN rfl ?_⟩
      refine ⟨_, rfl, rfl, _, rfl, iteP rfl ?_⟩
      refine ⟨_, rfl, _, rfl, _, _, rfl, rfl, (by show 2 ≤ sizeLine; decide), fun z H1 n1 s1 e1 => ?_⟩
      refine ⟨a, z, h.num, h.den, 0 - (st : Int), 1, rfl, s1 _ _ qa, e1, nl.1, by decide, abs_up bl.1 (by decide), abs_up bl.2 (by decide), abs_up bs' (by decide), abs_up b1 (by decide), fun r t' b' H2 n2 s2 e2 p2 lb eq => ?_⟩
      have bits := plus_bits nl.1 (by decide) bl.1 bl.2 bs' b1 lb eq
      refine go r t' b' H2 (s1.free n2) (s1.trans s2) e2 p2 (abs_up bits.1 (by decide)) (abs_up bits.2 (by decide)) ?_
      rw [fv_plus nl.1 (by decide) p2 eq, fv_num, fv_neg (by decide), fv_one]
      rfl
    · obtain ⟨a, ea, qa⟩ := hx
      subst ea
      have hy : y = .non := hy
      subst hy
      have nl := num_low l
      have bl := es.bits
      refine ⟨_, rfl, rfl, _, rfl, iteP rfl ?_⟩
      refine ⟨_, rfl, _, rfl, (by show 2 ≤ sizeLine; decide), fun z H1 n1 s1 e1 => ?_⟩
      refine ⟨a, z, l.num, l.den, st, 1, rfl, s1 _ _ qa, e1, nl.1, by decide, abs_up bl.1 (by decide), abs_up bl.2 (by decide), abs_up bs (by decide), abs_up b1 (by decide), fun r t' b' H2 n2 s2 e2 p2 lb eq => ?_⟩
      have bits := plus_bits nl.1 (by decide) bl.1 bl.2 bs b1 lb eq
      refine go r t' b' H2 (s1.free n2) (s1.trans s2) e2 p2 (abs_up bits.1 (by decide)) (abs_up bits.2 (by decide)) ?_
      rw [fv_plus nl.1 (by decide) p2 eq, fv_num, fv_one]
      rfl
    · obtain ⟨a, ea, qa⟩ := hx
      obtain ⟨b, eb, qb⟩ := hy
      subst ea
      subst eb
      have nl := num_low l
      have nh := num_low h
      have bl := es.1.bits
      have bh := es.2.1.bits
      refine ⟨_, rfl, rfl, _, rfl, iteN rfl ?_⟩
      refine ⟨_, rfl, rfl, _, rfl, iteN rfl ?_⟩
      refine ⟨_, rfl, _, rfl, a, l.num, l.den, rfl, qa, fun z H1 n1 s1 e1 => ?_⟩
      have bm : (0 - l.num).natAbs < 2 ^ 61 := by have := bl.1; omega
      refine ⟨b, z, h.num, h.den, 0 - l.num, l.den, rfl, s1 _ _ qb, e1, nh.1, nl.1, abs_up bh.1 (by decide), abs_up bh.2 (by decide), abs_up bm (by decide), abs_up bl.2 (by decide), fun r2 t2 b2 H2 n2 s2 e2 p2 lb2 eq2 => ?_⟩
      have bits2 := plus_bits nh.1 nl.1 bh.1 bh.2 bm bl.2 lb2 eq2
      refine ⟨_, rfl, _, rfl, _, rfl, (by show 2 ≤ sizeLine; decide), fun z3 H3 n3 s3 e3 => ?_⟩
      refine ⟨r2, z3, t2, b2, st, 1, rfl, s3 _ _ e2, e3, abs_up bits2.1 (by decide), abs_up bits2.2 (by decide), abs_up bs (by decide), abs_up b1 (by decide), fun r4 H4 n4 s4 e4 => ?_⟩
      have m1 := abs_mul bits2.1 bs
      have m2 := abs_mul bits2.2 b1
      have p4 : 0 < b2 * 1 := by omega
      have s14 := s1.trans (s2.trans (s3.trans s4))
      refine ⟨a, r4, l.num, l.den, t2 * st, b2 * 1, rfl, s14 _ _ qa, e4, nl.1, p4, abs_up bl.1 (by decide), abs_up bl.2 (by decide), abs_up m1 (by decide), abs_up m2 (by decide), fun r t' b' H5 n5 s5 e5 p5 lb eq => ?_⟩
      have bits := plus_bits nl.1 p4 bl.1 bl.2 m1 m2 lb eq
      refine go r t' b' H5 (s14.free n5) (s14.trans s5) e5 p5 (abs_up bits.1 (by decide)) (abs_up bits.2 (by decide)) ?_
      rw [fv_plus nl.1 p4 p5 eq, fv_num, fv_mul p2 (by decide), fv_plus nh.1 nl.1 p2 eq2, fv_num, fv_neg nl.1, fv_num, fv_one]
      rfl
end
end Lw

namespace Lw
open PySem PySem.Spec PyProof.Rows L2 LwQ
noncomputable def sumF (F : Nat → Rat) : List Nat → Rat
  | [] => 0
  | n :: r => F n + sumF F r
theorem sumF_app (F : Nat → Rat) : ∀ (l m : List Nat), sumF F (l ++ m) = sumF F l + sumF F m
  | [], m => by show sumF F m = 0 + sumF F m; rw [Rat.zero_add]
  | n :: l, m => by
    show F n + sumF F (l ++ m) = F n + sumF F l + sumF F m
    rw [sumF_app F l m, Rat.add_assoc]
theorem sumF_perm {F : Nat → Rat} {l m : List Nat} (p : l.Perm m) : sumF F l = sumF F m := by
  induction p with
  | nil => rfl
  | cons e _ ih => show _ + sumF F _ = _ + sumF F _; rw [ih]
  | swap a b l =>
    show F b + (F a + sumF F l) = F a + (F b + sumF F l)
    grind
  | trans _ _ ih1 ih2 => rw [ih1, ih2]
theorem sumF_range {F : Nat → Rat} : ∀ (m : Nat) {l : List Nat}, l.Nodup → (∀ x ∈ l, x < m) → (∀ i, i < m → i ∉ l → F i = 0) → sumF F l = sumF F (List.range m)
  | 0, l, _, k, _ => by
    cases l with
    | nil => rfl
    | cons x r => exact absurd (k x (List.mem_cons_self ..)) (Nat.not_lt_zero _)
  | m + 1, l, h, k, z => by
    have ih := sumF_range (F := F) m (h.erase m) (fun x hx => by
      have y := (List.Nodup.mem_erase_iff h).mp hx
      have := k x y.2
      have := y.1
      omega) (fun i hi hn => z i (by omega) fun y => hn ((List.Nodup.mem_erase_iff h).mpr ⟨by omega, y⟩))
    rw [List.range_succ, sumF_app, ← ih]
    show _ = sumF F (l.erase m) + (F m + 0)
    rw [Rat.add_zero]
    by_cases y : m ∈ l
    · rw [sumF_perm (List.perm_cons_erase y)]
      show F m + sumF F (l.erase m) = _
      rw [Rat.add_comm]
    · rw [List.erase_of_not_mem y, z m (by omega) y, Rat.add_zero]
theorem sm_sumF (F : Nat → Rat) : ∀ n, LwB.sm F n = sumF F (List.range n)
  | 0 => rfl
  | n + 1 => by
    rw [List.range_succ, sumF_app]
    show LwB.sm F n + F n = sumF F (List.range n) + (F n + 0)
    rw [sm_sumF F n, Rat.add_zero]
theorem ev_sumF (c : Nat → Rat) (n : Nat) (x : Rat) : LwB.ev (cL c n) x = sumF (fun j => c j * x ^ j) (List.range (n + 1)) := by
  rw [LwB.ev_sm, cL_len, ← sm_sumF]
  refine LwB.sm_congr _ fun k hk => ?_
  unfold cL
  rw [List.getD_eq_getElem?_getD, List.getElem?_map, List.getElem?_range hk]
  rfl
noncomputable def wE (c : Nat → Rat) (x : Rat) (E : List Ent) : Rat := sumF (fun j => c j * x ^ j) (E.map Ent.n)
theorem wE_all {H : Hp} {E : List Ent} {c : Nat → Rat} {s : Nat → Nat} {n : Nat} (R : RepE H E c s) (d : IsDeg c n) (x : Rat) : wE c x E = LwB.ev (cL c n) x := by
  rw [ev_sumF]
  refine sumF_range (n + 1) R.nd (fun y hy => ?_) fun i hi hn => ?_
  · obtain ⟨e, he, rfl⟩ := List.mem_map.mp hy
    have z := R.each e he
    have : c e.n ≠ 0 := by rw [← z.val]; exact fv_nz z.pos z.nz
    have := d.1 e.n this
    omega
  · have : c i = 0 := R.out fun e he z => hn (List.mem_map.mpr ⟨e, he, z⟩)
    show c i * x ^ i = 0
    rw [this, Rat.zero_mul]
theorem wE_take {c : Nat → Rat} {x : Rat} {E : List Ent} {i : Nat} {e : Ent} (h : E[i]? = some e) : wE c x (E.take (i + 1)) = wE c x (E.take i) + c e.n * x ^ e.n := by
  unfold wE
  rw [List.take_succ, h, List.map_append, sumF_app]
  show _ + (c e.n * x ^ e.n + 0) = _
  rw [Rat.add_zero]
noncomputable def spAt1 : Sp := fun vs H Q _ => ∃ (d sp a : Addr) (c : Nat → Rat) (t b : Int), vs = [.ref d, .ref sp] ∧ FrzP H d c (fun _ => 40) ∧ (∀ j, 9 ≤ j → c j = 0) ∧ H sp = some (.tup [.ref a]) ∧ At2 H a t b ∧ 0 < b ∧ t.natAbs < 2 ^ 300 ∧ b.natAbs < 2 ^ 300 ∧
  ∀ (r : Addr) (T B : Int) (H' : Hp), Same H H' → At2 H' r T B → 0 < B → T.natAbs < 2 ^ 30000 → B.natAbs < 2 ^ 30000 → (∀ n, IsDeg c n → fv T B = LwB.ev (cL c n) (fv t b)) → Q (.ref r) H'
inductive AtA (c : Nat → Rat) (t b : Int) (EE : List Ent) (d sp : Addr) (H1 : Hp) (i : Nat) (σ : List (Option V)) (H2 : Hp) : Prop
  | mk (tr : Addr) (T B : Int) (v3 v4 v5 v6 v7 : Option V) : σ = [some (.ref d), some (.ref sp), some (.ref tr), v3, v4, v5, v6, v7] → Same H1 H2 → At2 H2 tr T B → 0 < B → T.natAbs < 2 ^ (1 + 2500 * i) → B.natAbs < 2 ^ (1 + 2500 * i) → fv T B = wE c (fv t b) (EE.take i) → AtA c t b EE d sp H1 i σ H2
inductive AtB (t b : Int) (e : Ent) (d sp tr kb : Addr) (H2 : Hp) (j : Nat) (σ : List (Option V)) (H3 : Hp) : Prop
  | mk (nr : Addr) (t' u : Int) (v5 v6 v7 : Option V) : σ = [some (.ref d), some (.ref sp), some (.ref tr), some (.ref kb), some (.ref nr), v5, v6, v7] → Same H2 H3 → At2 H3 nr t' u → 0 < u → t'.natAbs < 2 ^ (40 + 300 * (e.n * j)) → u.natAbs < 2 ^ (40 + 300 * (e.n * j)) → fv t' u = fv e.t e.b * fv t b ^ (e.n * j) → AtB t b e d sp tr kb H2 j σ H3
inductive AtC (t b : Int) (e : Ent) (d sp tr kb a : Addr) (H4 : Hp) (k : Nat) (σ : List (Option V)) (H5 : Hp) : Prop
  | mk (nr : Addr) (t' u : Int) (v7 : Option V) : σ = [some (.ref d), some (.ref sp), some (.ref tr), some (.ref kb), some (.ref nr), some (.int (e.n : Int)), some (.ref a), v7] → Same H4 H5 → At2 H5 nr t' u → 0 < u → t'.natAbs < 2 ^ (40 + 300 * k) → u.natAbs < 2 ^ (40 + 300 * k) → fv t' u = fv e.t e.b * fv t b ^ k → AtC t b e d sp tr kb a H4 k σ H5
section
variable {P : Program} {w : World} {K : PySem.W.Frag} {mg : Str → Option Value} {base : Heap} {f fd : _}
theorem scAt : FnScope ["one", "spot", "total", "powers", "number", "power", "place", "turn"] ["one", "spot"] (defScope sAt) := ⟨rfl, rfl, rfl, by decide +kernel, rfl, by decide +kernel, by decide +kernel⟩
theorem ok_at {fP fM : Addr} {fdP fdM : FuncData} (F : Fun K "_law_at" "_law_at" sAt f fd) (T : Txt mg) (DP : Df K mg "_law_plus" sPlus ["one", "other"] fP fdP) (DM : Df K mg "_law_mul" sLMul ["one", "other"] fM fdM) : FnOk P w K mg base CX0 2 f fd ["one", "spot"] spAt1 := by
  have GP : FnOk P w K mg base CX0 1 fP fdP ["one", "other"] spPlus := ok_plus DP.F
  have GM : FnOk P w K mg base CX0 1 fM fdM ["one", "other"] spLMul := ok_lmul DM.F
  refine F.ok scAt (fun vs H Q E h => ?_) (fun cdv A outer s H vs Q E hr h => ?_)
  · obtain ⟨d, sp, a, c, t, b, rfl, _⟩ := h
    rfl
  · obtain ⟨d, sp, a, c, t, b, rfl, hD, c9, hP, hA, b0, bt, bb, go⟩ := h
    have hu : _ + 1 < cLine := Nat.lt_of_le_of_lt (Nat.add_le_add_left (by decide : 1 ≤ 64) _) hr.units
    refine ⟨_, pss_cons (ps_set (i := 2) scAt.nd rfl (Or.inl rfl) (pe_tupF (pa_cons pe_int (pa_cons pe_int pa_nil))))
      (pss_cons (ps_for PassesOwn.never rfl (LwD.pi_keys (pv 0)) (pg_name (i := 3) scAt.nd rfl (Or.inl rfl))
        (pss_cons (ps_set (i := 4) scAt.nd rfl (Or.inl rfl) (pe_dget hu (pv 0) (pv 3) (fun _ _ => rfl)))
        (pss_cons (ps_for PassesOwn.never rfl (pi_zipT (by rfl) T.zip (pa_cons (pv 3) (pa_cons (pv 1) pa_nil))) (pg_tup rfl (pgs_cons (pg_name (i := 5) scAt.nd rfl (Or.inl rfl)) (pgs_cons (pg_name (i := 6) scAt.nd rfl (Or.inl rfl)) pgs_nil)))
          (pss_one (ps_for PassesOwn.never rfl (pi_range1 (by rfl) T.rng (pa_cons (pv 5) pa_nil)) (pg_name (i := 7) scAt.nd rfl (Or.inl rfl)) (pss_one (ps_set (i := 4) scAt.nd rfl (Or.inl rfl) (pe_call GM hr rfl DM.m DM.F.kp DM.b .nil pass0 (pa_cons (pv 4) (pa_cons (pv 6) pa_nil))))))))
        (pss_one (ps_set (i := 2) scAt.nd rfl (Or.inl rfl) (pe_call GP hr rfl DP.m DP.F.kp DP.b .nil pass0 (pa_cons (pv 2) (pa_cons (pv 4) pa_nil))))))))
      (pss_one (ps_ret (pv 2)))), ?_⟩
    try dsimp only [cxK]
    obtain ⟨EE, o, hE, R⟩ := hD
    have e9 : ∀ e ∈ EE, e.n < 9 := fun e he => by
      have z := R.each e he
      have : c e.n ≠ 0 := by rw [← z.val]; exact fv_nz z.pos z.nz
      by_cases y : e.n < 9
      · exact y
      · exact absurd (c9 e.n (by omega)) this
    have lE : EE.length ≤ 9 := by
      have := nodup_lt 9 R.nd fun x hx => by
        obtain ⟨e, he, rfl⟩ := List.mem_map.mp hx
        exact e9 e he
      rwa [List.length_map] at this
    refine ⟨(by show 2 ≤ sizeLine; decide), fun z H1 n1 s1 e1 => ?_⟩
    have E1 := s1 _ _ hE
    refine ⟨_, rfl, d, o, _, rfl, E1, fun p hp => ?_, fun ks hk => ?_⟩
    · obtain ⟨e, he, rfl⟩ := List.mem_map.mp hp
      exact ⟨[(e.n : Int)], rfl⟩
    have lk : ks.length = EE.length := by rw [hk.1, List.length_map]
    refine LwD.for_keys (xs := ks) (AtA c t b EE d sp H1)
      ⟨z, 0, 1, _, _, _, _, _, rfl, Same.refl _, e1, by decide, (by decide), (by decide), fv_zero⟩ (fun i σ H2 h => by
        obtain ⟨tr, T, B, v3, v4, v5, v6, v7, _, s2, _⟩ := h
        exact s2 _ _ E1) ?_ ?_
    · rintro i x σ H2 hx ⟨tr, T0, B0, v3, v4, v5, v6, v7, rfl, s2, aT, pB, bT, bB, vT⟩
      obtain ⟨e, kb, he, rfl, hkb⟩ := keyed_at hk hx
      have eE := List.mem_of_getElem? he
      have hi : i < EE.length := (List.getElem?_eq_some_iff.mp he).1
      have s12 := s1.trans s2
      have R2 := R.map (H' := H2) fun _ _ q => s12 _ _ q
      have hEe := R2.each e eE
      have hb2 := s2 _ _ hkb
      have n8 := e9 e eE
      have P2 := s12 _ _ hP
      have A2 := s12 _ _ hA
      refine ⟨_, rfl, _, rfl, d, _, rfl, frz_get (s2 _ _ E1) R2 eE hb2, ?_⟩
      refine ⟨_, rfl, _, rfl, kb, sp, rfl, ⟨_, SqT.of hb2⟩, ⟨_, SqT.of P2⟩, ?_⟩
      refine for_zipT (K := K) (a := kb) (b := sp) (xs := [.int (e.n : Int)]) (ys := [.ref a]) (AtB t b e d sp tr kb H2) rfl
        ⟨e.c, e.t, e.b, _, _, _, rfl, Same.refl _, hEe.at', hEe.pos, by rw [Nat.mul_zero]; exact hEe.st, by rw [Nat.mul_zero]; exact hEe.sb, by rw [Nat.mul_zero, Rat.pow_zero, Rat.mul_one]⟩ (fun j σ H3 _ h => by
          obtain ⟨nr, t', u, v5, v6, v7, _, s3, _⟩ := h
          exact ⟨SqT.of (s3 _ _ hb2), SqT.of (s3 _ _ P2)⟩) ?_ ?_
      · rintro j x y pr σ H3 hxj hyj hpr ⟨nr, t', u, v5, v6, v7, rfl, s3, aN, pu, bt', bu, vt⟩
        match j, hxj, hyj with
        | 0, hxj, hyj =>
          cases hxj
          cases hyj
          rw [Nat.mul_zero] at bt' bu vt
          rw [Rat.pow_zero, Rat.mul_one] at vt
          have s4 : Same H3 (upd H3 pr (.tup [.int (e.n : Int), .ref a])) := same_upd _ hpr
          have at4 : (upd H3 pr (.tup [.int (e.n : Int), .ref a])) pr = some (.tup [.int (e.n : Int), .ref a]) := upd_same
          generalize upd H3 pr (.tup [.int (e.n : Int), .ref a]) = H4 at s4 at4
          have s24 := s3.trans s4
          refine (gT2 (SqT.of at4) rfl ?_)
          refine ⟨_, rfl, e.n, rfl, by omega, by omega, ?_⟩
          rw [Int.toNat_natCast]
          refine for_range (n := e.n) (AtC t b e d sp tr kb a H4)
            ⟨nr, t', u, _, rfl, Same.refl _, s4 _ _ aN, pu, bt', bu, by rw [vt, Rat.pow_zero, Rat.mul_one]⟩ ?_ ?_
          · rintro k σ H5 hk' ⟨nr2, t2, u2, w7, rfl, s5, aN2, pu2, bt2, bu2, vt2⟩
            have up : ∀ {z : Int}, z.natAbs < 2 ^ (40 + 300 * k) → z.natAbs < 2 ^ 50000 := fun h => abs_up h (by omega)
            refine (dMul rfl rfl aN2 ((s24.trans s5) _ _ A2) (up bt2) (up bu2) (abs_up bt (by decide)) (abs_up bb (by decide)) (fun r H6 n6 s6 e6 => ?_))
            refine ⟨r, t2 * t, u2 * b, some (.int (0 + (k : Int))), rfl, s5.trans s6, e6, Int.mul_pos pu2 b0, ?_, ?_, ?_⟩
            · rw [show 40 + 300 * (k + 1) = 40 + 300 * k + 300 by omega]; exact abs_mul bt2 bt
            · rw [show 40 + 300 * (k + 1) = 40 + 300 * k + 300 by omega]; exact abs_mul bu2 bb
            · rw [fv_mul pu2 b0, vt2, Rat.pow_succ, Rat.mul_assoc]
          · rintro σ H5 ⟨nr2, t2, u2, w7, rfl, s5, aN2, pu2, bt2, bu2, vt2⟩
            refine ⟨nr2, t2, u2, _, _, _, rfl, s24.trans s5, aN2, pu2, ?_, ?_, ?_⟩
            · rw [Nat.zero_add, Nat.mul_one]; exact bt2
            · rw [Nat.zero_add, Nat.mul_one]; exact bu2
            · rw [Nat.zero_add, Nat.mul_one]; exact vt2
        | j + 1, hxj, _ => cases hxj
      · rintro σ H3 ⟨nr, t', u, w5, w6, w7, rfl, s3, aN, pu, bt', bu, vt⟩
        rw [show ([V.int (e.n : Int)] : List V).length = 1 from rfl, Nat.mul_one] at bt' bu vt
        have mt : t'.natAbs < 2 ^ 2499 := abs_up bt' (by omega)
        have mu : u.natAbs < 2 ^ 2499 := abs_up bu (by omega)
        refine (dPlus rfl rfl (s3 _ _ aT) aN pB pu (abs_up bT (by omega)) (abs_up bB (by omega)) (abs_up mt (by decide)) (abs_up mu (by decide)) (fun r T' B' H4 n4 s4 e4 pB' lB' eq => ?_))
        have bits := plus_bits pB pu bT bB mt mu lB' eq
        refine ⟨r, T', B', _, _, _, _, _, rfl, s2.trans (s3.trans s4), e4, pB', ?_, ?_, ?_⟩
        · rw [show 1 + 2500 * (i + 1) = 1 + 2500 * i + 2499 + 1 by omega]; exact bits.1
        · rw [show 1 + 2500 * (i + 1) = 1 + 2500 * i + 2499 + 1 by omega]; exact bits.2
        · rw [fv_plus pB pu pB' eq, vT, vt, wE_take he, hEe.val]
    · rintro σ H2 ⟨tr, T0, B0, v3, v4, v5, v6, v7, rfl, s2, aT, pB, bT, bB, vT⟩
      rw [lk] at bT bB vT
      rw [List.take_length] at vT
      refine ⟨_, rfl, go tr T0 B0 H2 (s1.trans s2) aT pB (abs_up bT (by omega)) (abs_up bB (by omega)) fun n dg => ?_⟩
      rw [vT, wE_all R dg]
end
end Lw

namespace Lw
open PySem PySem.Spec PyProof.Rows L2 LwQ
noncomputable def Kd.isLst : Kd → Bool
  | .lst => true | _ => false
theorem isi_lst : Isi "list" Kd.isLst := fun K k => by cases k <;> rfl
theorem end_dec {H : Hp} {x : V} {o : Option Rat} (h : EndT H x o) : (!decide (x = V.non)) = o.isSome := by
  cases o with
  | none => rw [show x = .non from h]; rfl
  | some r => obtain ⟨a, e, _⟩ := h; rw [e]; rfl
theorem ends_eq (lo hi : Option Rat) : (if lo.isSome = true then hi.isSome else false) = ends lo hi := by
  cases lo <;> cases hi <;> rfl
theorem nums_sz {c : Nat → Rat} {n : Nat} {lo hi : Option Rat} (h : Sm c) (hn : n ≤ 8) (e : EndOk lo hi) : ∀ r ∈ numsF (cL c n) lo hi, r.num.natAbs < 2 ^ 1900 ∧ ((r.den : Int)).natAbs < 2 ^ 1001 := fun r hr => by
  have b := raw_bd (n := n) h hn e
  obtain ⟨t, ht, rfl⟩ := List.mem_map.mp hr
  have d := den_dvd b.2.1 (x := fv t (rawF (cL c n) lo hi).2) rfl
  refine ⟨Nat.lt_of_le_of_lt d.2 (b.1 t ht), ?_⟩
  have d0 := num_low (fv t (rawF (cL c n) lo hi).2)
  have := Int.le_of_dvd b.2.1 d.1
  refine Nat.lt_of_le_of_lt (show _ ≤ (rawF (cL c n) lo hi).2.natAbs by omega) (Nat.lt_of_lt_of_le b.2.2.1 (Nat.pow_le_pow_right (by decide) (by decide)))
theorem nums_len {c : Nat → Rat} {n : Nat} {lo hi : Option Rat} (h : Sm c) (hn : n ≤ 8) (e : EndOk lo hi) : (numsF (cL c n) lo hi).length = n + 1 := by
  unfold numsF
  rw [List.length_map]
  exact (raw_bd h hn e).2.2.2
noncomputable def spLNums : Sp := fun vs H Q _ => ∃ (d l : Addr) (x y : V) (xs : List V) (c : Nat → Rat) (lo hi : Option Rat) (n : Nat), vs = [.ref d, x, y, .ref l] ∧ FrzP H d c (fun _ => 40) ∧ Sm c ∧ IsDeg c n ∧ EndT H x lo ∧ EndT H y hi ∧ EndS lo hi ∧ H l = some (.lst xs) ∧ Paired (NumT H) xs (numsF (cL c n) lo hi) ∧
  ∀ H', Same H H' → Q (.bl true) H'
theorem dShare {n k st : Nat} {e : Bool} {H : Hp} {Q : VK} {σ : L2.St} (e1 : σ[4]? = some (some (.int n))) (e2 : σ[8]? = some (some (.int k))) (e3 : σ[6]? = some (some (.int st))) (e4 : σ[5]? = some (some (.bl e))) (h1 : n ≤ 8) (h2 : k ≤ n) (h3 : st ≤ 8) (q : Q (.int (shI n k st e)) H) : tCall spShare [] E0 (tCons (tVar 4) (tCons (tVar 8) (tCons (tVar 6) (tCons (tVar 5) tNil)))) σ H Q := ⟨_, e1, _, e2, _, e3, _, e4, n, k, st, e, rfl, h1, h2, h3, q⟩
theorem dTot {tr a : Addr} {T0 B0 n d sh : Int} {H : Hp} {Q : VK} {σ : L2.St} (e7 : σ[7]? = some (some (.ref tr))) (e9 : σ[9]? = some (some (.ref a))) (e10 : σ[10]? = some (some (.int sh))) (h1 : At2 H tr T0 B0) (h2 : At2 H a n d) (p1 : 0 < B0) (p2 : 0 < d * 1) (b1 : T0.natAbs < 2 ^ 50000) (b2 : B0.natAbs < 2 ^ 50000) (b3 : n.natAbs < 2 ^ 50000) (b4 : d.natAbs < 2 ^ 50000) (b5 : sh.natAbs < 2 ^ 50000) (b6 : (n * sh).natAbs < 2 ^ 50000) (b7 : (d * 1).natAbs < 2 ^ 8000)
    (k : ∀ (r : Addr) (T' B' : Int) (H' : Hp), Same H H' → At2 H' r T' B' → 0 < B' → B'.natAbs ≤ B0.natAbs * (d * 1).natAbs → T' * (B0 * (d * 1)) = (T0 * (d * 1) + (n * sh) * B0) * B' → Q (.ref r) H') :
    tCall spPlus [] E0 (tCons (tVar 7) (tCons (tCall spLMul [] E0 (tCons (tVar 9) (tCons (tTupF (tCons (tVar 10) (tCons (tC (V.int 1)) tNil))) tNil))) tNil)) σ H Q :=
  ⟨_, e7, _, e9, _, e10, (by show 2 ≤ sizeLine; decide), fun z8 H8 n8 s8 e8 => ⟨a, z8, n, d, sh, 1, rfl, s8 _ _ h2, e8, b3, b4, b5, Nat.lt_of_lt_of_le (show (1 : Int).natAbs < 2 ^ 1 by decide) (Nat.pow_le_pow_right (by decide) (by decide)), fun z9 H9 n9 s9 e9 => ⟨tr, z9, T0, B0, n * sh, d * 1, rfl, (s8.trans s9) _ _ h1, e9, p1, p2, b1, b2, b6, b7, fun r T' B' H' n' s' e' pB lB eq => k r T' B' H' (s8.trans (s9.trans s')) e' pB lB eq⟩⟩⟩
theorem dFit {tr d : Addr} {T0 B0 : Int} {x y : V} {lo hi : Option Rat} {st : Nat} {c : Nat → Rat} {H : Hp} {Q : VK} {σ : L2.St} (e7 : σ[7]? = some (some (.ref tr))) (e0 : σ[0]? = some (some (.ref d))) (e1 : σ[1]? = some (some x)) (e2 : σ[2]? = some (some y)) (e6 : σ[6]? = some (some (.int st))) (h1 : At2 H tr T0 B0) (h2 : EndT H x lo) (h3 : EndT H y hi) (es : EndS lo hi) (h4 : st ≤ 8) (D : FrzP H d c (fun _ => 40)) (c9 : ∀ j, 9 ≤ j → c j = 0) (b1 : T0.natAbs < 2 ^ 50000) (b2 : B0.natAbs < 2 ^ 50000)
    (eq : ∀ (t b T B : Int), 0 < b → 0 < B → fv t b = plc ((st : Int) : Rat) lo hi → (∀ n, IsDeg c n → fv T B = LwB.ev (cL c n) (fv t b)) → T0 * B = T * B0) (k : ∀ H', Same H H' → Q (.bl true) H') :
    tCall spLike [] E0 (tCons (tVar 7) (tCons (tCall spAt1 [] E0 (tCons (tVar 0) (tCons (tTupF (tCons (tCall spPlace [] E0 (tCons (tVar 1) (tCons (tVar 2) (tCons (tVar 6) tNil)))) tNil)) tNil))) tNil)) σ H Q :=
  ⟨_, e7, _, e0, _, e1, _, e2, _, e6, x, y, lo, hi, st, rfl, h2, h3, es, h4, fun r7 t7 b7 H7 n7 s7 e7' p7 bt7 bb7 v7 => ⟨(by show 1 ≤ sizeLine; decide), fun z8 H8 n8 s8 e8 => ⟨d, z8, r7, c, t7, b7, rfl, D.same (s7.trans s8), c9, e8, s8 _ _ e7', p7, bt7, bb7, fun r9 T9 B9 H9 s9 e9 p9 bT9 bB9 v9 => ⟨tr, r9, T0, B0, T9, B9, rfl, (s7.trans (s8.trans s9)) _ _ h1, e9, b1, b2, abs_up bT9 (by decide), abs_up bB9 (by decide), eq t7 b7 T9 B9 p7 p9 v7 v9, k H9 (s7.trans (s8.trans s9))⟩⟩⟩⟩
inductive LnA (d l : Addr) (x y : V) (n : Nat) (e : Bool) (H3 : Hp) (i : Nat) (σ : L2.St) (H4 : Hp) : Prop
  | mk (s : Same H3 H4) (v6 v7 v8 v9 v10 : Option V) : σ = [some (.ref d), some x, some y, some (.ref l), some (.int n), some (.bl e), v6, v7, v8, v9, v10] → LnA d l x y n e H3 i σ H4
inductive LnB (d l : Addr) (x y : V) (n : Nat) (e : Bool) (rs : List Rat) (i : Nat) (H5 : Hp) (k : Nat) (σ : L2.St) (H6 : Hp) : Prop
  | mk (tr : Addr) (T0 B0 : Int) (v8 v9 v10 : Option V) : σ = [some (.ref d), some x, some y, some (.ref l), some (.int n), some (.bl e), some (.int (0 + (i : Int))), some (.ref tr), v8, v9, v10] → Same H5 H6 → At2 H6 tr T0 B0 → 0 < B0 → T0.natAbs < 2 ^ (1 + 2100 * k) → B0.natAbs < 2 ^ (1 + 2100 * k) → fv T0 B0 = LwB.sm (fun k => rs.getD k 0 * shq n k ((i : Int) : Rat) e) k → LnB d l x y n e rs i H5 k σ H6
section
variable {P : Program} {w : World} {K : PySem.W.Frag} {mg : Str → Option Value} {base : Heap} {f fd : _}
theorem scLNums : FnScope ["one", "low", "high", "told", "many", "ended", "step", "total", "k", "number", "share"] ["one", "low", "high", "told"] (defScope sLNums) := ⟨rfl, rfl, rfl, by decide +kernel, rfl, by decide +kernel, by decide +kernel⟩
theorem ok_lnums {fG fN fS fP fM fA fC fK : Addr} {fdG fdN fdS fdP fdM fdA fdC fdK : FuncData} (F : Fun K "_law_numbers" "_law_numbers" sLNums f fd) (T : Txt mg)
    (DG : Df K mg "_law_deg" sDeg ["one"] fG fdG) (GG : FnOk P w K mg base CX0 1 fG fdG ["one"] spDeg) (DN : Df K mg "_law_is_number" sNum ["thing"] fN fdN) (GN : FnOk P w K mg base CX0 2 fN fdN ["thing"] (spNumK K))
    (DS : Df K mg "_law_share" sShare ["many", "k", "step", "ended"] fS fdS) (GS : FnOk P w K mg base CX0 1 fS fdS ["many", "k", "step", "ended"] spShare) (DP : Df K mg "_law_plus" sPlus ["one", "other"] fP fdP) (GP : FnOk P w K mg base CX0 1 fP fdP ["one", "other"] spPlus)
    (DM : Df K mg "_law_mul" sLMul ["one", "other"] fM fdM) (GM : FnOk P w K mg base CX0 1 fM fdM ["one", "other"] spLMul) (DA : Df K mg "_law_at" sAt ["one", "spot"] fA fdA) (GA : FnOk P w K mg base CX0 2 fA fdA ["one", "spot"] spAt1)
    (DC : Df K mg "_law_place" sPlace ["low", "high", "step"] fC fdC) (GC : FnOk P w K mg base CX0 2 fC fdC ["low", "high", "step"] spPlace) (DK : Df K mg "_law_like" sLike ["one", "other"] fK fdK) (GK : FnOk P w K mg base CX0 1 fK fdK ["one", "other"] spLike) :
    FnOk P w K mg base CX0 3 f fd ["one", "low", "high", "told"] spLNums := by
  refine F.ok scLNums (fun vs H Q E h => ?_) (fun cdv A outer s H vs Q E hr h => ?_)
  · obtain ⟨d, l, x, y, xs, c, lo, hi, n, rfl, _⟩ := h
    rfl
  · obtain ⟨d, l, x, y, xs, c, lo, hi, n, rfl, hD, sm, dg, hx, hy, es, hl, hN, go⟩ := h
    have hr1 : Room 1 _ := hr.mono (by decide)
    refine ⟨_, pss_cons (ps_set (i := 4) scLNums.nd rfl (Or.inl rfl) (pe_call GG hr1 rfl DG.m DG.F.kp DG.b .nil pass0 (pa_cons (pv 0) pa_nil)))
      (pss_cons (ps_if (PW.pt (pw_or (pt_not (pt_val (pe_isi isi_lst T.isi T.lst boot_list (pv 3)))) (pw_or1 (pt_cmpR op_ne (pe_callB call_len_seq (by rfl) T.len PySem.boot_len (pa_cons (pv 3) pa_nil)) (pe_op op_add (pv 4) pe_int) (nomark _))))) (pss_one (ps_ret pe_bl)) pss_nil)
      (pss_cons (ps_if (pt_not (pt_val (pe_callB (call_all rfl) (by rfl) T.all boot_all (pa_cons
        (pe_compF (own := 1) (idx := []) (N := ["number"]) rfl rfl rfl (by decide +kernel) (by decide +kernel) (fun _ _ h => nomatch h) (has_of rfl) rfl (fun _ _ _ h => nomatch h) (pi_list (pv 3)) (fun C fp s2 H2 => pg_name (i := 0) (show List.Nodup (["number"] : List Str) by decide +kernel) rfl (Or.inl rfl))
          (fun C fp s2 H2 => pe_call GN hr rfl DN.m DN.F.kp DN.b .nil pass0 (pa_cons (pv 0) pa_nil))) pa_nil)))) (pss_one (ps_ret pe_bl)) pss_nil)
      (pss_cons (ps_set (i := 5) scLNums.nd rfl (Or.inl rfl) (pe_and (pe_cmpR op_notN (pv 1) pe_non (nomark _)) (pe_one (pe_cmpR op_notN (pv 2) pe_non (nomark _)))))
      (pss_cons (ps_for PassesOwn.never rfl (pi_range1 (by rfl) T.rng (pa_cons (pe_op op_add (pv 4) pe_int) pa_nil)) (pg_name (i := 6) scLNums.nd rfl (Or.inl rfl))
        (pss_cons (ps_set (i := 7) scLNums.nd rfl (Or.inl rfl) (pe_tupF (pa_cons pe_int (pa_cons pe_int pa_nil))))
        (pss_cons (ps_for PassesOwn.never rfl (pi_enumL (by rfl) T.enum (pa_cons (pv 3) pa_nil)) (pg_tup rfl (pgs_cons (pg_name (i := 8) scLNums.nd rfl (Or.inl rfl)) (pgs_cons (pg_name (i := 9) scLNums.nd rfl (Or.inl rfl)) pgs_nil)))
          (pss_cons (ps_set (i := 10) scLNums.nd rfl (Or.inl rfl) (pe_call GS hr1 rfl DS.m DS.F.kp DS.b .nil pass0 (pa_cons (pv 4) (pa_cons (pv 8) (pa_cons (pv 6) (pa_cons (pv 5) pa_nil))))))
          (pss_one (ps_set (i := 7) scLNums.nd rfl (Or.inl rfl) (pe_call GP hr1 rfl DP.m DP.F.kp DP.b .nil pass0 (pa_cons (pv 7) (pa_cons (pe_call GM hr1 rfl DM.m DM.F.kp DM.b .nil pass0 (pa_cons (pv 9) (pa_cons (pe_tupF (pa_cons (pv 10) (pa_cons pe_int pa_nil))) pa_nil))) pa_nil)))))))
        (pss_one (ps_if (pt_not (pt_val (pe_call GK hr1 rfl DK.m DK.F.kp DK.b .nil pass0 (pa_cons (pv 7) (pa_cons (pe_call GA hr rfl DA.m DA.F.kp DA.b .nil pass0 (pa_cons (pv 0) (pa_cons (pe_tupF (pa_cons (pe_call GC hr rfl DC.m DC.F.kp DC.b .nil pass0 (pa_cons (pv 1) (pa_cons (pv 2) (pa_cons (pv 6) pa_nil)))) pa_nil)) pa_nil))) pa_nil))))) (pss_one (ps_ret pe_bl)) pss_nil)))))
      (pss_one (ps_ret pe_bl)))))), ?_⟩
    try dsimp only [cxK]
    have n8 := deg_sm sm dg
    have sz := nums_sz sm n8 es.ok
    have ln := nums_len sm n8 es.ok (c := c) (n := n)
    have nok := nums_ok (c := c) (n := n) es.ok
    have lx : xs.length = n + 1 := by rw [Paired.length hN, ln]
    generalize numsF (cL c n) lo hi = rs at *
    refine ⟨_, rfl, d, c, _, rfl, hD, fun n' H1 s1 dg' => ?_⟩
    obtain rfl := dg'.uniq dg
    have l1 := s1 _ _ hl
    refine ⟨_, rfl, rfl, .lst, .lst l1, _, rfl, iteF ?_⟩
    refine ⟨_, rfl, l, xs, rfl, .inl (SqL.of l1), _, rfl, _, _, rfl, rfl, rfl, _, rfl, iteN ?_ ?_⟩
    · rw [lx]
      show (!decide (V.int ((n' + 1 : Nat) : Int) = V.int ((n' : Int) + 1))) = false
      rw [show ((n' + 1 : Nat) : Int) = (n' : Int) + 1 by omega]
      simp
    have N1 : Paired (NumT H1) xs rs := Paired.mono (fun _ _ y => NumT.same y s1) hN
    refine ⟨_, rfl, l, rfl, ⟨xs, SqL.of l1⟩, fun q H2 n2 s2 e2 => ?_⟩
    refine comp_listF (K := K) (a := l) (xs := xs) (CmI (fun i => (List.replicate i true).map V.bl) q H1) (by rw [lx]; exact Nat.lt_of_le_of_lt (show n' + 1 ≤ 24 by omega) (by decide)) ⟨s2, e2, rfl⟩ (fun i ys H3 h => ⟨SqL.of (h.1 _ _ l1), h.2⟩) ?_ ?_
    · rintro i m ys x' H3 hx' hm hy' ⟨s3, e3, rfl⟩
      obtain ⟨r, hr', a, rfl, at'⟩ := paired_get N1 hx'
      have b := sz r (List.mem_of_getElem? hr')
      have nl := num_low r
      refine ⟨keep1, _, rfl, a, r.num, r.den, rfl, SqT.of (s3 _ _ at'), ⟨nl.1, nl.2, abs_up b.1 (by decide), abs_up b.2 (by decide)⟩, fun H4 s4 => ?_⟩
      refine comp_next hx' hm hy' (s4 _ _ e3) ⟨put_same (s3.trans s4) n2, upd_same, ?_⟩
      rw [List.replicate_succ', List.map_append]
      rfl
    · rintro ys H3 hy' ⟨s3, e3, rfl⟩
      refine ⟨q, _, rfl, SqL.of e3, _, rfl, iteN ?_ ?_⟩
      · rw [show (List.replicate xs.length true).all id = true from List.all_eq_true.mpr fun z hz => (List.mem_replicate.mp hz).2]
        rfl
      have s13 := s1.trans s3
      have x3 := hx.same s13
      have y3 := hy.same s13
      have l3 := s13 _ _ hl
      have D3 := hD.same s13
      have N3 : Paired (NumT H3) xs rs := Paired.mono (fun _ _ y => NumT.same y s13) hN
      have fin : ∀ eb, eb = ends lo hi → (tSeq (tFor (iRng1 (tCons (tOp (rI0 fun i j => V.int (i + j)) (tVar 4) (tC (V.int 1))) tNil)) (gName 6)
          (tSeq (tAsg (tTupF (tCons (tC (V.int 0)) (tCons (tC (V.int 1)) tNil))) (gName 7))
          (tSeq (tFor (iEnumL K (tCons (tVar 3) tNil)) (gTup K 2 (gCons (gName 8) (gCons (gName 9) gNil)))
            (tSeq (tAsg (tCall spShare [] E0 (tCons (tVar 4) (tCons (tVar 8) (tCons (tVar 6) (tCons (tVar 5) tNil))))) (gName 10))
            (tAsg (tCall spPlus [] E0 (tCons (tVar 7) (tCons (tCall spLMul [] E0 (tCons (tVar 9) (tCons (tTupF (tCons (tVar 10) (tCons (tC (V.int 1)) tNil))) tNil))) tNil))) (gName 7))))
          (tIfS (tNot (tB (tCall spLike [] E0 (tCons (tVar 7) (tCons (tCall spAt1 [] E0 (tCons (tVar 0) (tCons (tTupF (tCons (tCall spPlace [] E0 (tCons (tVar 1) (tCons (tVar 2) (tCons (tVar 6) tNil)))) tNil)) tNil))) tNil))))) (tRet (tC (V.bl false))) tNext)))) (tRet (tC (V.bl true)))) { nx := fun _ H' => Q .non H', rt := Q } [some (.ref d), some x, some y, some (.ref l), some (.int n'), some (.bl eb), none, none, none, none, none] H3 := by
        rintro _ rfl
        refine ⟨_, rfl, _, _, rfl, rfl, ((n' + 1 : Nat) : Int), by show [V.int ((n' : Int) + 1)] = _; rw [show (n' : Int) + 1 = ((n' + 1 : Nat) : Int) by omega], by omega, by omega, ?_⟩
        rw [Int.toNat_natCast]
        refine for_range (LnA d l x y n' (ends lo hi) H3) ⟨Same.refl _, _, _, _, _, _, rfl⟩ ?_ ?_
        · rintro i σ H4 hi' ⟨s4, v6, v7, v8, v9, v10, rfl⟩
          refine ⟨(by show 2 ≤ sizeLine; decide), fun tt H5 n5 s5 e5 => ?_⟩
          have s35 := s4.trans s5
          refine ⟨_, rfl, l, rfl, ⟨_, SqL.of (s35 _ _ l3)⟩, ?_⟩
          refine for_enumL (K := K) (a := l) (xs := xs) (LnB d l x y n' (ends lo hi) rs i H5)
            ⟨tt, 0, 1, _, _, _, rfl, Same.refl _, e5, by decide, by decide, by decide, fv_zero⟩ (fun k σ H6 _ h => by obtain ⟨_, _, _, _, _, _, _, s6, _⟩ := h; exact SqL.of (s6 _ _ (s35 _ _ l3))) ?_ ?_
          · rintro k z pr σ H6 hz hpr ⟨tr, T0, B0, w8, w9, w10, rfl, s6, aT, pB, bT, bB, vT⟩
            have hk : k < n' + 1 := by have := (List.getElem?_eq_some_iff.mp hz).1; omega
            obtain ⟨r, hr', a, rfl, at'⟩ := paired_get N3 hz
            have b := sz r (List.mem_of_getElem? hr')
            have nl := num_low r
            have s7 : Same H6 (upd H6 pr (.tup [.int k, .ref a])) := same_upd _ hpr
            have e7 : (upd H6 pr (.tup [.int k, .ref a])) pr = some (.tup [.int k, .ref a]) := upd_same
            generalize upd H6 pr (.tup [.int k, .ref a]) = H7 at s7 e7
            have s37 := s35.trans (s6.trans s7)
            refine (gT2 (SqT.of e7) rfl ?_)
            refine dShare (n := n') (k := k) (st := i) (e := ends lo hi) rfl rfl (by show some (some (V.int (0 + (i : Int)))) = _; rw [Int.zero_add]) rfl n8 (by omega) (by omega) ?_
            have bs := shI_abs n8 (show k ≤ n' by omega) (show i ≤ 8 by omega) (ends lo hi)
            have p9 : 0 < (r.den : Int) * 1 := by omega
            have m1 : (r.num * shI n' k i (ends lo hi)).natAbs < 2 ^ 2099 := abs_up (abs_mul b.1 bs) (by decide)
            have m2 : ((r.den : Int) * 1).natAbs < 2 ^ 2099 := by rw [Int.mul_one]; exact abs_up b.2 (by decide)
            refine dTot (T0 := T0) (B0 := B0) (n := r.num) (d := r.den) rfl rfl rfl (s7 _ _ aT) (s37 _ _ at') pB p9 (abs_up bT (by omega)) (abs_up bB (by omega)) (abs_up b.1 (by decide)) (abs_up b.2 (by decide)) (abs_up bs (by decide)) (abs_up m1 (by decide)) (abs_up m2 (by decide)) (fun r10 T' B' H10 s10 e10 pB' lB' eq => ?_)
            have bits := plus_bits pB p9 bT bB m1 m2 lB' eq
            refine ⟨r10, T', B', some (.int k), some (.ref a), some (.int (shI n' k i (ends lo hi))), rfl, s6.trans (s7.trans s10), e10, pB', ?_, ?_, ?_⟩
            · rw [show 1 + 2100 * (k + 1) = 1 + 2100 * k + 2099 + 1 by omega]; exact bits.1
            · rw [show 1 + 2100 * (k + 1) = 1 + 2100 * k + 2099 + 1 by omega]; exact bits.2
            · rw [fv_plus pB p9 pB' eq, vT, fv_mul nl.1 (by decide), fv_num, fv_one, shI_q]
              show _ = LwB.sm (fun k => rs.getD k 0 * shq n' k ((i : Int) : Rat) (ends lo hi)) k + rs.getD k 0 * shq n' k ((i : Int) : Rat) (ends lo hi)
              rw [List.getD_eq_getElem?_getD, hr']
              rfl
          · rintro σ H6 ⟨tr, T0, B0, w8, w9, w10, rfl, s6, aT, pB, bT, bB, vT⟩
            rw [lx] at bT bB vT
            rw [nok] at vT
            have s36 := s35.trans s6
            refine dFit (T0 := T0) (B0 := B0) (st := i) (lo := lo) (hi := hi) (c := c) rfl rfl rfl rfl (by show some (some (V.int (0 + (i : Int)))) = _; rw [Int.zero_add]) aT (x3.same s36) (y3.same s36) es (by omega) (D3.same s36) (fun j hj => sm.1 j hj) (abs_up bT (by omega)) (abs_up bB (by omega)) (fun t7 b7 T9 B9 p7 p9 v7 v9 => fv_inj pB p9 (by rw [vT, v9 n' dg, v7])) (fun H7 s69 => ?_)
            refine ⟨_, rfl, iteF ?_⟩
            exact ⟨s36.trans s69, _, _, _, _, _, rfl⟩
        · rintro σ H4 ⟨s4, v6, v7, v8, v9, v10, rfl⟩
          exact go H4 (s13.trans s4)
      refine ⟨_, rfl, rfl, _, rfl, ?_⟩
      have ex := end_dec x3
      have ey := end_dec y3
      rw [ex]
      cases hb : lo.isSome with
      | true => exact iteP rfl ⟨_, rfl, rfl, fin _ (by rw [← ends_eq, hb, ← ey]; rfl)⟩
      | false => exact iteN rfl (fin _ (by rw [← ends_eq, hb]; rfl))
end
end Lw

namespace Lw
open PySem PySem.Spec PyProof.Rows L2 LwQ
noncomputable def KD (H H' : Hp) : Prop := ∀ a u, H a = some u → (∀ xs, u ≠ .lst xs) → (∀ k, u ≠ .dT k) → H' a = some u
theorem KD.but {cl tp : Addr} {H H' : Hp} {B : Int} (T : Tape cl H tp B) (b : But tp H H') : KD H H' := fun x u h n _ => b x u h (T.ne h n).1
theorem KD.upd {H : Hp} {d : Addr} {k : List (List Key × V)} {o : HO} (e : H d = some (.dT k)) : KD H (upd H d o) := fun x u h _ n => by
  rw [upd_ne (fun y => by rw [y, e] at h; cases h; exact n _ rfl)]
  exact h
theorem FrzP.kd {H H' : Hp} {d : Addr} {c : Nat → Rat} {z : Nat → Nat} (h : FrzP H d c z) (k : KD H H') : FrzP H' d c z := by
  obtain ⟨E, o, e, r⟩ := h
  exact ⟨E, o, k _ _ e (fun _ y => by cases y) (fun _ y => by cases y), r.map fun _ _ q => k _ _ q (fun _ y => by cases y) (fun _ y => by cases y)⟩
theorem frz_up {H : Hp} {d : Addr} {E : List Ent} {c : Nat → Rat} {z : Nat → Nat} {o : Obj} (e : H d = some (.dT (E.map Ent.kv))) (R : RepE H E c z) : FrzP (upd H d (.frz o (.dT (E.map Ent.kv)))) d c z ∧ KD H (upd H d (.frz o (.dT (E.map Ent.kv)))) :=
  ⟨⟨E, o, upd_same, R.map fun _ _ q => KD.upd e _ _ q (fun _ y => by cases y) (fun _ y => by cases y)⟩, KD.upd e⟩
theorem KD.updL {H : Hp} {l : Addr} {xs : List V} {o : HO} (e : H l = some (.lst xs)) : KD H (L2.upd H l o) := fun x u h n _ => by
  rw [upd_ne (fun y => by rw [y, e] at h; cases h; exact n _ rfl)]
  exact h
theorem NumT.kd {H H' : Hp} {x : V} {r : Rat} (h : NumT H x r) (k : KD H H') : NumT H' x r := let ⟨a, e, q⟩ := h; ⟨a, e, k _ _ q (fun _ y => by cases y) (fun _ y => by cases y)⟩
theorem EndT.kd {H H' : Hp} {x : V} {o : Option Rat} (h : EndT H x o) (k : KD H H') : EndT H' x o := by
  cases o with
  | none => exact h
  | some r => exact NumT.kd h k
theorem Tape.frz {cl tp d : Addr} {H : Hp} {B : Int} {k : List (List Key × V)} {o : HO} (T : Tape cl H tp B) (e : H d = some (.dT k)) : Tape cl (L2.upd H d o) tp B :=
  let n := T.ne e (fun _ y => by cases y)
  T.upd o n.1 n.2 (Int.le_refl _)
theorem cut63 (ns : List Int) : ∃ ms : List Int, cutV (ns.map V.int) none (some 63) = ms.map V.int ∧ ms.length ≤ 63 := by
  refine ⟨(ns.drop (HT.sIx (ns.map V.int).length 0 none)).take (HT.sIx (ns.map V.int).length (ns.map V.int).length (some 63) - HT.sIx (ns.map V.int).length 0 none), ?_, ?_⟩
  · unfold cutV
    rw [← List.map_drop, ← List.map_take]
  · rw [List.length_take]
    have : HT.sIx (ns.map V.int).length (ns.map V.int).length (some 63) ≤ 63 := by
      have := HT.sIx_nat (ns.map V.int).length (ns.map V.int).length 63
      rw [show ((63 : Nat) : Int) = 63 from rfl] at this
      rw [this]
      exact Nat.min_le_left _ _
    omega

noncomputable def frD (r : Rat) : PyData := .tuple [.int r.num, .int r.den]
noncomputable def frL (rs : List Rat) : PyData := .list (rs.map frD)
theorem eqv_fr : ∀ rs : List Rat, PyData.eqvAll (rs.map frD) (rs.map frD) = true
  | [] => by simp [PyData.eqvAll]
  | r :: l => by
    have := eqv_fr l
    simp [PyData.eqvAll, PyData.eqv, frD, this]
theorem lay_fr : ∀ rs : List Rat, PyData.canLayAll0 (rs.map frD) = true
  | [] => by simp [PyData.canLayAll0]
  | r :: l => by
    have := lay_fr l
    simp [PyData.canLayAll0, PyData.canLay0, frD, this]
theorem depth_fr : ∀ rs : List Rat, PyData.depthAll (rs.map frD) ≤ 10
  | [] => by simp [PyData.depthAll]
  | r :: l => by
    have := depth_fr l
    simp [PyData.depthAll, PyData.depth, frD]
    omega
theorem frL_eqv (rs : List Rat) : PyData.eqv (frL rs) (frL rs) = true := by simp [frL, PyData.eqv, eqv_fr]
theorem frL_ok (rs : List Rat) : DataOk (frL rs) := by
  refine ⟨by simp [frL, PyData.canLay0, lay_fr], ?_⟩
  have := depth_fr rs
  simp [frL, PyData.depth]
  omega
theorem dec_frs {H : Hp} : ∀ {xs : List V} {rs : List Rat}, Paired (NumT H) xs rs → DecVs H xs (rs.map frD)
  | _, _, .nil => .nil
  | _, _, .cons ⟨a, e, q⟩ t => by
    subst e
    exact .cons (.tup q (.cons (.int _) (.cons (.int _) .nil))) (dec_frs t)
theorem dec_frL {H : Hp} {l : Addr} {xs : List V} {rs : List Rat} (e : H l = some (.lst xs)) (h : Paired (NumT H) xs rs) : DecV H (.ref l) (frL rs) := .lst e (dec_frs h)
theorem nums_zero {c : Nat → Rat} {lo hi : Option Rat} (h : ∀ j, c j = 0) (e : EndOk lo hi) : numsF (cL c 0) lo hi = [0] := by
  have e0 : cL c 0 = [0] := by
    show [c 0] = [0]
    rw [h 0]
  have t0 : lvT [0] = [0] := by
    show [(0 : Rat).num * (lvD [0] / ((0 : Rat).den : Int))] = [0]
    rw [show (0 : Rat).num = 0 from rfl, Int.zero_mul]
  have m0 : ∀ st pc : Rat, mvR [0] st pc = ([0], 1) := fun st pc => by
    unfold mvR
    rw [t0]
    rfl
  have f0 : ∀ B : Int, fv 0 B = 0 := fun B => by
    unfold fv
    have : ((0 : Int) : Rat) = 0 := rfl
    rw [this]
    grind
  rw [e0]
  unfold numsF
  match lo, hi, e with
  | some l, none, _ =>
    show ((mvR [0] l 1).1.map fun t => fv t (lvD [0] * (mvR [0] l 1).2)) = [0]
    rw [m0]
    show [fv 0 _] = [0]
    rw [f0]
  | none, some l, _ =>
    show ((mvR [0] l (-1)).1.map fun t => fv t (lvD [0] * (mvR [0] l (-1)).2)) = [0]
    rw [m0]
    show [fv 0 _] = [0]
    rw [f0]
  | some l, some h, _ =>
    show ((spRow (mvR [0] l (h - l)).1).map fun t => fv t (lvD [0] * (mvR [0] l (h - l)).2 * LwB.fct ((mvR [0] l (h - l)).1.length - 1))) = [0]
    rw [m0]
    have : spRow [0] = [0] := by decide
    rw [this]
    show [fv 0 _] = [0]
    rw [f0]
theorem drawn_sm {c : Nat → Rat} {m : Nat} (h : Drawn c m) (hm : m ≤ 9) : Sm c := by
  refine ⟨fun j hj => h.1 j (by omega), fun j => ?_⟩
  obtain ⟨t, u, u0, bt, bu, e⟩ := h.2 j
  have d := den_dvd u0 e
  have := Int.le_of_dvd u0 d.1
  exact ⟨by omega, Nat.lt_of_le_of_lt d.2 bt⟩
end Lw

namespace Lw
open PySem PySem.Spec PyProof.Rows L2 LwQ
noncomputable def spLaw55 (K : PySem.W.Frag) : Sp := fun vs H Q _ => ∃ (a : Addr) (ns : List Int), vs = [.ref a] ∧ SqL K H a (ns.map V.int) ∧ ns.length ≤ 63 ∧ ∀ H', Q (.bl true) H'
theorem dTold {K : PySem.W.Frag} {d : Addr} {x y : V} {c : Nat → Rat} {s : Nat → Nat} {lo hi : Option Rat} {H : Hp} {Q : VK} {σ : L2.St} (e3 : σ[3]? = some (some (.ref d))) (e4 : σ[4]? = some (some x)) (e5 : σ[5]? = some (some y)) (F : FrzP H d c s) (hs : ∀ n, s n ≤ 8000) (sm : Sm c) (ex : EndT H x lo) (ey : EndT H y hi) (es : EndOk lo hi)
    (k : ∀ (l : Addr) (n : Nat) (xs : List V) (H' : Hp), H l = none → Same H H' → IsDeg c n → H' l = some (.lst xs) → Paired (NumT H') xs (numsF (cL c n) lo hi) → Q (.ref l) H') : tCall (spNums K) [] E0 (tCons (tCall spLSum [] E0 (tCons (tC (.int 1)) (tCons (tVar 3) tNil))) (tCons (tVar 4) (tCons (tVar 5) tNil))) σ H Q :=
  ⟨_, e3, d, c, s, rfl, F, hs, fun p H9 n9 s9 S9 => ⟨_, e4, _, e5, p, x, y, c, lo, hi, rfl, S9, sm, (ex.same s9).v, (ey.same s9).v, es, fun l n xs H10 n10 s10 dg e10 pr => k l n xs H10 (s9.free n10) (s9.trans s10) dg e10 pr⟩⟩
theorem dLn {d l : Addr} {x y : V} {xs : List V} {c : Nat → Rat} {lo hi : Option Rat} {n : Nat} {H : Hp} {Q : VK} {σ : L2.St} (e3 : σ[3]? = some (some (.ref d))) (e4 : σ[4]? = some (some x)) (e5 : σ[5]? = some (some y)) (e6 : σ[6]? = some (some (.ref l))) (a1 : FrzP H d c (fun _ => 40)) (a2 : Sm c) (a3 : IsDeg c n) (a4 : EndT H x lo) (a5 : EndT H y hi) (a6 : EndS lo hi) (a7 : H l = some (.lst xs)) (a8 : Paired (NumT H) xs (numsF (cL c n) lo hi)) (k : ∀ H', Same H H' → Q (.bl true) H') : tCall spLNums [] E0 (tCons (tVar 3) (tCons (tVar 4) (tCons (tVar 5) (tCons (tVar 6) tNil)))) σ H Q := ⟨_, e3, _, e4, _, e5, _, e6, d, l, x, y, xs, c, lo, hi, n, rfl, a1, a2, a3, a4, a5, a6, a7, a8, k⟩
theorem dPoly {tp cl : Addr} {most : Nat} {B : Int} {H : Hp} {Q : VK} {σ : L2.St} (e1 : σ[1]? = some (some (.ref tp))) (e2 : σ[2]? = some (some (.int most))) (h1 : most ≤ 10) (T : Tape cl H tp B) (h2 : B < 2 ^ 30)
    (k : ∀ (d : Addr) (c : Nat → Rat) (H' : Hp), H d = none → But tp H H' → Tape cl H' tp (B + 200) → DictP H' d c (fun _ => 40) → Drawn c (most + 1) → Q (.ref d) H') : tCall spPoly [] E0 (tCons (tVar 1) (tCons (tVar 2) tNil)) σ H Q := ⟨_, e1, _, e2, tp, most, B, rfl, h1, cl, T, h2, k⟩
theorem dStretch {tp cl : Addr} {B : Int} {H : Hp} {Q : VK} {σ : L2.St} (e1 : σ[1]? = some (some (.ref tp))) (T : Tape cl H tp B) (h2 : B < 2 ^ 30)
    (k : ∀ (r : Addr) (x y : V) (lo hi : Option Rat) (H' : Hp), H r = none → H' r = some (.tup [x, y]) → EndT H' x lo → EndT H' y hi → EndS lo hi → Tape cl H' tp (B + 13) → But tp H H' → Q (.ref r) H') : tCall spStretch [] E0 (tCons (tVar 1) tNil) σ H Q := ⟨_, e1, tp, B, rfl, cl, T, h2, k⟩
inductive LwI (cl tp lm a : Addr) (i : Nat) (σ : L2.St) (H5 : Hp) : Prop
  | mk (t : Tape cl H5 tp (1000 * i)) (e : H5 lm = some (.lst [.int 3, .int 8])) (v2 v3 v4 v5 v6 v7 : Option V) : σ = [some (.ref a), some (.ref tp), v2, v3, v4, v5, v6, v7] → LwI cl tp lm a i σ H5
inductive LwJ (a tp d l : Addr) (x y : V) (most : Nat) (v7 : Option V) (H10 : Hp) (σ : L2.St) (H11 : Hp) : Prop
  | mk : σ = [some (.ref a), some (.ref tp), some (.int most), some (.ref d), some x, some y, some (.ref l), v7] → Same H10 H11 → LwJ a tp d l x y most v7 H10 σ H11
section
variable {P : Program} {w : World} {K : PySem.W.Frag} {mg : Str → Option Value} {base : Heap} {f fd : _}
theorem scLaw : FnScope ["script", "tape", "most", "one", "low", "high", "told", "due"] ["script"] (defScope sLaw) := ⟨rfl, rfl, rfl, by decide +kernel, rfl, by decide +kernel, by decide +kernel⟩
structure Calls55 (P : Program) (w : World) (K : PySem.W.Frag) (mg : Str → Option Value) (base : Heap) (fP fS fN fL fC : Addr) (fdP fdS fdN fdL fdC : FuncData) : Prop where
  DP : Df K mg "_law_poly" sPoly ["tape", "most"] fP fdP
  GP : FnOk P w K mg base CX0 3 fP fdP ["tape", "most"] spPoly
  DS : Df K mg "_law_sum" sLSum ["many", "one"] fS fdS
  GS : FnOk P w K mg base CX0 2 fS fdS ["many", "one"] spLSum
  DN : Df K mg "numbers" sNums ["one", "low", "high"] fN fdN
  GN : FnOk P w K mg base CX0 7 fN fdN ["one", "low", "high"] (spNums K)
  DL : Df K mg "_law_numbers" sLNums ["one", "low", "high", "told"] fL fdL
  GL : FnOk P w K mg base CX0 3 fL fdL ["one", "low", "high", "told"] spLNums
  DC : Df K mg "_law_stretch" sStretch ["tape"] fC fdC
  GC : FnOk P w K mg base CX0 3 fC fdC ["tape"] spStretch
theorem ok_law {fP fS fN fL fC : Addr} {fdP fdS fdN fdL fdC : FuncData} (F : Fun K "law" "law" sLaw f fd) (T : Txt mg) (C : Calls55 P w K mg base fP fS fN fL fC fdP fdS fdN fdL fdC) : FnOk P w K mg base CX0 8 f fd ["script"] (spLaw55 K) := by
  refine F.ok scLaw (fun vs H Q E h => ?_) (fun cdv A outer s H vs Q E hr h => ?_)
  · obtain ⟨a, ns, rfl, _⟩ := h
    rfl
  · obtain ⟨a, ns, rfl, hS, h63, go⟩ := h
    have hr2 : Room 2 _ := hr.mono (by decide)
    have hr3 : Room 3 _ := hr.mono (by decide)
    have hu : _ + 64 < cLine := hr.units
    refine ⟨_, pss_cons (ps_set (i := 1) scLaw.nd rfl (Or.inl rfl) (pe_lstF (pa_cons (pe_callTy call_listF (by rfl) T.lst boot_list (pa_cons (pe_slice sl_listF (pv 0) po_none (po_some pe_int)) pa_nil)) (pa_cons pe_int (pa_cons pe_int (pa_cons pe_int pa_nil))))))
      (pss_cons (ps_for PassesOwn.never rfl (pi_list (pe_lstF (pa_cons pe_int (pa_cons pe_int pa_nil)))) (pg_name (i := 2) scLaw.nd rfl (Or.inl rfl))
        (pss_cons (ps_set (i := 3) scLaw.nd rfl (Or.inl rfl) (LwD.pe_frz (pe_call C.GP hr3 rfl C.DP.m C.DP.F.kp C.DP.b .nil pass0 (pa_cons (pv 1) (pa_cons (pv 2) pa_nil)))))
        (pss_cons (ps_asg (pe_call C.GC hr3 rfl C.DC.m C.DC.F.kp C.DC.b .nil pass0 (pa_cons (pv 1) pa_nil)) (pg_tup rfl (pgs_cons (pg_name (i := 4) scLaw.nd rfl (Or.inl rfl)) (pgs_cons (pg_name (i := 5) scLaw.nd rfl (Or.inl rfl)) pgs_nil))))
        (pss_cons (ps_set (i := 6) scLaw.nd rfl (Or.inl rfl) (pe_call C.GN hr rfl C.DN.m C.DN.F.kp C.DN.b .nil pass0 (pa_cons (pe_call C.GS hr2 rfl C.DS.m C.DS.F.kp C.DS.b .nil pass0 (pa_cons pe_int (pa_cons (pv 3) pa_nil))) (pa_cons (pv 4) (pa_cons (pv 5) pa_nil)))))
        (pss_cons (ps_if (pt_cmpR (LwD.op_eqE hr.units0) (pv 3) pe_dnewT (nomark _))
          (pss_one (ps_if (pt_cmpR (op_neD hu) (pv 6) (pe_lstF (pa_cons (pe_tupF (pa_cons pe_int (pa_cons pe_int pa_nil))) pa_nil)) (nomark _)) (pss_one (ps_ret pe_bl)) pss_nil))
          (pss_one (ps_if (pt_not (pt_val (pe_call C.GL hr3 rfl C.DL.m C.DL.F.kp C.DL.b .nil pass0 (pa_cons (pv 3) (pa_cons (pv 4) (pa_cons (pv 5) (pa_cons (pv 6) pa_nil))))))) (pss_one (ps_ret pe_bl)) pss_nil)))
        (pss_cons (ps_set (i := 7) scLaw.nd rfl (Or.inl rfl) (pe_callTy call_listF (by rfl) T.lst boot_list (pa_cons (pv 6) pa_nil)))
        (pss_cons (ps_expr (pe_bm PySem.F.plainAttrs_list PySem.F.slot_list_append PySem.F.type_list_append mt_append (pv 6) (pa_cons pe_int pa_nil)))
        (pss_one (ps_if (pt_cmpR (op_neD hu) (pe_call C.GN hr rfl C.DN.m C.DN.F.kp C.DN.b .nil pass0 (pa_cons (pe_call C.GS hr2 rfl C.DS.m C.DS.F.kp C.DS.b .nil pass0 (pa_cons pe_int (pa_cons (pv 3) pa_nil))) (pa_cons (pv 4) (pa_cons (pv 5) pa_nil)))) (pv 7) (nomark _)) (pss_one (ps_ret pe_bl)) pss_nil)))))))))
      (pss_one (ps_ret pe_bl))), ?_⟩
    try dsimp only [cxK]
    obtain ⟨cs0, em, hm⟩ := cut63 ns
    refine ⟨_, rfl, _, rfl, a, _, rfl, hS, fun p1 H1 n1 s1 e1 => ?_⟩
    refine ⟨p1, _, rfl, .inl (SqL.of e1), fun cl H2 n2 s2 e2 => ⟨(by show 4 ≤ sizeLine; decide), fun tp H3 n3 s3 e3 => ?_⟩⟩
    have T3 : Tape cl H3 tp 0 := ⟨cs0, 0, 0, 0, e3, by rw [s3 _ _ e2, em], hm, by decide, by decide⟩
    refine ⟨(by show 2 ≤ sizeLine; decide), fun lm H4 n4 s4 e4 => ?_⟩
    have T4 := T3.mono s4 (Int.le_refl _)
    have lmt := T3.off n4
    refine ⟨lm, rfl, ⟨_, SqL.of e4⟩, for_list (K := K) (a := lm) (xs := [.int 3, .int 8]) (LwI cl tp lm a) ⟨T4.mono (Same.refl _) (by omega), e4, _, _, _, _, _, _, rfl⟩ (fun i σ H5 _ h => by obtain ⟨_, e, _⟩ := h; exact SqL.of e) ?_ ?_⟩
    · rintro i x σ H5 hx ⟨T5, e5, v2, v3, v4, v5, v6, v7, rfl⟩
      obtain ⟨most, rfl, m8, hi2⟩ : ∃ most : Nat, x = .int most ∧ most ≤ 8 ∧ i < 2 := by
        match i, hx with
        | 0, hx => cases hx; exact ⟨3, rfl, by decide, by decide⟩
        | 1, hx => cases hx; exact ⟨8, rfl, by decide, by decide⟩
        | _ + 2, hx => cases hx
      refine dPoly (most := most) rfl rfl (by omega) T5 (by omega) (fun d c H6 n6 b6 T6 D6 r6 => ?_)
      have sm := drawn_sm r6 (by omega)
      obtain ⟨EE, eE, R6⟩ := D6
      refine ⟨d, _, rfl, eE, fun o => ?_⟩
      have f1 := frz_up (o := o) eE R6
      have T7 := T6.frz (o := .frz o (.dT (EE.map Ent.kv))) eE
      have dlm : lm ≠ d := fun z => by rw [z, n6] at e5; cases e5
      have e7 : (upd H6 d (.frz o (.dT (EE.map Ent.kv)))) lm = some (.lst [.int 3, .int 8]) := by
        rw [upd_ne dlm]
        exact b6 _ _ e5 lmt.1
      have F7 := f1.1
      generalize upd H6 d (.frz o (.dT (EE.map Ent.kv))) = H7 at T7 e7 F7
      refine dStretch rfl T7 (by omega) (fun r x y lo hi H8 n8 e8 ex ey es T8 b8 => ?_)
      have F8 := F7.kd (KD.but T7 b8)
      have e8' := b8 _ _ e7 lmt.1
      refine (gT2 (SqT.of e8) rfl ?_)
      refine dTold rfl rfl rfl F8 (fun _ => by decide) sm ex ey es.ok (fun l n xs H10 n10 s810 dg e10 pr => ?_)
      have F10 := F8.same s810
      have T10 := T8.mono s810 (Int.le_refl _)
      have lt := T8.off n10
      have llm : lm ≠ l := fun z => by
        have := e8'
        rw [z, n10] at this
        cases this
      have n8' := deg_sm sm dg
      have lx : xs.length = n + 1 := by rw [Paired.length pr, nums_len sm n8' es.ok]
      dsimp only [gName]
      refine seq_join (t := tIfS _ _ _) (LwJ a tp d l x y most v7 H10) ?_ (fun join => ?_)
      · rintro σ H11 ⟨rfl, s11⟩
        refine ⟨_, rfl, l, xs, rfl, .inl (SqL.of (s11 _ _ e10)), fun dl H12 n12 s12 e12 => ?_⟩
        have s1012 := s11.trans s12
        have l12 := s1012 _ _ e10
        refine ⟨_, rfl, .inl ⟨rfl, _, SqL.of l12⟩, l, xs, _, rfl, rfl, l12, by rw [lx]; exact Nat.lt_of_le_of_lt (show n + 1 ≤ 24 by omega) (by decide), ?_⟩
        have k13 : KD H12 (upd H12 l (.lst (xs ++ [.int 0]))) := KD.updL l12
        have dll : dl ≠ l := fun z => by
          have := s11 _ _ e10
          rw [← z, n12] at this
          cases this
        have e13 : (upd H12 l (.lst (xs ++ [.int 0]))) dl = some (.lst xs) := by rw [upd_ne dll]; exact e12
        have T13 : Tape cl (upd H12 l (.lst (xs ++ [.int 0]))) tp (1000 * i + 200 + 13) := (T10.mono s1012 (Int.le_refl _)).upd _ lt.1 lt.2 (Int.le_refl _)
        have lm13 : (upd H12 l (.lst (xs ++ [.int 0]))) lm = some (.lst [.int 3, .int 8]) := by
          rw [upd_ne llm]
          exact s1012 _ _ (s810 _ _ e8')
        have F13 := (F10.same s1012).kd k13
        have x13 := (ex.same (s810.trans s1012)).kd k13
        have y13 := (ey.same (s810.trans s1012)).kd k13
        have pr13 : Paired (NumT (upd H12 l (.lst (xs ++ [.int 0])))) xs (numsF (cL c n) lo hi) := Paired.mono (fun _ _ q => (NumT.same q s1012).kd k13) pr
        generalize upd H12 l (.lst (xs ++ [.int 0])) = H13 at k13 e13 T13 lm13 F13 x13 y13 pr13
        refine dTold rfl rfl rfl F13 (fun _ => by decide) sm x13 y13 es.ok (fun l2 n2 xs2 H15 n15 s1315 dg2 e15 pr15 => ?_)
        obtain rfl := dg2.uniq dg
        refine ⟨_, rfl, _, _, dec_frL e15 pr15, dec_frL (s1315 _ _ e13) (Paired.mono (fun _ _ q => NumT.same q s1315) pr13), frL_ok _, frL_ok _, _, rfl, iteN ?_ ?_⟩
        · rw [frL_eqv]
          rfl
        · refine ⟨T13.mono s1315 (by omega), s1315 _ _ lm13, _, _, _, _, _, _, rfl⟩
      · obtain ⟨E2, o2, eF, R2⟩ := F10
        refine ⟨_, rfl, fun z nz => ⟨d, z, E2.map Ent.kv, rfl, rfl, .inr ⟨o2, ?_⟩, .inl upd_same, _, rfl, ?_⟩⟩
        · rw [upd_ne (fun q => by rw [← q, eF] at nz; cases nz)]
          exact eF
        have s11 : Same H10 (upd H10 z (.dT [])) := same_upd _ nz
        generalize upd H10 z (.dT []) = H11 at s11
        cases hE : E2 with
        | nil =>
          refine iteP rfl ?_
          subst hE
          have c0 : ∀ j, c j = 0 := fun j => R2.out fun e he => nomatch he
          have n0 : n = 0 := by
            rcases dg.2 with z | z
            · exact z
            · exact absurd (c0 n) z
          subst n0
          rw [nums_zero c0 es.ok] at pr
          refine ⟨_, rfl, (by show 2 ≤ sizeLine; decide), fun q1 H12 n12 s12 e12 => ⟨(by show 1 ≤ sizeLine; decide), fun q2 H13 n13 s13 e13 => ?_⟩⟩
          have s1013 := s11.trans (s12.trans s13)
          refine ⟨_, _, dec_frL (s1013 _ _ e10) (Paired.mono (fun _ _ q => NumT.same q s1013) pr), dec_frL (rs := [0]) e13 (.cons ⟨q1, rfl, s13 _ _ e12⟩ .nil), frL_ok _, frL_ok _, _, rfl, iteN ?_ ?_⟩
          · rw [frL_eqv]
            rfl
          · exact join _ _ ⟨rfl, s1013⟩
        | cons e0 er =>
          refine iteN rfl ?_
          refine dLn rfl rfl rfl rfl (FrzP.same (H := H10) (H' := H11) ⟨E2, o2, eF, R2⟩ s11) sm dg (ex.same (s810.trans s11)) (ey.same (s810.trans s11)) es (s11 _ _ e10) (Paired.mono (fun _ _ q => NumT.same q s11) pr) (fun H12 s12 => ?_)
          refine ⟨_, rfl, iteF ?_⟩
          exact join _ _ ⟨rfl, s11.trans s12⟩
    · rintro σ H5 ⟨T5, e5, v2, v3, v4, v5, v6, v7, rfl⟩
      exact go H5
end
end Lw

namespace Lw
open PySem PySem.Spec PyProof.Rows L2
theorem len1 {us : List Value} (h : us.length = 1) : ∃ a, us = [a] := by cases us with | nil => cases h | cons a r => have e : r = [] := List.length_eq_zero_iff.mp (by simpa using h); subst e; exact ⟨a, rfl⟩
theorem len2 {us : List Value} (h : us.length = 2) : ∃ a b, us = [a, b] := by cases us with | nil => cases h | cons a r => obtain ⟨b, rfl⟩ := len1 (us := r) (by simpa using h); exact ⟨a, b, rfl⟩
theorem len3 {us : List Value} (h : us.length = 3) : ∃ a b c, us = [a, b, c] := by cases us with | nil => cases h | cons a r => obtain ⟨b, c, rfl⟩ := len2 (us := r) (by simpa using h); exact ⟨a, b, c, rfl⟩
theorem len4 {us : List Value} (h : us.length = 4) : ∃ a b c d, us = [a, b, c, d] := by cases us with | nil => cases h | cons a r => obtain ⟨b, c, d, rfl⟩ := len3 (us := r) (by simpa using h); exact ⟨a, b, c, d, rfl⟩
theorem all_mk {l : PySem.W.OpenLaw} {w : World} {K : PySem.W.Frag} {h : Heap} {mg : Str → Option Value} {fa f1 f2 f3 f4 f5 f6 f7 f8 f9 f10 f11 f12 f13 f14 f15 f16 f17 f18 f19 f20 f21 f22 f23 f24 f25 f26 f27 f28 f29 f30 f31 nA oA : Addr} (X : K.In h) (G : h.Ns mainGlobals mg) (hfa : mg "law" = some (.ref fa))
    {od1 an1 od2 an2 od3 an3 od4 an4 od5 an5 od6 an6 od7 an7 od8 an8 od9 an9 od10 an10 od11 an11 od12 an12 od13 an13 od14 an14 od15 an15 od16 an16 od17 an17 od18 an18 od19 an19 od20 an20 od21 an21 od22 an22 od23 an23 od24 an24 od25 an25 od26 an26 od27 an27 od28 an28 od29 an29 od30 an30 od31 an31 odN odO : Option Addr} {sl1 sl2 sl3 sl4 sl5 sl6 sl7 sl8 sl9 sl10 sl11 sl12 sl13 sl14 sl15 sl16 sl17 sl18 sl19 sl20 sl21 sl22 sl23 sl24 sl25 sl26 sl27 sl28 sl29 sl30 sl31 slN slO : Array (Option Value)} {nN nO : Nat}
    {oc1 kV1 dc1 pm1 cd1 ct1 oc2 kV2 dc2 pm2 cd2 ct2 oc3 kV3 dc3 pm3 cd3 ct3 oc4 kV4 dc4 pm4 cd4 ct4 oc5 kV5 dc5 pm5 cd5 ct5 oc6 kV6 dc6 pm6 cd6 ct6 oc7 kV7 dc7 pm7 cd7 ct7 oc8 kV8 dc8 pm8 cd8 ct8 oc9 kV9 dc9 pm9 cd9 ct9 oc10 kV10 dc10 pm10 cd10 ct10 oc11 kV11 dc11 pm11 cd11 ct11 oc12 kV12 dc12 pm12 cd12 ct12 oc13 kV13 dc13 pm13 cd13 ct13 oc14 kV14 dc14 pm14 cd14 ct14 oc15 kV15 dc15 pm15 cd15 ct15 oc16 kV16 dc16 pm16 cd16 ct16 oc17 kV17 dc17 pm17 cd17 ct17 oc18 kV18 dc18 pm18 cd18 ct18 oc19 kV19 dc19 pm19 cd19 ct19 oc20 kV20 dc20 pm20 cd20 ct20 oc21 kV21 dc21 pm21 cd21 ct21 oc22 kV22 dc22 pm22 cd22 ct22 oc23 kV23 dc23 pm23 cd23 ct23 oc24 kV24 dc24 pm24 cd24 ct24 oc25 kV25 dc25 pm25 cd25 ct25 oc26 kV26 dc26 pm26 cd26 ct26 oc27 kV27 dc27 pm27 cd27 ct27 oc28 kV28 dc28 pm28 cd28 ct28 oc29 kV29 dc29 pm29 cd29 ct29 oc30 kV30 dc30 pm30 cd30 ct30 oc31 kV31 dc31 pm31 cd31 ct31 : Value}
    (a1 : PySem.W.nsIn K mainGlobals "greatest_divisor" = some (some (.ref f1))) (l1 : K.lookup f1 = some ⟨oc1, od1, .func (PySem.W.fnOf "greatest_divisor" "greatest_divisor" (defArgs sGcd) (defBody sGcd) (defScope sGcd) .none kV1 dc1 pm1 an1 cd1 ct1), sl1⟩) (c1 : PySem.W.codeIn K cd1 "greatest_divisor" = true) (k1 : PySem.W.keepIn K (.ref f1) = true)
    (a2 : PySem.W.nsIn K mainGlobals "added" = some (some (.ref f2))) (l2 : K.lookup f2 = some ⟨oc2, od2, .func (PySem.W.fnOf "added" "added" (defArgs sAdded) (defBody sAdded) (defScope sAdded) .none kV2 dc2 pm2 an2 cd2 ct2), sl2⟩) (c2 : PySem.W.codeIn K cd2 "added" = true) (k2 : PySem.W.keepIn K (.ref f2) = true)
    (a3 : PySem.W.nsIn K mainGlobals "less" = some (some (.ref f3))) (l3 : K.lookup f3 = some ⟨oc3, od3, .func (PySem.W.fnOf "less" "less" (defArgs sLess) (defBody sLess) (defScope sLess) .none kV3 dc3 pm3 an3 cd3 ct3), sl3⟩) (c3 : PySem.W.codeIn K cd3 "less" = true) (k3 : PySem.W.keepIn K (.ref f3) = true)
    (a4 : PySem.W.nsIn K mainGlobals "multiplied" = some (some (.ref f4))) (l4 : K.lookup f4 = some ⟨oc4, od4, .func (PySem.W.fnOf "multiplied" "multiplied" (defArgs sMul) (defBody sMul) (defScope sMul) .none kV4 dc4 pm4 an4 cd4 ct4), sl4⟩) (c4 : PySem.W.codeIn K cd4 "multiplied" = true) (k4 : PySem.W.keepIn K (.ref f4) = true)
    (a5 : PySem.W.nsIn K mainGlobals "divided" = some (some (.ref f5))) (l5 : K.lookup f5 = some ⟨oc5, od5, .func (PySem.W.fnOf "divided" "divided" (defArgs sDiv) (defBody sDiv) (defScope sDiv) .none kV5 dc5 pm5 an5 cd5 ct5), sl5⟩) (c5 : PySem.W.codeIn K cd5 "divided" = true) (k5 : PySem.W.keepIn K (.ref f5) = true)
    (a6 : PySem.W.nsIn K mainGlobals "degree" = some (some (.ref f6))) (l6 : K.lookup f6 = some ⟨oc6, od6, .func (PySem.W.fnOf "degree" "degree" (defArgs sDegree) (defBody sDegree) (defScope sDegree) .none kV6 dc6 pm6 an6 cd6 ct6), sl6⟩) (c6 : PySem.W.codeIn K cd6 "degree" = true) (k6 : PySem.W.keepIn K (.ref f6) = true)
    (a7 : PySem.W.nsIn K mainGlobals "level" = some (some (.ref f7))) (l7 : K.lookup f7 = some ⟨oc7, od7, .func (PySem.W.fnOf "level" "level" (defArgs sLevel) (defBody sLevel) (defScope sLevel) .none kV7 dc7 pm7 an7 cd7 ct7), sl7⟩) (c7 : PySem.W.codeIn K cd7 "level" = true) (k7 : PySem.W.keepIn K (.ref f7) = true)
    (a8 : PySem.W.nsIn K mainGlobals "all_powers" = some (some (.ref f8))) (l8 : K.lookup f8 = some ⟨oc8, od8, .func (PySem.W.fnOf "all_powers" "all_powers" (defArgs sNumbers) (defBody sNumbers) (defScope sNumbers) .none kV8 dc8 pm8 an8 cd8 ct8), sl8⟩) (c8 : PySem.W.codeIn K cd8 "all_powers" = true) (k8 : PySem.W.keepIn K (.ref f8) = true)
    (a9 : PySem.W.nsIn K mainGlobals "moved" = some (some (.ref f9))) (l9 : K.lookup f9 = some ⟨oc9, od9, .func (PySem.W.fnOf "moved" "moved" (defArgs sMoved) (defBody sMoved) (defScope sMoved) .none kV9 dc9 pm9 an9 cd9 ct9), sl9⟩) (c9 : PySem.W.codeIn K cd9 "moved" = true) (k9 : PySem.W.keepIn K (.ref f9) = true)
    (a10 : PySem.W.nsIn K mainGlobals "factorial" = some (some (.ref f10))) (l10 : K.lookup f10 = some ⟨oc10, od10, .func (PySem.W.fnOf "factorial" "factorial" (defArgs sFact) (defBody sFact) (defScope sFact) .none kV10 dc10 pm10 an10 cd10 ct10), sl10⟩) (c10 : PySem.W.codeIn K cd10 "factorial" = true) (k10 : PySem.W.keepIn K (.ref f10) = true)
    (a11 : PySem.W.nsIn K mainGlobals "spread" = some (some (.ref f11))) (l11 : K.lookup f11 = some ⟨oc11, od11, .func (PySem.W.fnOf "spread" "spread" (defArgs sSpread) (defBody sSpread) (defScope sSpread) .none kV11 dc11 pm11 an11 cd11 ct11), sl11⟩) (c11 : PySem.W.codeIn K cd11 "spread" = true) (k11 : PySem.W.keepIn K (.ref f11) = true)
    (a12 : PySem.W.nsIn K mainGlobals "raw_numbers" = some (some (.ref f12))) (l12 : K.lookup f12 = some ⟨oc12, od12, .func (PySem.W.fnOf "raw_numbers" "raw_numbers" (defArgs sRaw) (defBody sRaw) (defScope sRaw) .none kV12 dc12 pm12 an12 cd12 ct12), sl12⟩) (c12 : PySem.W.codeIn K cd12 "raw_numbers" = true) (k12 : PySem.W.keepIn K (.ref f12) = true)
    (a13 : PySem.W.nsIn K mainGlobals "numbers" = some (some (.ref f13))) (l13 : K.lookup f13 = some ⟨oc13, od13, .func (PySem.W.fnOf "numbers" "numbers" (defArgs sNums) (defBody sNums) (defScope sNums) .none kV13 dc13 pm13 an13 cd13 ct13), sl13⟩) (c13 : PySem.W.codeIn K cd13 "numbers" = true) (k13 : PySem.W.keepIn K (.ref f13) = true)
    (a14 : PySem.W.nsIn K mainGlobals "_law_draw" = some (some (.ref f14))) (l14 : K.lookup f14 = some ⟨oc14, od14, .func (PySem.W.fnOf "_law_draw" "_law_draw" (defArgs sDraw) (defBody sDraw) (defScope sDraw) .none kV14 dc14 pm14 an14 cd14 ct14), sl14⟩) (c14 : PySem.W.codeIn K cd14 "_law_draw" = true) (k14 : PySem.W.keepIn K (.ref f14) = true)
    (a15 : PySem.W.nsIn K mainGlobals "_law_low" = some (some (.ref f15))) (l15 : K.lookup f15 = some ⟨oc15, od15, .func (PySem.W.fnOf "_law_low" "_law_low" (defArgs sLow) (defBody sLow) (defScope sLow) .none kV15 dc15 pm15 an15 cd15 ct15), sl15⟩) (c15 : PySem.W.codeIn K cd15 "_law_low" = true) (k15 : PySem.W.keepIn K (.ref f15) = true)
    (a16 : PySem.W.nsIn K mainGlobals "_law_plus" = some (some (.ref f16))) (l16 : K.lookup f16 = some ⟨oc16, od16, .func (PySem.W.fnOf "_law_plus" "_law_plus" (defArgs sPlus) (defBody sPlus) (defScope sPlus) .none kV16 dc16 pm16 an16 cd16 ct16), sl16⟩) (c16 : PySem.W.codeIn K cd16 "_law_plus" = true) (k16 : PySem.W.keepIn K (.ref f16) = true)
    (a17 : PySem.W.nsIn K mainGlobals "_law_mul" = some (some (.ref f17))) (l17 : K.lookup f17 = some ⟨oc17, od17, .func (PySem.W.fnOf "_law_mul" "_law_mul" (defArgs sLMul) (defBody sLMul) (defScope sLMul) .none kV17 dc17 pm17 an17 cd17 ct17), sl17⟩) (c17 : PySem.W.codeIn K cd17 "_law_mul" = true) (k17 : PySem.W.keepIn K (.ref f17) = true)
    (a18 : PySem.W.nsIn K mainGlobals "_law_like" = some (some (.ref f18))) (l18 : K.lookup f18 = some ⟨oc18, od18, .func (PySem.W.fnOf "_law_like" "_law_like" (defArgs sLike) (defBody sLike) (defScope sLike) .none kV18 dc18 pm18 an18 cd18 ct18), sl18⟩) (c18 : PySem.W.codeIn K cd18 "_law_like" = true) (k18 : PySem.W.keepIn K (.ref f18) = true)
    (a19 : PySem.W.nsIn K mainGlobals "_law_at" = some (some (.ref f19))) (l19 : K.lookup f19 = some ⟨oc19, od19, .func (PySem.W.fnOf "_law_at" "_law_at" (defArgs sAt) (defBody sAt) (defScope sAt) .none kV19 dc19 pm19 an19 cd19 ct19), sl19⟩) (c19 : PySem.W.codeIn K cd19 "_law_at" = true) (k19 : PySem.W.keepIn K (.ref f19) = true)
    (a20 : PySem.W.nsIn K mainGlobals "_law_sum" = some (some (.ref f20))) (l20 : K.lookup f20 = some ⟨oc20, od20, .func (PySem.W.fnOf "_law_sum" "_law_sum" (defArgs sLSum) (defBody sLSum) (defScope sLSum) .none kV20 dc20 pm20 an20 cd20 ct20), sl20⟩) (c20 : PySem.W.codeIn K cd20 "_law_sum" = true) (k20 : PySem.W.keepIn K (.ref f20) = true)
    (a21 : PySem.W.nsIn K mainGlobals "_law_more" = some (some (.ref f21))) (l21 : K.lookup f21 = some ⟨oc21, od21, .func (PySem.W.fnOf "_law_more" "_law_more" (defArgs sMore) (defBody sMore) (defScope sMore) .none kV21 dc21 pm21 an21 cd21 ct21), sl21⟩) (c21 : PySem.W.codeIn K cd21 "_law_more" = true) (k21 : PySem.W.keepIn K (.ref f21) = true)
    (a22 : PySem.W.nsIn K mainGlobals "_law_is_number" = some (some (.ref f22))) (l22 : K.lookup f22 = some ⟨oc22, od22, .func (PySem.W.fnOf "_law_is_number" "_law_is_number" (defArgs sNum) (defBody sNum) (defScope sNum) .none kV22 dc22 pm22 an22 cd22 ct22), sl22⟩) (c22 : PySem.W.codeIn K cd22 "_law_is_number" = true) (k22 : PySem.W.keepIn K (.ref f22) = true)
    (a23 : PySem.W.nsIn K mainGlobals "_law_number" = some (some (.ref f23))) (l23 : K.lookup f23 = some ⟨oc23, od23, .func (PySem.W.fnOf "_law_number" "_law_number" (defArgs sNumber) (defBody sNumber) (defScope sNumber) .none kV23 dc23 pm23 an23 cd23 ct23), sl23⟩) (c23 : PySem.W.codeIn K cd23 "_law_number" = true) (k23 : PySem.W.keepIn K (.ref f23) = true)
    (a24 : PySem.W.nsIn K mainGlobals "_law_poly" = some (some (.ref f24))) (l24 : K.lookup f24 = some ⟨oc24, od24, .func (PySem.W.fnOf "_law_poly" "_law_poly" (defArgs sPoly) (defBody sPoly) (defScope sPoly) .none kV24 dc24 pm24 an24 cd24 ct24), sl24⟩) (c24 : PySem.W.codeIn K cd24 "_law_poly" = true) (k24 : PySem.W.keepIn K (.ref f24) = true)
    (a25 : PySem.W.nsIn K mainGlobals "_law_deg" = some (some (.ref f25))) (l25 : K.lookup f25 = some ⟨oc25, od25, .func (PySem.W.fnOf "_law_deg" "_law_deg" (defArgs sDeg) (defBody sDeg) (defScope sDeg) .none kV25 dc25 pm25 an25 cd25 ct25), sl25⟩) (c25 : PySem.W.codeIn K cd25 "_law_deg" = true) (k25 : PySem.W.keepIn K (.ref f25) = true)
    (a26 : PySem.W.nsIn K mainGlobals "_law_stretch" = some (some (.ref f26))) (l26 : K.lookup f26 = some ⟨oc26, od26, .func (PySem.W.fnOf "_law_stretch" "_law_stretch" (defArgs sStretch) (defBody sStretch) (defScope sStretch) .none kV26 dc26 pm26 an26 cd26 ct26), sl26⟩) (c26 : PySem.W.codeIn K cd26 "_law_stretch" = true) (k26 : PySem.W.keepIn K (.ref f26) = true)
    (a27 : PySem.W.nsIn K mainGlobals "_law_minus" = some (some (.ref f27))) (l27 : K.lookup f27 = some ⟨oc27, od27, .func (PySem.W.fnOf "_law_minus" "_law_minus" (defArgs sMinus) (defBody sMinus) (defScope sMinus) .none kV27 dc27 pm27 an27 cd27 ct27), sl27⟩) (c27 : PySem.W.codeIn K cd27 "_law_minus" = true) (k27 : PySem.W.keepIn K (.ref f27) = true)
    (a28 : PySem.W.nsIn K mainGlobals "_law_share" = some (some (.ref f28))) (l28 : K.lookup f28 = some ⟨oc28, od28, .func (PySem.W.fnOf "_law_share" "_law_share" (defArgs sShare) (defBody sShare) (defScope sShare) .none kV28 dc28 pm28 an28 cd28 ct28), sl28⟩) (c28 : PySem.W.codeIn K cd28 "_law_share" = true) (k28 : PySem.W.keepIn K (.ref f28) = true)
    (a29 : PySem.W.nsIn K mainGlobals "_law_place" = some (some (.ref f29))) (l29 : K.lookup f29 = some ⟨oc29, od29, .func (PySem.W.fnOf "_law_place" "_law_place" (defArgs sPlace) (defBody sPlace) (defScope sPlace) .none kV29 dc29 pm29 an29 cd29 ct29), sl29⟩) (c29 : PySem.W.codeIn K cd29 "_law_place" = true) (k29 : PySem.W.keepIn K (.ref f29) = true)
    (a30 : PySem.W.nsIn K mainGlobals "_law_numbers" = some (some (.ref f30))) (l30 : K.lookup f30 = some ⟨oc30, od30, .func (PySem.W.fnOf "_law_numbers" "_law_numbers" (defArgs sLNums) (defBody sLNums) (defScope sLNums) .none kV30 dc30 pm30 an30 cd30 ct30), sl30⟩) (c30 : PySem.W.codeIn K cd30 "_law_numbers" = true) (k30 : PySem.W.keepIn K (.ref f30) = true)
    (a31 : PySem.W.nsIn K mainGlobals "law" = some (some (.ref f31))) (l31 : K.lookup f31 = some ⟨oc31, od31, .func (PySem.W.fnOf "law" "law" (defArgs sLaw) (defBody sLaw) (defScope sLaw) .none kV31 dc31 pm31 an31 cd31 ct31), sl31⟩) (c31 : PySem.W.codeIn K cd31 "law" = true) (k31 : PySem.W.keepIn K (.ref f31) = true)
    (z1 : PySem.W.nsIn K mainGlobals "isinstance" = some none)
    (z2 : PySem.W.nsIn K mainGlobals "len" = some none)
    (z3 : PySem.W.nsIn K mainGlobals "int" = some none)
    (z4 : PySem.W.nsIn K mainGlobals "bool" = some none)
    (z5 : PySem.W.nsIn K mainGlobals "tuple" = some none)
    (z6 : PySem.W.nsIn K mainGlobals "list" = some none)
    (z7 : PySem.W.nsIn K mainGlobals "str" = some none)
    (z8 : PySem.W.nsIn K mainGlobals "abs" = some none)
    (z9 : PySem.W.nsIn K mainGlobals "range" = some none)
    (z10 : PySem.W.nsIn K mainGlobals "sum" = some none)
    (z11 : PySem.W.nsIn K mainGlobals "zip" = some none)
    (z12 : PySem.W.nsIn K mainGlobals "sorted" = some none)
    (z13 : PySem.W.nsIn K mainGlobals "max" = some none)
    (z14 : PySem.W.nsIn K mainGlobals "enumerate" = some none)
    (z15 : PySem.W.nsIn K mainGlobals "reversed" = some none)
    (z16 : PySem.W.nsIn K mainGlobals "all" = some none)
    (z17 : PySem.W.nsIn K mainGlobals "dict" = some none)
    {tk1 : Tok} (v1 : PySem.W.nsIn K mainGlobals "LONG_BITS" = some (some (.int 8000 tk1)))
    {t0 t1 : Tok} (nN1 : PySem.W.nsIn K mainGlobals "NOUGHT" = some (some (.ref nA))) (nN2 : K.lookup nA = some ⟨.type "tuple", odN, .seq #[.int 0 t0, .int 1 t1] nN, slN⟩)
    {t2 t3 : Tok} (nO1 : PySem.W.nsIn K mainGlobals "ONE" = some (some (.ref oA))) (nO2 : K.lookup oA = some ⟨.type "tuple", odO, .seq #[.int 1 t2, .int 1 t3] nO, slO⟩) :
    ∃ fd : FuncData, (∀ (s : Shared) (v : Value), BindsTo s fd ⟨[v], []⟩ [("script", v)]) ∧ ∀ base : Heap, K.In base → base.Ns mainGlobals mg → FnOk l.prog w K mg base CX0 8 fa fd ["script"] (spLaw55 K) := by
  have e := hfa.symm.trans (PySem.W.mg_of X G a31)
  cases e
  have T : Txt mg := ⟨PySem.W.mg_none_of X G z1, PySem.W.mg_none_of X G z2, PySem.W.mg_none_of X G z3, PySem.W.mg_none_of X G z4, PySem.W.mg_none_of X G z5, PySem.W.mg_none_of X G z6, PySem.W.mg_none_of X G z7, PySem.W.mg_none_of X G z8, PySem.W.mg_none_of X G z9, ⟨_, PySem.W.mg_of X G v1⟩, PySem.W.mg_none_of X G z10, PySem.W.mg_none_of X G z11, PySem.W.mg_none_of X G z12, PySem.W.mg_none_of X G z13, PySem.W.mg_none_of X G z14, PySem.W.mg_none_of X G z15, PySem.W.mg_none_of X G z16, PySem.W.mg_none_of X G z17⟩
  have N : Ngt K mg := ⟨nA, PySem.W.mg_of X G nN1, fun H => .inr ⟨_, _, _, nN2, rfl, rfl, by show 2 ≤ sizeLine; decide, .cons ⟨_, rfl⟩ (.cons ⟨_, rfl⟩ .nil)⟩⟩
  have O : One1 K mg := ⟨oA, PySem.W.mg_of X G nO1, fun H => .inr ⟨_, _, _, nO2, rfl, rfl, by show 2 ≤ sizeLine; decide, .cons ⟨_, rfl⟩ (.cons ⟨_, rfl⟩ .nil)⟩⟩
  have F1 := fun_mk (st := sGcd) l1 c1 k1
  have F2 := fun_mk (st := sAdded) l2 c2 k2
  have F3 := fun_mk (st := sLess) l3 c3 k3
  have F4 := fun_mk (st := sMul) l4 c4 k4
  have F5 := fun_mk (st := sDiv) l5 c5 k5
  have F6 := fun_mk (st := sDegree) l6 c6 k6
  have F7 := fun_mk (st := sLevel) l7 c7 k7
  have F8 := fun_mk (st := sNumbers) l8 c8 k8
  have F9 := fun_mk (st := sMoved) l9 c9 k9
  have F10 := fun_mk (st := sFact) l10 c10 k10
  have F11 := fun_mk (st := sSpread) l11 c11 k11
  have F12 := fun_mk (st := sRaw) l12 c12 k12
  have F13 := fun_mk (st := sNums) l13 c13 k13
  have F14 := fun_mk (st := sDraw) l14 c14 k14
  have F15 := fun_mk (st := sLow) l15 c15 k15
  have F16 := fun_mk (st := sPlus) l16 c16 k16
  have F17 := fun_mk (st := sLMul) l17 c17 k17
  have F18 := fun_mk (st := sLike) l18 c18 k18
  have F19 := fun_mk (st := sAt) l19 c19 k19
  have F20 := fun_mk (st := sLSum) l20 c20 k20
  have F21 := fun_mk (st := sMore) l21 c21 k21
  have F22 := fun_mk (st := sNum) l22 c22 k22
  have F23 := fun_mk (st := sNumber) l23 c23 k23
  have F24 := fun_mk (st := sPoly) l24 c24 k24
  have F25 := fun_mk (st := sDeg) l25 c25 k25
  have F26 := fun_mk (st := sStretch) l26 c26 k26
  have F27 := fun_mk (st := sMinus) l27 c27 k27
  have F28 := fun_mk (st := sShare) l28 c28 k28
  have F29 := fun_mk (st := sPlace) l29 c29 k29
  have F30 := fun_mk (st := sLNums) l30 c30 k30
  have F31 := fun_mk (st := sLaw) l31 c31 k31
  have b1 := F1.binds (ps := ["one", "other"]) fun _ _ _ _ _ _ us hl => by obtain ⟨_, _, rfl⟩ := len2 hl; rfl
  have D1 : Df K mg "greatest_divisor" sGcd ["one", "other"] f1 _ := ⟨F1, b1, PySem.W.mg_of X G a1⟩
  have b2 := F2.binds (ps := ["one", "other"]) fun _ _ _ _ _ _ us hl => by obtain ⟨_, _, rfl⟩ := len2 hl; rfl
  have D2 : Df K mg "added" sAdded ["one", "other"] f2 _ := ⟨F2, b2, PySem.W.mg_of X G a2⟩
  have b3 := F3.binds (ps := ["one", "other"]) fun _ _ _ _ _ _ us hl => by obtain ⟨_, _, rfl⟩ := len2 hl; rfl
  have D3 : Df K mg "less" sLess ["one", "other"] f3 _ := ⟨F3, b3, PySem.W.mg_of X G a3⟩
  have b4 := F4.binds (ps := ["one", "other"]) fun _ _ _ _ _ _ us hl => by obtain ⟨_, _, rfl⟩ := len2 hl; rfl
  have D4 : Df K mg "multiplied" sMul ["one", "other"] f4 _ := ⟨F4, b4, PySem.W.mg_of X G a4⟩
  have b5 := F5.binds (ps := ["one", "other"]) fun _ _ _ _ _ _ us hl => by obtain ⟨_, _, rfl⟩ := len2 hl; rfl
  have D5 : Df K mg "divided" sDiv ["one", "other"] f5 _ := ⟨F5, b5, PySem.W.mg_of X G a5⟩
  have b6 := F6.binds (ps := ["one"]) fun _ _ _ _ _ _ us hl => by obtain ⟨_, rfl⟩ := len1 hl; rfl
  have D6 : Df K mg "degree" sDegree ["one"] f6 _ := ⟨F6, b6, PySem.W.mg_of X G a6⟩
  have b7 := F7.binds (ps := ["some"]) fun _ _ _ _ _ _ us hl => by obtain ⟨_, rfl⟩ := len1 hl; rfl
  have D7 : Df K mg "level" sLevel ["some"] f7 _ := ⟨F7, b7, PySem.W.mg_of X G a7⟩
  have b8 := F8.binds (ps := ["one"]) fun _ _ _ _ _ _ us hl => by obtain ⟨_, rfl⟩ := len1 hl; rfl
  have D8 : Df K mg "all_powers" sNumbers ["one"] f8 _ := ⟨F8, b8, PySem.W.mg_of X G a8⟩
  have b9 := F9.binds (ps := ["one", "start", "pace"]) fun _ _ _ _ _ _ us hl => by obtain ⟨_, _, _, rfl⟩ := len3 hl; rfl
  have D9 : Df K mg "moved" sMoved ["one", "start", "pace"] f9 _ := ⟨F9, b9, PySem.W.mg_of X G a9⟩
  have b10 := F10.binds (ps := ["many"]) fun _ _ _ _ _ _ us hl => by obtain ⟨_, rfl⟩ := len1 hl; rfl
  have D10 : Df K mg "factorial" sFact ["many"] f10 _ := ⟨F10, b10, PySem.W.mg_of X G a10⟩
  have b11 := F11.binds (ps := ["tops"]) fun _ _ _ _ _ _ us hl => by obtain ⟨_, rfl⟩ := len1 hl; rfl
  have D11 : Df K mg "spread" sSpread ["tops"] f11 _ := ⟨F11, b11, PySem.W.mg_of X G a11⟩
  have b12 := F12.binds (ps := ["one", "low", "high"]) fun _ _ _ _ _ _ us hl => by obtain ⟨_, _, _, rfl⟩ := len3 hl; rfl
  have D12 : Df K mg "raw_numbers" sRaw ["one", "low", "high"] f12 _ := ⟨F12, b12, PySem.W.mg_of X G a12⟩
  have b13 := F13.binds (ps := ["one", "low", "high"]) fun _ _ _ _ _ _ us hl => by obtain ⟨_, _, _, rfl⟩ := len3 hl; rfl
  have D13 : Df K mg "numbers" sNums ["one", "low", "high"] f13 _ := ⟨F13, b13, PySem.W.mg_of X G a13⟩
  have b14 := F14.binds (ps := ["tape", "many"]) fun _ _ _ _ _ _ us hl => by obtain ⟨_, _, rfl⟩ := len2 hl; rfl
  have D14 : Df K mg "_law_draw" sDraw ["tape", "many"] f14 _ := ⟨F14, b14, PySem.W.mg_of X G a14⟩
  have b15 := F15.binds (ps := ["top", "bottom"]) fun _ _ _ _ _ _ us hl => by obtain ⟨_, _, rfl⟩ := len2 hl; rfl
  have D15 : Df K mg "_law_low" sLow ["top", "bottom"] f15 _ := ⟨F15, b15, PySem.W.mg_of X G a15⟩
  have b16 := F16.binds (ps := ["one", "other"]) fun _ _ _ _ _ _ us hl => by obtain ⟨_, _, rfl⟩ := len2 hl; rfl
  have D16 : Df K mg "_law_plus" sPlus ["one", "other"] f16 _ := ⟨F16, b16, PySem.W.mg_of X G a16⟩
  have b17 := F17.binds (ps := ["one", "other"]) fun _ _ _ _ _ _ us hl => by obtain ⟨_, _, rfl⟩ := len2 hl; rfl
  have D17 : Df K mg "_law_mul" sLMul ["one", "other"] f17 _ := ⟨F17, b17, PySem.W.mg_of X G a17⟩
  have b18 := F18.binds (ps := ["one", "other"]) fun _ _ _ _ _ _ us hl => by obtain ⟨_, _, rfl⟩ := len2 hl; rfl
  have D18 : Df K mg "_law_like" sLike ["one", "other"] f18 _ := ⟨F18, b18, PySem.W.mg_of X G a18⟩
  have b19 := F19.binds (ps := ["one", "spot"]) fun _ _ _ _ _ _ us hl => by obtain ⟨_, _, rfl⟩ := len2 hl; rfl
  have D19 : Df K mg "_law_at" sAt ["one", "spot"] f19 _ := ⟨F19, b19, PySem.W.mg_of X G a19⟩
  have b20 := F20.binds (ps := ["many", "one"]) fun _ _ _ _ _ _ us hl => by obtain ⟨_, _, rfl⟩ := len2 hl; rfl
  have D20 : Df K mg "_law_sum" sLSum ["many", "one"] f20 _ := ⟨F20, b20, PySem.W.mg_of X G a20⟩
  have b21 := F21.binds (ps := ["one", "other"]) fun _ _ _ _ _ _ us hl => by obtain ⟨_, _, rfl⟩ := len2 hl; rfl
  have D21 : Df K mg "_law_more" sMore ["one", "other"] f21 _ := ⟨F21, b21, PySem.W.mg_of X G a21⟩
  have b22 := F22.binds (ps := ["thing"]) fun _ _ _ _ _ _ us hl => by obtain ⟨_, rfl⟩ := len1 hl; rfl
  have D22 : Df K mg "_law_is_number" sNum ["thing"] f22 _ := ⟨F22, b22, PySem.W.mg_of X G a22⟩
  have b23 := F23.binds (ps := ["tape"]) fun _ _ _ _ _ _ us hl => by obtain ⟨_, rfl⟩ := len1 hl; rfl
  have D23 : Df K mg "_law_number" sNumber ["tape"] f23 _ := ⟨F23, b23, PySem.W.mg_of X G a23⟩
  have b24 := F24.binds (ps := ["tape", "most"]) fun _ _ _ _ _ _ us hl => by obtain ⟨_, _, rfl⟩ := len2 hl; rfl
  have D24 : Df K mg "_law_poly" sPoly ["tape", "most"] f24 _ := ⟨F24, b24, PySem.W.mg_of X G a24⟩
  have b25 := F25.binds (ps := ["one"]) fun _ _ _ _ _ _ us hl => by obtain ⟨_, rfl⟩ := len1 hl; rfl
  have D25 : Df K mg "_law_deg" sDeg ["one"] f25 _ := ⟨F25, b25, PySem.W.mg_of X G a25⟩
  have b26 := F26.binds (ps := ["tape"]) fun _ _ _ _ _ _ us hl => by obtain ⟨_, rfl⟩ := len1 hl; rfl
  have D26 : Df K mg "_law_stretch" sStretch ["tape"] f26 _ := ⟨F26, b26, PySem.W.mg_of X G a26⟩
  have b27 := F27.binds (ps := ["number"]) fun _ _ _ _ _ _ us hl => by obtain ⟨_, rfl⟩ := len1 hl; rfl
  have D27 : Df K mg "_law_minus" sMinus ["number"] f27 _ := ⟨F27, b27, PySem.W.mg_of X G a27⟩
  have b28 := F28.binds (ps := ["many", "k", "step", "ended"]) fun _ _ _ _ _ _ us hl => by obtain ⟨_, _, _, _, rfl⟩ := len4 hl; rfl
  have D28 : Df K mg "_law_share" sShare ["many", "k", "step", "ended"] f28 _ := ⟨F28, b28, PySem.W.mg_of X G a28⟩
  have b29 := F29.binds (ps := ["low", "high", "step"]) fun _ _ _ _ _ _ us hl => by obtain ⟨_, _, _, rfl⟩ := len3 hl; rfl
  have D29 : Df K mg "_law_place" sPlace ["low", "high", "step"] f29 _ := ⟨F29, b29, PySem.W.mg_of X G a29⟩
  have b30 := F30.binds (ps := ["one", "low", "high", "told"]) fun _ _ _ _ _ _ us hl => by obtain ⟨_, _, _, _, rfl⟩ := len4 hl; rfl
  have D30 : Df K mg "_law_numbers" sLNums ["one", "low", "high", "told"] f30 _ := ⟨F30, b30, PySem.W.mg_of X G a30⟩
  refine ⟨PySem.W.fnOf "law" "law" (defArgs sLaw) (defBody sLaw) (defScope sLaw) .none kV31 dc31 pm31 an31 cd31 ct31, fun s v => .of_eq rfl, fun base _ _ => ?_⟩
  have GV := ok_moved (P := l.prog) (w := w) (base := base) F9 T N D7 D8 D6 D5 D4 D1
  have GLs := ok_less (P := l.prog) (w := w) (base := base) F3 T D2 D1
  have GR := ok_raw (P := l.prog) (w := w) (base := base) F12 T O D9 GV D3 GLs D11 D10
  have GD := ok_divN (P := l.prog) (w := w) (base := base) F5 T D4 D1
  have GN := ok_nums (P := l.prog) (w := w) (base := base) F13 T D12 GR D5 GD
  have GM := ok_more (P := l.prog) (w := w) (base := base) F21 T D16 D15
  have GC := ok_stretch (P := l.prog) (w := w) (base := base) F26 T D14 D23 D15 D21 GM
  have GL := ok_lnums (P := l.prog) (w := w) (base := base) F30 T D25 (ok_deg F25 T) D22 (ok_numK F22 T D15) D28 (ok_share F28 T) D16 (ok_plus F16) D17 (ok_lmul F17) D19 (ok_at F19 T D16 D17) D29 (ok_place F29 D16 D17 D27) D18 (ok_like F18)
  exact ok_law F31 T ⟨D24, ok_poly F24 T D14 D15 D23, D20, ok_lsum F20 T D15, D13, GN, D30, GL, D26, GC⟩
theorem walk {l : PySem.W.OpenLaw} {q : Program} {loose : List Str} {XP : (Str → Option Value) → Heap → Prop} {YP : World → Heap → Prop} {d : DefRec} {K : Params → PySem.W.Frag} (hn : l.most = some 63) (hdf : d.params.defaults = [])
    (hY : ∀ (w : World) (h : Heap), YP w h → (K w.params).In h)
    (F : ∀ (w : World) (mg : Str → Option Value) (fa : Addr) (h : Heap), (K w.params).In h → h.Ns mainGlobals mg → mg d.name = some (.ref fa) →
      ∃ fd : FuncData, (∀ (s : Shared) (u : Value), BindsTo s fd ⟨[u], []⟩ [("script", u)]) ∧ ∀ base : Heap, (K w.params).In base → base.Ns mainGlobals mg → FnOk l.prog w (K w.params) mg base CX0 8 fa fd ["script"] (spLaw55 (K w.params))) :
    PySem.W.WalkO q loose XP YP l.row.toRowW d [] (fun f vs => PySem.call f vs) :=
  L2.walk_of (n := 63) (k := 8) (x := "script") (CX := fun _ => CX0) (sp := fun w => spLaw55 (K w.params)) hn (by decide) hdf ⟨rfl, by decide, by decide⟩ hY F (fun _ _ a ns hl _ hS => ⟨a, ns, rfl, hS, hl, fun _ => rfl⟩) fun _ _ _ _ _ z => z
end Lw

open PySem PySem.W PyProof.Rows
set_option maxRecDepth 100000 in
set_option maxHeartbeats 0 in
theorem PySem.Challenge.cw_lowwater_k55_numbers_of_a_sum_in_a_stret_holds : PySem.Challenge.rw_lowwater_k55_numbers_of_a_sum_in_a_stret.Holds := by
  w_on; o_law; k_head; (case hw => w_witness2)
  k_fill
  refine Lw.walk (l := PySem.Challenge.rw_lowwater_k55_numbers_of_a_sum_in_a_stret) rfl rfl (fun w h Y => PySem.W.kIn_of Y) ?F
  case F =>
    intro w mg fa h KX G hmg
    refine' Lw.all_mk KX G hmg ?a1 ?l1 ?c1 ?k1 ?a2 ?l2 ?c2 ?k2 ?a3 ?l3 ?c3 ?k3 ?a4 ?l4 ?c4 ?k4 ?a5 ?l5 ?c5 ?k5 ?a6 ?l6 ?c6 ?k6 ?a7 ?l7 ?c7 ?k7 ?a8 ?l8 ?c8 ?k8 ?a9 ?l9 ?c9 ?k9 ?a10 ?l10 ?c10 ?k10 ?a11 ?l11 ?c11 ?k11 ?a12 ?l12 ?c12 ?k12 ?a13 ?l13 ?c13 ?k13 ?a14 ?l14 ?c14 ?k14 ?a15 ?l15 ?c15 ?k15 ?a16 ?l16 ?c16 ?k16 ?a17 ?l17 ?c17 ?k17 ?a18 ?l18 ?c18 ?k18 ?a19 ?l19 ?c19 ?k19 ?a20 ?l20 ?c20 ?k20 ?a21 ?l21 ?c21 ?k21 ?a22 ?l22 ?c22 ?k22 ?a23 ?l23 ?c23 ?k23 ?a24 ?l24 ?c24 ?k24 ?a25 ?l25 ?c25 ?k25 ?a26 ?l26 ?c26 ?k26 ?a27 ?l27 ?c27 ?k27 ?a28 ?l28 ?c28 ?k28 ?a29 ?l29 ?c29 ?k29 ?a30 ?l30 ?c30 ?k30 ?a31 ?l31 ?c31 ?k31 ?z1 ?z2 ?z3 ?z4 ?z5 ?z6 ?z7 ?z8 ?z9 ?z10 ?z11 ?z12 ?z13 ?z14 ?z15 ?z16 ?z17 ?v1 ?nN1 ?nN2 ?nO1 ?nO2
    (case a1 => k_is)
    (case l1 => k_is)
    (case c1 => k_is)
    (case k1 => k_is)
    (case a2 => k_is)
    (case l2 => k_is)
    (case c2 => k_is)
    (case k2 => k_is)
    (case a3 => k_is)
    (case l3 => k_is)
    (case c3 => k_is)
    (case k3 => k_is)
    (case a4 => k_is)
    (case l4 => k_is)
    (case c4 => k_is)
    (case k4 => k_is)
    (case a5 => k_is)
    (case l5 => k_is)
    (case c5 => k_is)
    (case k5 => k_is)
    (case a6 => k_is)
    (case l6 => k_is)
    (case c6 => k_is)
    (case k6 => k_is)
    (case a7 => k_is)
    (case l7 => k_is)
    (case c7 => k_is)
    (case k7 => k_is)
    (case a8 => k_is)
    (case l8 => k_is)
    (case c8 => k_is)
    (case k8 => k_is)
    (case a9 => k_is)
    (case l9 => k_is)
    (case c9 => k_is)
    (case k9 => k_is)
    (case a10 => k_is)
    (case l10 => k_is)
    (case c10 => k_is)
    (case k10 => k_is)
    (case a11 => k_is)
    (case l11 => k_is)
    (case c11 => k_is)
    (case k11 => k_is)
    (case a12 => k_is)
    (case l12 => k_is)
    (case c12 => k_is)
    (case k12 => k_is)
    (case a13 => k_is)
    (case l13 => k_is)
    (case c13 => k_is)
    (case k13 => k_is)
    (case a14 => k_is)
    (case l14 => k_is)
    (case c14 => k_is)
    (case k14 => k_is)
    (case a15 => k_is)
    (case l15 => k_is)
    (case c15 => k_is)
    (case k15 => k_is)
    (case a16 => k_is)
    (case l16 => k_is)
    (case c16 => k_is)
    (case k16 => k_is)
    (case a17 => k_is)
    (case l17 => k_is)
    (case c17 => k_is)
    (case k17 => k_is)
    (case a18 => k_is)
    (case l18 => k_is)
    (case c18 => k_is)
    (case k18 => k_is)
    (case a19 => k_is)
    (case l19 => k_is)
    (case c19 => k_is)
    (case k19 => k_is)
    (case a20 => k_is)
    (case l20 => k_is)
    (case c20 => k_is)
    (case k20 => k_is)
    (case a21 => k_is)
    (case l21 => k_is)
    (case c21 => k_is)
    (case k21 => k_is)
    (case a22 => k_is)
    (case l22 => k_is)
    (case c22 => k_is)
    (case k22 => k_is)
    (case a23 => k_is)
    (case l23 => k_is)
    (case c23 => k_is)
    (case k23 => k_is)
    (case a24 => k_is)
    (case l24 => k_is)
    (case c24 => k_is)
    (case k24 => k_is)
    (case a25 => k_is)
    (case l25 => k_is)
    (case c25 => k_is)
    (case k25 => k_is)
    (case a26 => k_is)
    (case l26 => k_is)
    (case c26 => k_is)
    (case k26 => k_is)
    (case a27 => k_is)
    (case l27 => k_is)
    (case c27 => k_is)
    (case k27 => k_is)
    (case a28 => k_is)
    (case l28 => k_is)
    (case c28 => k_is)
    (case k28 => k_is)
    (case a29 => k_is)
    (case l29 => k_is)
    (case c29 => k_is)
    (case k29 => k_is)
    (case a30 => k_is)
    (case l30 => k_is)
    (case c30 => k_is)
    (case k30 => k_is)
    (case a31 => k_is)
    (case l31 => k_is)
    (case c31 => k_is)
    (case k31 => k_is)
    (case z1 => k_is)
    (case z2 => k_is)
    (case z3 => k_is)
    (case z4 => k_is)
    (case z5 => k_is)
    (case z6 => k_is)
    (case z7 => k_is)
    (case z8 => k_is)
    (case z9 => k_is)
    (case z10 => k_is)
    (case z11 => k_is)
    (case z12 => k_is)
    (case z13 => k_is)
    (case z14 => k_is)
    (case z15 => k_is)
    (case z16 => k_is)
    (case z17 => k_is)
    (case v1 => k_is)
    (case nN1 => k_is)
    (case nN2 => k_is)
    (case nO1 => k_is)
    (case nO2 => k_is)

