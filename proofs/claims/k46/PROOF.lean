import PyProof.Rows.All
import Wide.All
import OpenK.AllK
import Wide.FinOn
import Lean
import PyProof.EqAt
import PyProof.EqKinds
import PyProof.TupleCall
import PySem.Challenge.RW_lowwater_k46_quotients_and_rests
set_option Elab.async false
set_option linter.all false
set_option maxRecDepth 100000
/-! THE HAND LAYER, for ints, bools, texts, own classes, LISTS and tuples (index, slices, in, append, pop ..), calls, loops. Paste it whole ahead of your own text; what your proof does not reach may be deleted. -/
namespace L2
open PySem PySem.Spec PyProof.Rows

/-- a key: an int or a str -/
abbrev Key := Sum Int Str
def keyIs : Key → Value → Bool
  | .inl k, v => Value.isInt k v
  | .inr x, v => Value.isStrOf x v
def keyH (w : World) : Key → Int
  | .inl k => hashInt k
  | .inr x => hashStr w x
theorem keyIs_shape : ∀ {k : Key} {v : Value}, keyIs k v = true → (∃ i t, k = Sum.inl i ∧ v = Value.int i t) ∨ (∃ x t, k = Sum.inr x ∧ v = Value.str x t)
  | .inl i, v, h => by
    obtain ⟨t, e⟩ := Value.isInt_shape (k := i) (v := v) h
    exact .inl ⟨i, t, rfl, e⟩
  | .inr x, v, h => by
    obtain ⟨t, e⟩ := Value.isStrOf_shape (x := x) (v := v) h
    exact .inr ⟨x, t, rfl, e⟩
theorem keyIs_int (i : Int) (t : Tok) : keyIs (.inl i) (.int i t) = true := by simp [keyIs, Value.isInt]
theorem keyIs_str (x : Str) (t : Tok) : keyIs (.inr x) (.str x t) = true := by simp [keyIs, Value.isStrOf]
theorem key_ll (a b : Int) : decide ((Sum.inl a : Key) = Sum.inl b) = (a == b) := by
  by_cases e : a = b
  · subst e; simp
  · have h : ¬ (Sum.inl a : Key) = Sum.inl b := fun q => e (Sum.inl.inj q)
    rw [decide_eq_false h]
    exact (beq_eq_false_iff_ne.mpr e).symm
theorem key_rr (a b : Str) : decide ((Sum.inr a : Key) = Sum.inr b) = decide (a = b) := by
  by_cases e : a = b
  · subst e; simp
  · have h : ¬ (Sum.inr a : Key) = Sum.inr b := fun q => e (Sum.inr.inj q)
    rw [decide_eq_false h, decide_eq_false e]
theorem key_lr (a : Int) (b : Str) : decide ((Sum.inl a : Key) = Sum.inr b) = false := decide_eq_false (fun q => nomatch q)
theorem key_rl (a : Str) (b : Int) : decide ((Sum.inr a : Key) = Sum.inl b) = false := decide_eq_false (fun q => nomatch q)

def mixKind (prog : Program) (w : World) : PySem.KeyKind prog w Key where
  is := keyIs
  hash := keyH w
  inj := fun v a b ha hb => by
    rcases keyIs_shape ha with ⟨i, t, rfl, rfl⟩ | ⟨x, t, rfl, rfl⟩
    · rcases keyIs_shape hb with ⟨j, u, rfl, e⟩ | ⟨y, u, rfl, e⟩
      · injection e with e1 _; rw [e1]
      · exact nomatch e
    · rcases keyIs_shape hb with ⟨j, u, rfl, e⟩ | ⟨y, u, rfl, e⟩
      · exact nomatch e
      · injection e with e1 _; rw [e1]
  byValue := fun k v h => by
    rcases keyIs_shape h with ⟨i, t, rfl, rfl⟩ | ⟨x, t, rfl, rfl⟩ <;> rfl
  pyHash := fun hv h => by
    rcases keyIs_shape hv with ⟨i, t, rfl, rfl⟩ | ⟨x, t, rfl, rfl⟩
    · exact wpAny_pyHash_int h
    · exact wpAny_pyHash_str h
  eqBool := fun hu hv h => by
    rcases keyIs_shape hu with ⟨i, t, rfl, rfl⟩ | ⟨x, t, rfl, rfl⟩
    · rcases keyIs_shape hv with ⟨j, u, rfl, rfl⟩ | ⟨y, u, rfl, rfl⟩
      · rw [key_ll] at h; exact wpAny_eqBool_int h
      · rw [key_lr] at h; exact SeqAt.EqAt.int_str i t y u _ _ _ _ h
    · rcases keyIs_shape hv with ⟨j, u, rfl, rfl⟩ | ⟨y, u, rfl, rfl⟩
      · rw [key_rl] at h; exact SeqAt.EqAt.str_int x t j u _ _ _ _ h
      · rw [key_rr] at h; exact wpAny_eqBool_str h
  «strs» := fun k x t v h => by
    rcases keyIs_shape h with ⟨i, u, rfl, e⟩ | ⟨y, u, rfl, e⟩
    · exact nomatch e
    · injection e with e1 _
      subst e1
      cases v <;> rfl

theorem mixKind_int (prog : Program) (w : World) (i : Int) (t : Tok) : (mixKind prog w).is (.inl i) (.int i t) = true := keyIs_int i t
theorem mixKind_str (prog : Program) (w : World) (x : Str) (t : Tok) : (mixKind prog w).is (.inr x) (.str x t) = true := keyIs_str x t
end L2

namespace L2
open PySem PySem.Spec PyProof.Rows

/-- a value, without the heap -/
inductive V where
  | non | bl (b : Bool) | int (i : Int) | str (x : Str) | byt (b : Array UInt8) | flt (b : UInt64) | ref (a : Addr) | ty (n : String)
  deriving DecidableEq

def RelV : V → Value → Prop
  | .non, u => u = Value.none
  | .bl b, u => u = Value.bool b
  | .int i, u => ∃ t, u = Value.int i t
  | .str x, u => ∃ t, u = Value.str x t
  | .byt b, u => ∃ t, u = Value.bytes b t
  | .flt b, u => ∃ t, u = Value.float b t
  | .ref a, u => u = Value.ref a
  | .ty n, u => u = Value.type n

abbrev Vals : List V → List Value → Prop := Paired RelV
theorem Vals.length {xs : List V} {us : List Value} (r : Vals xs us) : xs.length = us.length := Paired.length r
theorem Vals.get : ∀ {xs : List V} {us : List Value} {i : Nat} {x : V}, Vals xs us → xs[i]? = some x → ∃ u, us[i]? = some u ∧ RelV x u
  | _, _, _, _, .nil, e => by simp at e
  | _, _, 0, _, .cons r _, e => by simp at e; subst e; exact ⟨_, rfl, r⟩
  | _, _, i + 1, x, .cons _ t, e => by
    obtain ⟨u, h1, h2⟩ := Vals.get (i := i) (x := x) t (by simpa using e)
    exact ⟨u, by simpa using h1, h2⟩
theorem Vals.set {x : V} {u : Value} (r : RelV x u) : ∀ {xs : List V} {us : List Value} (i : Nat), Vals xs us → Vals (xs.set i x) (us.set i u)
  | _, _, _, .nil => .nil
  | _, _, 0, .cons _ t => .cons r t
  | _, _, i + 1, .cons q t => .cons q (Vals.set r i t)
theorem Vals.append : ∀ {xs ys : List V} {us ws : List Value}, Vals xs us → Vals ys ws → Vals (xs ++ ys) (us ++ ws)
  | _, _, _, _, .nil, s => s
  | _, _, _, _, .cons r t, s => .cons r (Vals.append t s)
theorem Vals.take : ∀ {xs : List V} {us : List Value} (n : Nat), Vals xs us → Vals (xs.take n) (us.take n)
  | _, _, 0, _ => .nil
  | _, _, _ + 1, .nil => .nil
  | _, _, n + 1, .cons r t => .cons r (Vals.take n t)
theorem Vals.drop : ∀ {xs : List V} {us : List Value} (n : Nat), Vals xs us → Vals (xs.drop n) (us.drop n)
  | _, _, 0, r => r
  | _, _, _ + 1, .nil => .nil
  | _, _, n + 1, .cons _ t => Vals.drop n t

def RelO : Option V → Option Value → Prop
  | some v, some u => RelV v u
  | none, none => True
  | _, _ => False
def KV {κ : Type} : List (κ × V) → List (κ × Value) → Prop := Paired fun (p : κ × V) (q : κ × Value) => p.1 = q.1 ∧ RelV p.2 q.2

/-- a key of a dict (00_mix): an int or a text -/
def kV : Key → V
  | .inl i => .int i
  | .inr x => .str x

/-- what stands at a tracked address -/
inductive HO where
  /-- a list -/
  | lst (xs : List V)
  /-- a tuple (never changes) -/
  | tup (xs : List V)
  /-- a dict whose keys are ints and texts; one whose keys are tuples of ints and texts (the empty one is both) -/
  | dK (kvs : List (Key × V)) | dT (kvs : List (List Key × V))
  /-- a set of ints: its members, its size -/
  | set (S : Int → Bool) (n : Nat)
  /-- an instance of the class at C, its dict at dx, its attributes -/
  | ins (C dx : Addr) (fs : List (Str × V))
  /-- the dict of the instance at x -/
  | own (x : Addr)
  /-- the dict of an exception -/
  | xd (fs : List (Str × V))
  /-- a bound method, f of x -/
  | met (f x : Addr)
  /-- a range object lo, lo + 1, .. below hi -/
  | rng (lo hi : Int)
  /-- a thing that is known to the object (the script; a dict while a loop walks it): read, never written while it is so -/
  | frz (o : Obj) (u : HO)
  /-- a code object's table -/
  | tbl (ps : Array Value)
  /-- any other thing, by what is true of its one object (a def of one's own: SetO a S n := HO.ext fun h => ..) -/
  | ext (φ : Heap → Prop)

abbrev Hp := Addr → Option HO
def upd (H : Hp) (a : Addr) (o : HO) : Hp := fun b => if b = a then some o else H b
theorem upd_same {H : Hp} {a : Addr} {o : HO} : upd H a o a = some o := by unfold upd; rw [if_pos rfl]
theorem upd_ne {H : Hp} {a b : Addr} {o : HO} (h : b ≠ a) : upd H a o b = H b := by unfold upd; rw [if_neg h]
/-- two objects of different content stand apart -/
theorem ne_of {H : Hp} {a b : Addr} {o u : HO} (h : H a = some o) (h' : H b = some u) (d : o ≠ u) : a ≠ b := by
  intro e; subst e; rw [h] at h'; exact d (Option.some.inj h')
theorem ne_of_none {H : Hp} {a b : Addr} {o : HO} (h : H a = some o) (h' : H b = none) : a ≠ b := by
  intro e; subst e; rw [h] at h'; cases h'

section
variable (P : Program) (w : World)
def ObjOk (H : Hp) (h : Heap) (a : Addr) : HO → Prop
  | .lst xs => xs.length ≤ sizeLine ∧ ∃ (its : List Value) (n : Nat), Vals xs its ∧ h.get? a = some { cls := .type "list", data := .seq its.toArray n }
  | .tup xs => xs.length ≤ sizeLine ∧ ∃ its : List Value, Vals xs its ∧ IsTup h a its.toArray
  | .dK kvs => kvs.length ≤ sizeLine ∧ (a == sysModules) = false ∧ ∃ vs, KV kvs vs ∧ h.DictOf (mixKind P w) a vs
  | .dT kvs => kvs.length ≤ sizeLine ∧ (a == sysModules) = false ∧ ∃ xs : List (List Key × Addr × Value),
      Paired (fun (p : List Key × V) (q : List Key × Addr × Value) => p.1 = q.1 ∧ H q.2.1 = some (.tup (p.1.map kV)) ∧ RelV p.2 q.2.2) kvs xs ∧
      ∃ o es ep, h.get? a = some o ∧ o.ExactDict ∧ o.data = .dict es ep ∧ es.toList = xs.map (entryOfKey (tupleKind (mixKind P w))) ∧ (xs.map (·.1)).Nodup
  | .set S n => h.SetOf (intKind P w) a S n
  | .ins C dx fs => H dx = some (.own a) ∧ fs.length ≤ 1000 ∧ dx ≠ a ∧ h.get? a = some (PySem.W.instObj C dx) ∧
      ∃ mA, h.Ns1 dx mA ∧ (∀ f, RelO (fs.lookup f) (mA f)) ∧ PySem.Within mA (fs.map (·.1))
  | .own _ => ∃ o, h.get? a = some o
  | .xd fs => ∃ mA, h.Ns1 a mA ∧ ∀ f, RelO (fs.lookup f) (mA f)
  | .rng lo hi => ∃ t u v, h.get? a = some { cls := .type "range", data := .fields #[.int lo t, .int hi u, .int 1 v] }
  | .frz o u => h.get? a = some o ∧ ObjOk H h a u
  | .tbl ps => h.get? a = some { cls := .none, data := .fields ps }
  | .met f x => h.get? a = some (PySem.W.methodObj (.ref f) (.ref x))
  | .ext φ => φ h ∧ (∃ o, h.get? a = some o) ∧ ∀ h1 h2 : Heap, φ h1 → (∀ o, h1.get? a = some o → h2.get? a = some o) → φ h2
/-- the abstract heap is held -/
def HOk (H : Hp) (h : Heap) : Prop := ∀ a o, H a = some o → ObjOk P w H h a o
end

section
variable {P : Program} {w : World} {H H' : Hp} {h h' : Heap} {a : Addr} {o : HO}
theorem ObjOk.lt (x : ObjOk P w H h a o) : a < h.objs.size := by
  cases o with
  | lst xs => obtain ⟨_, _, _, _, e⟩ := x; exact Heap.lt_size e
  | tup xs => obtain ⟨_, _, _, p⟩ := x; exact p.lt
  | dK kvs => obtain ⟨_, _, _, _, o, _, _, e, _⟩ := x; exact Heap.lt_size e
  | dT kvs => obtain ⟨_, _, _, _, o, _, _, e, _⟩ := x; exact Heap.lt_size e
  | set S n => obtain ⟨o, _, _, _, e, _⟩ := x; exact Heap.lt_size e
  | ins C dx fs => obtain ⟨_, _, _, e, _⟩ := x; exact Heap.lt_size e
  | own y => obtain ⟨_, e⟩ := x; exact Heap.lt_size e
  | xd fs => obtain ⟨_, ⟨_, _, _, e, _⟩, _⟩ := x; exact Heap.lt_size e
  | rng lo hi => obtain ⟨_, _, _, e⟩ := x; exact Heap.lt_size e
  | frz ob u => obtain ⟨e, _⟩ := x; exact Heap.lt_size e
  | tbl ps => exact Heap.lt_size (show h.get? a = some _ from x)
  | met f y => exact Heap.lt_size (show h.get? a = some _ from x)
  | ext φ => obtain ⟨_, ⟨_, e⟩, _⟩ := x; exact Heap.lt_size e
theorem Paired.mapP {α β : Type} {F G : α → β → Prop} : ∀ {l₁ : List α} {l₂ : List β}, Paired F l₁ l₂ → (∀ a b, F a b → G a b) → Paired G l₁ l₂
  | _, _, .nil, _ => .nil
  | _, _, .cons r t, f => .cons (f _ _ r) (Paired.mapP t f)
/-- what an object's description leans on: its own object, its own dict, the tuples -/
theorem ObjOk.stay (x : ObjOk P w H h a o) (k : ∀ b u, (b = a ∨ H b = some (.own a)) → h.get? b = some u → h'.get? b = some u)
    (ho : ∀ b, H b = some (.own a) → H' b = some (.own a)) (ht : ∀ b xs, H b = some (.tup xs) → H' b = some (.tup xs)) : ObjOk P w H' h' a o := by
  induction o with
  | lst xs => obtain ⟨z, its, n, r, e⟩ := x; exact ⟨z, its, n, r, k _ _ (.inl rfl) e⟩
  | tup xs => obtain ⟨z, its, r, ob, e, c⟩ := x; exact ⟨z, its, r, ob, k _ _ (.inl rfl) e, c⟩
  | dK kvs => obtain ⟨z, y, vs, r, ob, es, ep, e, c⟩ := x; exact ⟨z, y, vs, r, ob, es, ep, k _ _ (.inl rfl) e, c⟩
  | dT kvs =>
    obtain ⟨z, y, xs, r, ob, es, ep, e, c⟩ := x
    exact ⟨z, y, xs, Paired.mapP r fun p q z => ⟨z.1, ht _ _ z.2.1, z.2.2⟩, ob, es, ep, k _ _ (.inl rfl) e, c⟩
  | set S n => obtain ⟨ob, es, ep, t, e, c⟩ := x; exact ⟨ob, es, ep, t, k _ _ (.inl rfl) e, c⟩
  | ins C dx fs =>
    obtain ⟨d, z, ne, e, mA, ⟨od, es, ep, e2, c⟩, r⟩ := x
    exact ⟨ho _ d, z, ne, k _ _ (.inl rfl) e, mA, ⟨od, es, ep, k _ _ (.inr d) e2, c⟩, r⟩
  | own y => obtain ⟨ob, e⟩ := x; exact ⟨ob, k _ _ (.inl rfl) e⟩
  | xd fs => obtain ⟨mA, ⟨od, es, ep, e, c⟩, r⟩ := x; exact ⟨mA, ⟨od, es, ep, k _ _ (.inl rfl) e, c⟩, r⟩
  | rng lo hi => obtain ⟨t, u, v, e⟩ := x; exact ⟨t, u, v, k _ _ (.inl rfl) e⟩
  | frz ob u ih => obtain ⟨e, q⟩ := x; exact ⟨k _ _ (.inl rfl) e, ih q⟩
  | tbl ps =>
    have e : h.get? a = some { cls := .none, data := .fields ps } := x
    show h'.get? a = some { cls := .none, data := .fields ps }
    exact k a _ (.inl rfl) e
  | met f y =>
    have e : h.get? a = some (PySem.W.methodObj (.ref f) (.ref y)) := x
    show h'.get? a = some (PySem.W.methodObj (.ref f) (.ref y))
    exact k a _ (.inl rfl) e
  | ext φ => obtain ⟨p, ⟨o, e⟩, st⟩ := x; exact ⟨st _ _ p fun o q => k _ _ (.inl rfl) q, ⟨o, k _ _ (.inl rfl) e⟩, st⟩
theorem HOk.lt (x : HOk P w H h) (e : H a = some o) : a < h.objs.size := (x a o e).lt
theorem HOk.fresh (x : HOk P w H h) (e : h.objs.size ≤ a) : H a = none := by
  cases q : H a with
  | none => rfl
  | some u => exact absurd (Nat.lt_of_lt_of_le (x.lt q) e) (Nat.lt_irrefl _)
/-- every object of the heap is kept -/
theorem HOk.kept (x : HOk P w H h) (k : ∀ b u, h.get? b = some u → h'.get? b = some u) : HOk P w H h' := fun a o e =>
  (x a o e).stay (fun b u _ q => k b u q) (fun _ q => q) fun _ _ q => q
/-- a new object is laid and tracked -/
theorem HOk.laid (x : HOk P w H h) (k : ∀ b u, h.get? b = some u → h'.get? b = some u) (hp : h.objs.size ≤ a) (new : ObjOk P w (upd H a o) h' a o) : HOk P w (upd H a o) h' := fun b u e => by
  have hn := x.fresh hp
  by_cases hb : b = a
  · subst hb; rw [upd_same] at e; cases e; exact new
  · rw [upd_ne hb] at e
    exact (x b u e).stay (fun c v _ q => k c v q) (fun c q => by rw [upd_ne (ne_of_none q hn)]; exact q) fun c xs q => by rw [upd_ne (ne_of_none q hn)]; exact q
end

/-- what may be read as u: it is u, or a known u -/
def Rd (H : Hp) (a : Addr) (u : HO) : Prop := H a = some u ∨ ∃ o, H a = some (.frz o u)
theorem Rd.ok {P : Program} {w : World} {H : Hp} {h : Heap} {a : Addr} {u : HO} (r : Rd H a u) (x : HOk P w H h) : ObjOk P w H h a u := by
  rcases r with r | ⟨o, r⟩
  · exact x a u r
  · obtain ⟨_, q⟩ := x a _ r
    exact q
/-- what may be written -/
def Mut : Option HO → Prop
  | some (.lst _) => True
  | some (.dK _) => True
  | some (.dT _) => True
  | some (.set _ _) => True
  | some (.ins _ _ _) => True
  | some (.ext _) => True
  | _ => False
section
variable {P : Program} {w : World} {H : Hp} {h h' : Heap} {x e : Addr} {o' : HO}
/-- the object at e is changed: x itself, or the dict of the instance x -/
theorem HOk.write (ok : HOk P w H h) (mu : Mut (H x)) (he : e = x ∨ H e = some (.own x)) (k : ∀ b u, b ≠ e → h.get? b = some u → h'.get? b = some u) (heo : ∃ u, h'.get? e = some u)
    (new : ObjOk P w (upd H x o') h' x o') : HOk P w (upd H x o') h' := fun b u q => by
  have nown : ∀ c y, H c = some (.own y) → c ≠ x := fun c y r z => by subst z; rw [r] at mu; exact mu
  have ntup : ∀ c xs, H c = some (.tup xs) → c ≠ x := fun c xs r z => by subst z; rw [r] at mu; exact mu
  by_cases hb : b = x
  · subst hb; rw [upd_same] at q; cases q; exact new
  · rw [upd_ne hb] at q
    by_cases hbe : b = e
    · have q' : H b = some (.own x) := by
        rcases he with z | z
        · exact absurd (hbe.trans z) hb
        · rw [hbe]; exact z
      rw [q] at q'; cases q'
      obtain ⟨v, hv⟩ := heo
      exact ⟨v, by rw [hbe]; exact hv⟩
    · refine (ok b u q).stay (fun c v hc r => k c v ?_ r) (fun c r => by rw [upd_ne (nown c b r)]; exact r) fun c xs r => by rw [upd_ne (ntup c xs r)]; exact r
      rcases hc with rfl | hc
      · exact hbe
      · rintro rfl
        rcases he with z | z
        · exact nown c b hc z
        · rw [hc] at z; cases z; exact hb rfl
end

/-! ### kept unless tracked; of the frames at fs (the callers') the slots may change (an exception that passes writes there); of the records at ex (iterators) nothing is said -/
structure Un (fs ex : List Addr) (H H' : Hp) (h h' : Heap) : Prop where
  keep : ∀ b o, h.get? b = some o → H b = none → b ∉ fs → b ∉ ex → h'.get? b = some o
  slot : ∀ b o, h.get? b = some o → H b = none → b ∈ fs → b ∉ ex → ∃ sl, h'.get? b = some { o with slots := sl }
  free : ∀ b o, h.get? b = some o → H b = none → b ∉ ex → H' b = none
  there : ∀ b o, h.get? b = some o → b ∉ ex → ∃ o', h'.get? b = some o'
  tups : ∀ b xs, H b = some (.tup xs) → H' b = some (.tup xs)
  frzs : ∀ b o u, H b = some (.frz o u) → H' b = some (.frz o u)
  tbls : ∀ b ps, H b = some (.tbl ps) → ∃ more, H' b = some (.tbl (ps ++ more))
section
variable {fs fs' ex ex' : List Addr} {H H1 H2 : Hp} {h h1 h2 h' : Heap} {a x e : Addr} {o : HO}
theorem Un.any (u : Un fs ex H H1 h h1) {b : Addr} {ob : Obj} (q : h.get? b = some ob) (n : H b = none) (hx : b ∉ ex) : ∃ sl, h1.get? b = some { ob with slots := sl } := by
  by_cases hb : b ∈ fs
  · exact u.slot b ob q n hb hx
  · exact ⟨ob.slots, u.keep b ob q n hb hx⟩
theorem Un.kept (k : ∀ b u, h.get? b = some u → h'.get? b = some u) : Un fs ex H H h h' :=
  ⟨fun b ob q _ _ _ => k b ob q, fun b ob q _ _ _ => ⟨ob.slots, k b ob q⟩, fun _ _ _ n _ => n, fun b ob q _ => ⟨ob, k b ob q⟩, fun _ _ q => q, fun _ _ _ q => q, fun _ ps q => ⟨#[], by rw [q]; simp⟩⟩
theorem Un.refl : Un fs ex H H h h := Un.kept fun _ _ q => q
theorem Un.laid (k : ∀ b u, h.get? b = some u → h'.get? b = some u) (hp : h.objs.size ≤ a) (hn : H a = none) : Un fs ex H (upd H a o) h h' where
  keep := fun b u q _ _ _ => k b u q
  slot := fun b u q _ _ _ => ⟨u.slots, k b u q⟩
  free := fun b u q n _ => by rw [upd_ne (Nat.ne_of_lt (Nat.lt_of_lt_of_le (Heap.lt_size q) hp))]; exact n
  there := fun b u q _ => ⟨u, k b u q⟩
  tups := fun b xs q => by rw [upd_ne (ne_of_none q hn)]; exact q
  frzs := fun b u xs q => by rw [upd_ne (ne_of_none q hn)]; exact q
  tbls := fun b ps q => ⟨#[], by rw [upd_ne (ne_of_none q hn), q]; simp⟩
theorem Un.write (mu : Mut (H x)) (he : e = x ∨ H e = some (.own x)) (k : ∀ b u, b ≠ e → h.get? b = some u → h'.get? b = some u) (heo : ∃ u, h'.get? e = some u) : Un fs ex H (upd H x o) h h' := by
  have hx : ∀ b, H b = none → b ≠ x := fun b n z => by subst z; rw [n] at mu; exact mu
  have hb : ∀ b, H b = none → b ≠ e := fun b n z => by
    subst z
    rcases he with r | r
    · exact hx b n r
    · rw [n] at r; cases r
  have hm : ∀ b u, H b = some u → ¬ Mut (some u) → b ≠ x := fun b u q nm z => by subst z; rw [q] at mu; exact nm mu
  refine ⟨fun b u q n _ _ => k b u (hb b n) q, fun b u q n _ _ => ⟨u.slots, k b u (hb b n) q⟩, fun b u q n _ => by rw [upd_ne (hx b n)]; exact n, fun b u q _ => ?_,
    fun b xs q => by rw [upd_ne (hm b _ q fun z => z)]; exact q, fun b u xs q => by rw [upd_ne (hm b _ q fun z => z)]; exact q, fun b ps q => ⟨#[], by rw [upd_ne (hm b _ q fun z => z), q]; simp⟩⟩
  by_cases hbe : b = e
  · subst hbe; exact heo
  · exact ⟨u, k b u hbe q⟩
end

/-! ### the heap without what is tracked -/
def trk (h : Heap) (H : Hp) : List Addr := (List.range h.objs.size).filter fun a => (H a).isSome
def hidT (h : Heap) (H : Hp) : Heap := PySem.W.hideAll h (trk h H)
theorem hidT_size (h : Heap) (H : Hp) : (hidT h H).objs.size = h.objs.size := PySem.W.hideAll_size _ _
theorem hidT_get {h : Heap} {H : Hp} {b : Addr} {o : Obj} (e : h.get? b = some o) (n : H b = none) : (hidT h H).get? b = some o :=
  PySem.W.hideAll_get _ e fun hm => by
    have q : (H b).isSome = true := (List.mem_filter.mp hm).2
    rw [n] at q; simp at q
theorem of_hidT {h : Heap} {H : Hp} {b : Addr} {o : Obj} (e : (hidT h H).get? b = some o) : h.get? b = some o ∧ H b = none := by
  have e' : h.get? b = some o := PySem.W.of_hideAll (trk h H) e
  refine ⟨e', ?_⟩
  cases q : H b with
  | none => rfl
  | some x =>
    have hm : b ∈ trk h H := List.mem_filter.mpr ⟨List.mem_range.mpr (Heap.lt_size e'), by simp [q]⟩
    have z : (hidT h H).get? b = none := PySem.W.hideAll_none (trk h H) hm
    rw [z] at e; cases e

/-! ### OpenK's ledger, filled with every new object but one -/
def allNews (g h : Heap) (L : Addr) : List (Addr × Obj) := (List.range h.objs.size).filterMap fun a => if a = L ∨ (g.get? a).isSome = true then none else (h.get? a).map fun o => (a, o)
theorem mem_allNews {g h : Heap} {L a : Addr} {o : Obj} (h1 : a ≠ L) (h2 : g.get? a = none) (h3 : h.get? a = some o) : (a, o) ∈ allNews g h L :=
  List.mem_filterMap.mpr ⟨a, List.mem_range.mpr (Heap.lt_size h3), by simp [h1, h2, h3]⟩
theorem of_mem_allNews {g h : Heap} {L : Addr} {p : Addr × Obj} (hp : p ∈ allNews g h L) : p.1 ≠ L ∧ g.get? p.1 = none ∧ h.get? p.1 = some p.2 := by
  obtain ⟨b, _, e⟩ := List.mem_filterMap.mp hp
  split at e
  · cases e
  · rename_i hn
    cases q : h.get? b with
    | none => rw [q] at e; simp at e
    | some u =>
      rw [q] at e
      simp only [Option.map_some, Option.some.injEq] at e
      subst e
      refine ⟨fun z => hn (.inl z), ?_, q⟩
      show g.get? b = none
      cases r : g.get? b with
      | none => rfl
      | some v => exact (hn (.inr (by simp [r]))).elim
theorem news_all {g h : Heap} {L : Addr} : News g L h (allNews g h L) := fun p hp => let ⟨a, b, c⟩ := of_mem_allNews hp; ⟨c, a, b⟩
end L2

namespace L2
open PySem PySem.Spec PyProof.Rows

/-- the module's facts, over the base: the heap at the law's entry without what is tracked there -/
structure Mod (K : PySem.W.Frag) (mg : Str → Option Value) (base : Heap) : Prop where
  kin : K.In base
  glob : base.Ns mainGlobals mg
  blt : ∃ mb, base.Ns builtinsNs mb ∧ ∀ x : Str, x ≠ "__name__" → mb x = bootBuiltins x
  nolimit : base.NoLimit

/-- the context: a def's body (or a comprehension's block) running. base: fixed through the whole law; s₀, H₀: the entry; outer: the frames whose slots others may change (a def's callers); stack: all frames that run;
   ex: iterators that were made ahead of the entry and are walked here (a comprehension's); fn: the names whose cells were made at the entry (a def: all; a comprehension's block: its own); calm: not within an except suite; pn: pins that every state bears; xe: what is wanted of an exception that leaves the code -/
structure Cx where
  prog : Program
  w : World
  K : PySem.W.Frag
  mg : Str → Option Value
  base : Heap
  A : Around
  N : List Str
  s₀ : Shared
  H₀ : Hp
  env : Env
  outer : List Env
  stack : List Env
  ex : List Addr
  fn : Str → Bool
  calm : Bool
  pn : List (Addr × Obj)
  xe : Value → Shared → Prop
/-- the callers' frames -/
def frs (l : List Env) : List Addr := l.filterMap (·.frame)
abbrev Cx.fs (X : Cx) : List Addr := frs X.outer

def Vis (sc : Scope) (x : Str) : Prop := sc.names.lookup x = some .local ∨ sc.names.lookup x = some .cell ∨ sc.names.lookup x = some .free
def Loc (sc : Scope) (x : Str) : Prop := sc.names.lookup x = some .local ∨ sc.names.lookup x = some .cell
def Look (env : Env) (h : Heap) (m : Str → Option Value) (x : Str) (u : Value) : Prop :=
  (env.kindOf x = some .local ∧ m x = some u) ∨ ((env.kindOf x = some .cell ∨ env.kindOf x = some .free) ∧ ∃ c, env.cells.lookup x = some c ∧ h.IsCell c (some u))

structure Cx.Ok (X : Cx) : Prop where
  mod : Mod X.K X.mg X.base
  kind : X.env.scope.kind = .function
  glob : X.env.globals = mainGlobals
  blt : X.env.builtins = builtinsNs
  above : X.s₀.heap.objs.size ≤ X.env.locals
  inj : ∀ x y c, X.env.cells.lookup x = some c → X.env.cells.lookup y = some c → x = y
  has : ∀ x, (X.env.kindOf x = some .cell ∨ X.env.kindOf x = some .free) → ∃ c, X.env.cells.lookup x = some c
  cab : ∀ x c, X.fn x = true → X.env.cells.lookup x = some c → X.s₀.heap.objs.size ≤ c
  hd : X.calm = true → X.A.handled = none
  frames : X.A.frames = some X.stack
  stk : X.stack = X.outer ∨ (X.stack = X.env :: X.outer ∧ X.env.frame = some X.env.locals)
  exf : ∀ b ∈ X.ex, b ≠ X.env.locals ∧ ∀ x c, X.env.cells.lookup x = some c → c ≠ b
  bs : ∀ b o, X.base.get? b = some o → X.s₀.heap.get? b = some o ∧ X.H₀ b = none
  bsz : X.base.objs.size ≤ X.s₀.heap.objs.size
  noex : ∀ b o, X.base.get? b = some o → b ∉ X.ex
  exfs : ∀ b ∈ X.ex, b ∉ X.fs
  funs : X.s₀.heap.FunFrames X.base X.outer
  frf : ∀ b ∈ X.fs, X.H₀ b = none

structure Inv (X : Cx) (pins : List (Addr × Obj)) (σ : List (Option V)) (H : Hp) (s : Shared) : Prop where
  ok : X.Ok
  os : s.os = X.s₀.os
  bare : AllBare s.gens
  base : Un X.fs X.ex X.H₀ H X.s₀.heap s.heap
  loc : ∃ m, s.heap.Ns X.env.locals m ∧ ∀ (i : Nat) (x : Str) (v : V), X.N[i]? = some x → σ[i]? = some (some v) → Vis X.env.scope x → ∃ u, RelV v u ∧ Look X.env s.heap m x u
  cell : ∀ x c, X.env.cells.lookup x = some c → ∃ v, s.heap.IsCell c v
  free : H X.env.locals = none
  freeC : ∀ x c, X.env.cells.lookup x = some c → H c = none
  pin : ∀ p ∈ X.pn ++ pins, s.heap.get? p.1 = some p.2 ∧ H p.1 = none ∧ p.1 ≠ X.env.locals ∧ p.1 ∉ X.fs ∧ ∀ v, p.2.data ≠ .cell v
  hok : HOk X.prog X.w H s.heap
  len : σ.length = X.N.length

section
variable {X : Cx} {pins : List (Addr × Obj)} {σ : List (Option V)} {H H' : Hp} {s : Shared} {h' : Heap}

theorem Cx.Ok.nofr (ok : X.Ok) {b : Addr} {o : Obj} (e : X.base.get? b = some o) : b ∉ X.fs := fun hb => by
  have := (ok.funs.mem hb).1
  rw [e] at this; cases this
theorem Inv.bs (I : Inv X pins σ H s) : ∀ b o, X.base.get? b = some o → s.heap.get? b = some o ∧ H b = none := fun b o e =>
  ⟨I.base.keep b o (I.ok.bs b o e).1 (I.ok.bs b o e).2 (I.ok.nofr e) (I.ok.noex b o e), I.base.free b o (I.ok.bs b o e).1 (I.ok.bs b o e).2 (I.ok.noex b o e)⟩
theorem Inv.bk (I : Inv X pins σ H s) : ∀ b o, X.base.get? b = some o → s.heap.get? b = some o := fun b o e => (I.bs b o e).1
theorem Inv.mod (I : Inv X pins σ H s) : Mod X.K X.mg X.base := I.ok.mod
theorem Inv.kIn (I : Inv X pins σ H s) : X.K.In s.heap := I.ok.mod.kin.keeps I.bk
/-- the frame over the base: for OpenK's rules (K.In X.base is I.mod.kin) -/
theorem Inv.fr (I : Inv X pins σ H s) : ∃ m, Fr X.base X.env.locals s.heap m :=
  let ⟨m, hn, _⟩ := I.loc
  ⟨m, hn, I.bk, Nat.le_trans I.ok.bsz I.ok.above⟩
theorem Inv.lt (I : Inv X pins σ H s) : X.env.locals < s.heap.objs.size := let ⟨_, hn, _⟩ := I.loc; hn.lt
theorem Inv.sz (I : Inv X pins σ H s) : X.s₀.heap.objs.size ≤ s.heap.objs.size := Nat.le_trans I.ok.above (Nat.le_of_lt I.lt)
theorem Inv.nofs (I : Inv X pins σ H s) {a : Addr} (h : s.heap.objs.size ≤ a) : a ∉ X.fs := fun hb => by
  obtain ⟨_, o, ho, _⟩ := I.ok.funs.mem hb
  exact absurd (Nat.lt_of_lt_of_le (Heap.lt_size ho) (Nat.le_trans I.sz h)) (Nat.lt_irrefl _)
theorem Inv.cne (I : Inv X pins σ H s) : ∀ x c, X.env.cells.lookup x = some c → c ≠ X.env.locals := fun x c e z => by
  obtain ⟨v, o, ho, hd⟩ := I.cell x c e
  obtain ⟨m, ⟨o', es, ep, ho', hd', _⟩, _⟩ := I.loc
  rw [z, ho'] at ho; cases ho; rw [hd'] at hd; cases hd
theorem Inv.funs (I : Inv X pins σ H s) : s.heap.FunFrames X.base X.outer := by
  have all : ∀ (l : List Env), (∀ b ∈ frs l, b ∈ X.fs) → X.s₀.heap.FunFrames X.base l → s.heap.FunFrames X.base l := by
    intro l
    induction l with
    | nil => intro _ _; trivial
    | cons env r ih =>
      intro hs hl
      obtain ⟨hk, ⟨L, o, hf, hn, ho, hd⟩, hr⟩ := hl
      have hL : L ∈ X.fs := hs L (by unfold frs; rw [List.filterMap_cons, hf]; exact List.mem_cons_self)
      obtain ⟨sl, e⟩ := I.base.slot L o ho (I.ok.frf L hL) hL fun z => I.ok.exfs L z hL
      exact ⟨hk, ⟨L, _, hf, hn, e, hd⟩, ih (fun b hb => hs b (by unfold frs; rw [List.filterMap_cons, hf]; exact List.mem_cons_of_mem _ hb)) hr⟩
  exact all X.outer (fun _ hb => hb) I.ok.funs

/-- the frames that run, for a call -/
theorem Inv.stack (I : Inv X pins σ H s) : s.heap.FunFrames X.base X.stack := by
  rcases I.ok.stk with e | ⟨e, hf⟩
  · rw [e]; exact I.funs
  · rw [e]
    obtain ⟨m, hn, _⟩ := I.loc
    refine .cons (by rw [I.ok.kind]; decide) hf hn ?_ I.funs
    exact Heap.get?_none_of_le (Nat.le_trans I.ok.bsz I.ok.above)
theorem Inv.stkSub (I : Inv X pins σ H s) : ∀ b ∈ frs X.stack, b ∈ X.env.locals :: X.fs := fun b hb => by
  rcases I.ok.stk with e | ⟨e, hf⟩
  · rw [e] at hb; exact List.mem_cons_of_mem _ hb
  · rw [e] at hb
    unfold frs at hb
    rw [List.filterMap_cons, hf] at hb
    exact hb
theorem Inv.stkFree (I : Inv X pins σ H s) : ∀ b ∈ frs X.stack, H b = none := fun b hb => by
  rcases List.mem_cons.mp (I.stkSub b hb) with e | hb
  · rw [e]; exact I.free
  · obtain ⟨_, o, ho, _⟩ := I.ok.funs.mem hb
    exact I.base.free b o ho (I.ok.frf b hb) fun z => I.ok.exfs b z hb

/-- THE STEP: the untracked objects but the frame and the records at ch are kept (the callers' frames up to slots), the frame's map is kept, the new abstract heap is held -/
theorem Inv.step {g' : Array GenState} {t' : Nat} {d' : Drawn} {ch : List Addr} (I : Inv X pins σ H s)
    (hch : ∀ b ∈ ch, (b ∈ X.ex ∨ X.s₀.heap.objs.size ≤ b) ∧ b ≠ X.env.locals ∧ (∀ x c, X.env.cells.lookup x = some c → c ≠ b) ∧ ∀ p ∈ X.pn ++ pins, p.1 ≠ b)
    (keep : ∀ b o, b ≠ X.env.locals → b ∉ X.fs → b ∉ ch → s.heap.get? b = some o → H b = none → h'.get? b = some o)
    (slot : ∀ b o, b ≠ X.env.locals → b ∈ X.fs → b ∉ ch → s.heap.get? b = some o → H b = none → ∃ sl, h'.get? b = some { o with slots := sl }) (free : ∀ b o, b ∉ ch → s.heap.get? b = some o → H b = none → H' b = none)
    (there : ∀ b o, b ∉ ch → s.heap.get? b = some o → ∃ o', h'.get? b = some o')
    (tups : ∀ b xs, H b = some (.tup xs) → H' b = some (.tup xs)) (frzs : ∀ b o u, H b = some (.frz o u) → H' b = some (.frz o u)) (tbls : ∀ b ps, H b = some (.tbl ps) → ∃ more, H' b = some (.tbl (ps ++ more)))
    (ns : ∀ m, s.heap.Ns X.env.locals m → h'.Ns X.env.locals m) (hok : HOk X.prog X.w H' h') (hg : AllBare g') :
    Inv X pins σ H' { s with heap := h', gens := g', drawn := d', toks := t' } := by
  have neL : ∀ b o, X.s₀.heap.get? b = some o → b ≠ X.env.locals := fun b o e => Nat.ne_of_lt (Nat.lt_of_lt_of_le (Heap.lt_size e) I.ok.above)
  have neC : ∀ b o, X.s₀.heap.get? b = some o → b ∉ X.ex → b ∉ ch := fun b o e hx hb => by
    rcases (hch b hb).1 with z | z
    · exact hx z
    · exact absurd (Nat.lt_of_lt_of_le (Heap.lt_size e) z) (Nat.lt_irrefl _)
  have cellK : ∀ x c, X.env.cells.lookup x = some c → ∀ v, s.heap.IsCell c v → h'.IsCell c v := fun x c e v ⟨o, ho, hd⟩ => by
    have nch : c ∉ ch := fun z => (hch c z).2.2.1 x c e rfl
    by_cases hc : c ∈ X.fs
    · obtain ⟨sl, q⟩ := slot c o (I.cne x c e) hc nch ho (I.freeC x c e)
      exact ⟨_, q, hd⟩
    · exact ⟨o, keep c o (I.cne x c e) hc nch ho (I.freeC x c e), hd⟩
  refine ⟨I.ok, I.os, hg, ⟨fun b o e n hb hx => ?_, fun b o e n hb hx => ?_, fun b o e n hx => ?_, fun b o e hx => ?_, fun b xs e => tups b xs (I.base.tups b xs e), fun b o xs e => frzs b o xs (I.base.frzs b o xs e), fun b ps e => ?_⟩, ?_, fun x c e => ?_, ?_, fun x c e => ?_, fun p hp => ?_, hok, I.len⟩
  · exact keep b o (neL b o e) hb (neC b o e hx) (I.base.keep b o e n hb hx) (I.base.free b o e n hx)
  · obtain ⟨sl, e1⟩ := I.base.slot b o e n hb hx
    obtain ⟨sl', e2⟩ := slot b _ (neL b o e) hb (neC b o e hx) e1 (I.base.free b o e n hx)
    exact ⟨sl', e2⟩
  · obtain ⟨o', e1⟩ := I.base.there b o e hx
    exact free b o' (neC b o e hx) e1 (I.base.free b o e n hx)
  · obtain ⟨o', e1⟩ := I.base.there b o e hx
    exact there b o' (neC b o e hx) e1
  · obtain ⟨m1, e1⟩ := I.base.tbls b ps e
    obtain ⟨m2, e2⟩ := tbls b _ e1
    exact ⟨m1 ++ m2, by rw [e2, Array.append_assoc]⟩
  · obtain ⟨m, hn, hl⟩ := I.loc
    refine ⟨m, ns m hn, fun i x v e1 e2 e3 => ?_⟩
    obtain ⟨u, r, l⟩ := hl i x v e1 e2 e3
    refine ⟨u, r, ?_⟩
    rcases l with l | ⟨k, c, e, z⟩
    · exact .inl l
    · exact .inr ⟨k, c, e, cellK x c e _ z⟩
  · obtain ⟨v, z⟩ := I.cell x c e
    exact ⟨v, cellK x c e v z⟩
  · obtain ⟨m, ⟨o, _, _, ho, _⟩, _⟩ := I.loc
    exact free _ o (fun z => (hch _ z).2.1 rfl) ho I.free
  · obtain ⟨v, o, ho, hd⟩ := I.cell x c e
    exact free c o (fun z => (hch c z).2.2.1 x c e rfl) ho (I.freeC x c e)
  · obtain ⟨e, n, ne, nf, d⟩ := I.pin p hp
    have nch : p.1 ∉ ch := fun z => (hch p.1 z).2.2.2 p hp rfl
    exact ⟨keep p.1 p.2 ne nf nch e n, free p.1 p.2 nch e n, ne, nf, d⟩
/-- .. where the frame's own object is kept too -/
theorem Inv.un {t' : Nat} (I : Inv X pins σ H s) (u : Un X.fs [] H H' s.heap h') (hok : HOk X.prog X.w H' h') : Inv X pins σ H' { s with heap := h', toks := t' } := by
  obtain ⟨m, ⟨o, es, ep, ho, r⟩, _⟩ := id I.loc
  obtain ⟨sl, hL⟩ := u.any ho I.free (by simp)
  exact I.step (g' := s.gens) (d' := s.drawn) (ch := []) (fun _ z => nomatch z) (fun b o _ hb _ e n => u.keep b o e n hb (by simp)) (fun b o _ hb _ e n => u.slot b o e n hb (by simp)) (fun b o _ e n => u.free b o e n (by simp)) (fun b o _ e => u.there b o e (by simp)) u.tups u.frzs u.tbls (fun m' hm => by
    obtain ⟨o', es', ep', ho', r'⟩ := hm
    rw [ho] at ho'; cases ho'
    exact ⟨_, es', ep', hL, r'⟩) hok I.bare
/-- behind a call (or a comprehension's block): the slots of this frame may have changed too, the records at ch may have turned -/
theorem Inv.call {g' : Array GenState} {t' : Nat} {d' : Drawn} {ch : List Addr} (I : Inv X pins σ H s) (u : Un (frs X.stack) ch H H' s.heap h') (hok : HOk X.prog X.w H' h') (hg : AllBare g')
    (hch : ∀ b ∈ ch, (b ∈ X.ex ∨ X.s₀.heap.objs.size ≤ b) ∧ b ≠ X.env.locals ∧ (∀ x c, X.env.cells.lookup x = some c → c ≠ b) ∧ ∀ p ∈ X.pn ++ pins, p.1 ≠ b) :
    Inv X pins σ H' { s with heap := h', gens := g', drawn := d', toks := t' } := by
  obtain ⟨m, ⟨o, es, ep, ho, r⟩, _⟩ := id I.loc
  obtain ⟨sl, hL⟩ := u.any ho I.free fun z => (hch _ z).2.1 rfl
  exact I.step (ch := ch) hch (fun b o hL hb hc e n => u.keep b o e n (fun z => (List.mem_cons.mp (I.stkSub b z)).elim hL hb) hc) (fun b o _ _ hc e n => u.any e n hc) (fun b o hc e n => u.free b o e n hc) (fun b o hc e => u.there b o e hc) u.tups u.frzs u.tbls (fun m' hm => by
    obtain ⟨o', es', ep', ho', r'⟩ := hm
    rw [ho] at ho'; cases ho'
    exact ⟨_, es', ep', hL, r'⟩) hok hg
/-- an untracked record of ours (an iterator) has turned -/
theorem Inv.turned {t' : Nat} {it : Addr} (I : Inv X pins σ H s) (k : ∀ b o, b ≠ it → s.heap.get? b = some o → h'.get? b = some o) (hn : H it = none) (hL : it ≠ X.env.locals)
    (h1 : it ∈ X.ex ∨ X.s₀.heap.objs.size ≤ it) (h2 : ∀ x c, X.env.cells.lookup x = some c → c ≠ it) (h3 : ∀ p ∈ X.pn ++ pins, p.1 ≠ it) : Inv X pins σ H { s with heap := h', toks := t' } := by
  have nit : ∀ b u, H b = some u → b ≠ it := fun b u e z => by rw [z, hn] at e; cases e
  refine I.step (g' := s.gens) (d' := s.drawn) (ch := [it]) (fun b hb => ?_) (fun b o _ _ hc e _ => k b o (fun z => hc (by simp [z])) e) (fun b o _ _ hc e _ => ⟨o.slots, k b o (fun z => hc (by simp [z])) e⟩) (fun _ _ _ _ n => n)
    (fun b o hc e => ⟨o, k b o (fun z => hc (by simp [z])) e⟩) (fun _ _ e => e) (fun _ _ _ e => e) (fun b ps e => ⟨#[], by rw [e]; simp⟩) (fun m hm => ?_) (fun b u e => ?_) I.bare
  · have e : b = it := by simpa using hb
    subst e
    exact ⟨h1, hL, h2, h3⟩
  · obtain ⟨o, es, ep, ho, r⟩ := hm
    exact ⟨o, es, ep, k _ o (Ne.symm hL) ho, r⟩
  · refine (I.hok b u e).stay (fun c v hc q => k c v ?_ q) (fun _ q => q) fun _ _ q => q
    rcases hc with z | z
    · rw [z]; exact nit b u e
    · exact nit c _ z
theorem Inv.tok (I : Inv X pins σ H s) (t : Nat) : Inv X pins σ H { s with toks := t } := I.un (h' := s.heap) (t' := t) Un.refl I.hok
/-- all objects kept -/
theorem Inv.kept {t' : Nat} (I : Inv X pins σ H s) (k : ∀ b u, s.heap.get? b = some u → h'.get? b = some u) : Inv X pins σ H { s with heap := h', toks := t' } := I.un (Un.kept k) (I.hok.kept k)
/-- a new object laid and tracked -/
theorem Inv.laid {a : Addr} {o : HO} {t' : Nat} (I : Inv X pins σ H s) (k : ∀ b u, s.heap.get? b = some u → h'.get? b = some u) (hp : s.heap.objs.size ≤ a) (new : ObjOk X.prog X.w (upd H a o) h' a o) :
    Inv X pins σ (upd H a o) { s with heap := h', toks := t' } := I.un (Un.laid k hp (I.hok.fresh hp)) (I.hok.laid k hp new)
/-- an object written -/
theorem Inv.write {x e : Addr} {o : HO} {t' : Nat} (I : Inv X pins σ H s) (mu : Mut (H x)) (he : e = x ∨ H e = some (.own x)) (k : ∀ b u, b ≠ e → s.heap.get? b = some u → h'.get? b = some u) (heo : ∃ u, h'.get? e = some u)
    (new : ObjOk X.prog X.w (upd H x o) h' x o) : Inv X pins σ (upd H x o) { s with heap := h', toks := t' } := I.un (Un.write mu he k heo) (I.hok.write mu he k heo new)
/-- forgetting slots, pins -/
theorem Inv.weak {σ' : List (Option V)} (I : Inv X pins σ H s) (hl : σ'.length = σ.length) (w : ∀ (i : Nat) v, σ'[i]? = some (some v) → σ[i]? = some (some v)) : Inv X pins σ' H s :=
  ⟨I.ok, I.os, I.bare, I.base, let ⟨m, hn, hl'⟩ := I.loc; ⟨m, hn, fun i x v e1 e2 e3 => hl' i x v e1 (w i v e2) e3⟩, I.cell, I.free, I.freeC, I.pin, I.hok, hl.trans I.len⟩
theorem Inv.pins_of {pins' : List (Addr × Obj)} (I : Inv X pins σ H s) (h : ∀ p ∈ pins', s.heap.get? p.1 = some p.2 ∧ H p.1 = none ∧ p.1 ≠ X.env.locals ∧ p.1 ∉ X.fs ∧ ∀ v, p.2.data ≠ .cell v) : Inv X pins' σ H s :=
  ⟨I.ok, I.os, I.bare, I.base, I.loc, I.cell, I.free, I.freeC, fun p hp => (List.mem_append.mp hp).elim (fun z => I.pin p (List.mem_append_left _ z)) (h p), I.hok, I.len⟩

theorem nodup_ix {N : List Str} (hN : N.Nodup) {i j : Nat} {x : Str} (a : N[i]? = some x) (b : N[j]? = some x) : i = j := by
  obtain ⟨h1, e1⟩ := List.getElem?_eq_some_iff.mp a
  obtain ⟨h2, e2⟩ := List.getElem?_eq_some_iff.mp b
  exact (List.getElem_inj hN).mp (e1.trans e2.symm)

/-- a name is stored; what changed -/
theorem store_ok2 {M : Model} {A : Around} {E : Value → Shared → Prop} {i : Nat} {x : Str} {v : V} {u : Value} {Q : Unit → Shared → Prop} (I : Inv X pins σ H s) (hN : X.N.Nodup) (hi : X.N[i]? = some x) (hx : Loc X.env.scope x) (r : RelV v u)
    (h : ∀ s', Inv X pins (σ.set i (some v)) H s' → (∃ a, Heap.SameBut a s.heap s'.heap ∧ (a = X.env.locals ∨ X.env.cells.lookup x = some a)) → Q () s') (hf : X.fn x = true ∨ X.env.scope.names.lookup x = some .local := by first | exact .inl rfl | exact .inr rfl | assumption) : wpAny M A (storeName X.env x u) Q E s := by
  obtain ⟨m, hn, hl⟩ := id I.loc
  have hcls : (X.env.scope.kind == .class || (X.env.scope.kind == .module && X.env.locals != X.env.globals)) = false := by rw [I.ok.kind]; rfl
  have hiσ : i < σ.length := by rw [I.len]; exact (List.getElem?_eq_some_iff.mp hi).1
  have cne := I.cne
  have tracked : ∀ {a : Addr} {h' : Heap}, (∃ o, s.heap.get? a = some o ∧ H a = none) → Heap.SameBut a s.heap h' → HOk X.prog X.w H h' := fun {a h'} ha hs b ob e => by
    obtain ⟨_, _, hfree⟩ := ha
    refine (I.hok b ob e).stay (fun c w' hc q => (hs.2 c ?_).trans q) (fun _ q => q) fun _ _ q => q
    rintro rfl
    rcases hc with rfl | hc
    · rw [hfree] at e; cases e
    · rw [hfree] at hc; cases hc
  rcases hx with hk | hk
  · refine wpAny_storeName_local hk hn (fun h' hn' hs => ?_) hcls
    obtain ⟨oL, _, _, hoL, _⟩ := id hn
    refine h _ ⟨I.ok, I.os, I.bare, ⟨fun b o e n hb hx => ?_, fun b o e n hb hx => ?_, I.base.free, fun b o e hx => ?_, I.base.tups, I.base.frzs, I.base.tbls⟩, ⟨_, hn', fun j y v' e1 e2 e3 => ?_⟩, fun y c e => ?_, I.free, I.freeC, fun p hp => ?_, tracked ⟨oL, hoL, I.free⟩ hs, by simpa using I.len⟩ ⟨_, hs, .inl rfl⟩
    · exact (hs.2 b (Nat.ne_of_lt (Nat.lt_of_lt_of_le (Heap.lt_size e) I.ok.above))).trans (I.base.keep b o e n hb hx)
    · obtain ⟨sl, e1⟩ := I.base.slot b o e n hb hx
      exact ⟨sl, (hs.2 b (Nat.ne_of_lt (Nat.lt_of_lt_of_le (Heap.lt_size e) I.ok.above))).trans e1⟩
    · obtain ⟨o', e1⟩ := I.base.there b o e hx
      exact ⟨o', (hs.2 b (Nat.ne_of_lt (Nat.lt_of_lt_of_le (Heap.lt_size e) I.ok.above))).trans e1⟩
    · by_cases hj : j = i
      · subst hj
        rw [hi] at e1; cases e1
        rw [List.getElem?_set_self hiσ] at e2
        cases e2
        exact ⟨u, r, .inl ⟨hk, by simp⟩⟩
      · rw [List.getElem?_set_ne (Ne.symm hj)] at e2
        obtain ⟨u', r', q⟩ := hl j y v' e1 e2 e3
        refine ⟨u', r', ?_⟩
        rcases q with ⟨k, e⟩ | ⟨k, c, e, z⟩
        · refine .inl ⟨k, ?_⟩
          have : y ≠ x := fun e => hj (nodup_ix hN e1 (e ▸ hi))
          simp [this, e]
        · exact .inr ⟨k, c, e, z.sameBut hs (cne y c e)⟩
    · obtain ⟨w', z⟩ := I.cell y c e
      exact ⟨w', z.sameBut hs (cne y c e)⟩
    · obtain ⟨e, n, ne, nf, d⟩ := I.pin p hp
      exact ⟨(hs.2 p.1 ne).trans e, n, ne, nf, d⟩
  · have hfn : X.fn x = true := by
      rcases hf with z | z
      · exact z
      · rw [z] at hk; cases hk
    obtain ⟨c, hc⟩ := I.ok.has x (.inl hk)
    obtain ⟨w', z⟩ := I.cell x c hc
    refine wpAny_storeName_cell I.ok.kind hk hc z (fun h' hc' hs => ?_)
    obtain ⟨oc, hoc, hocd⟩ := id z
    refine h { s with heap := h' } ⟨I.ok, I.os, I.bare, ⟨fun b o e n hb hx => ?_, fun b o e n hb hx => ?_, I.base.free, fun b o e hx => ?_, I.base.tups, I.base.frzs, I.base.tbls⟩, ⟨m, hn.sameBut hs (Ne.symm (cne x c hc)), fun j y v' e1 e2 e3 => ?_⟩, fun y c' e => ?_, I.free, I.freeC, fun p hp => ?_, tracked ⟨oc, hoc, I.freeC x c hc⟩ hs, by simpa using I.len⟩ ⟨c, hs, .inr hc⟩
    · exact (hs.2 b (Nat.ne_of_lt (Nat.lt_of_lt_of_le (Heap.lt_size e) (I.ok.cab x c hfn hc)))).trans (I.base.keep b o e n hb hx)
    · obtain ⟨sl, e1⟩ := I.base.slot b o e n hb hx
      exact ⟨sl, (hs.2 b (Nat.ne_of_lt (Nat.lt_of_lt_of_le (Heap.lt_size e) (I.ok.cab x c hfn hc)))).trans e1⟩
    · obtain ⟨o', e1⟩ := I.base.there b o e hx
      exact ⟨o', (hs.2 b (Nat.ne_of_lt (Nat.lt_of_lt_of_le (Heap.lt_size e) (I.ok.cab x c hfn hc)))).trans e1⟩
    · by_cases hj : j = i
      · subst hj
        rw [hi] at e1; cases e1
        rw [List.getElem?_set_self hiσ] at e2
        cases e2
        exact ⟨u, r, .inr ⟨.inl hk, c, hc, hc'⟩⟩
      · rw [List.getElem?_set_ne (Ne.symm hj)] at e2
        obtain ⟨u', r', q⟩ := hl j y v' e1 e2 e3
        refine ⟨u', r', ?_⟩
        rcases q with q | ⟨k, c', e, z'⟩
        · exact .inl q
        · refine .inr ⟨k, c', e, z'.sameBut hs ?_⟩
          rintro rfl
          exact hj (nodup_ix hN e1 (I.ok.inj _ _ _ e hc ▸ hi))
    · by_cases hcc : c' = c
      · subst hcc; exact ⟨_, hc'⟩
      · obtain ⟨w2, z2⟩ := I.cell y c' e
        exact ⟨w2, z2.sameBut hs hcc⟩
    · obtain ⟨e, n, ne, nf, d⟩ := I.pin p hp
      refine ⟨(hs.2 p.1 ?_).trans e, n, ne, nf, d⟩
      intro q
      rw [q, hoc] at e
      have q' : oc = p.2 := Option.some.inj e
      exact d w' (by rw [← q']; exact hocd)
theorem store_ok {M : Model} {A : Around} {E : Value → Shared → Prop} {i : Nat} {x : Str} {v : V} {u : Value} {Q : Unit → Shared → Prop} (I : Inv X pins σ H s) (hN : X.N.Nodup) (hi : X.N[i]? = some x) (hx : Loc X.env.scope x) (r : RelV v u)
    (h : ∀ s', Inv X pins (σ.set i (some v)) H s' → Q () s') (hf : X.fn x = true ∨ X.env.scope.names.lookup x = some .local := by first | exact .inl rfl | exact .inr rfl | assumption) : wpAny M A (storeName X.env x u) Q E s :=
  store_ok2 I hN hi hx r (fun s' I' _ => h s' I') hf
/-- behind a call or a block, the state as it is -/
theorem Inv.call' {s' : Shared} {ch : List Addr} (I : Inv X pins σ H s) (ho : s'.os = s.os) (u : Un (frs X.stack) ch H H' s.heap s'.heap) (hok : HOk X.prog X.w H' s'.heap) (hg : AllBare s'.gens)
    (hch : ∀ b ∈ ch, (b ∈ X.ex ∨ X.s₀.heap.objs.size ≤ b) ∧ b ≠ X.env.locals ∧ (∀ x c, X.env.cells.lookup x = some c → c ≠ b) ∧ ∀ p ∈ X.pn ++ pins, p.1 ≠ b) : Inv X pins σ H' s' := by
  obtain ⟨h', g', d', t', o'⟩ := s'
  have e : o' = s.os := ho
  subst e
  exact I.call (g' := g') (t' := t') (d' := d') u hok hg hch
end

/-! ### the judgements -/
/-- an exception: its class, its own dict's address (where it has one), the abstract heap behind it -/
abbrev XK := Value → Option Addr → Hp → Prop
abbrev St := List (Option V)
abbrev VK := V → Hp → Prop
/-- an expression's reading; a test's; an argument list's -/
abbrev TE := St → Hp → VK → Prop
abbrev TT := St → Hp → (Bool → Hp → Prop) → Prop
abbrev TA := St → Hp → (List V → Hp → Prop) → Prop
/-- what is wanted behind a statement -/
structure Ends where
  nx : St → Hp → Prop
  rt : VK
  bk : St → Hp → Prop := fun _ _ => False
  ct : St → Hp → Prop := fun _ _ => False
abbrev TS := Ends → St → Hp → Prop

def EP (X : Cx) (pins : List (Addr × Obj)) (σ : St) (Q : VK) (u : Value) (s' : Shared) : Prop := ∃ v H', Inv X pins σ H' s' ∧ RelV v u ∧ Q v H'
def TP (X : Cx) (pins : List (Addr × Obj)) (σ : St) (Q : Bool → Hp → Prop) (b : Bool) (s' : Shared) : Prop := ∃ H', Inv X pins σ H' s' ∧ Q b H'
def AP (X : Cx) (pins : List (Addr × Obj)) (σ : St) (Q : List V → Hp → Prop) (us : List Value) (s' : Shared) : Prop := ∃ vs H', Inv X pins σ H' s' ∧ Vals vs us ∧ Q vs H'
def SP (X : Cx) (pins : List (Addr × Obj)) (D : Ends) (f : Flow) (s' : Shared) : Prop :=
  match f with
  | .next => ∃ σ' H', Inv X pins σ' H' s' ∧ D.nx σ' H'
  | .brk => ∃ σ' H', Inv X pins σ' H' s' ∧ D.bk σ' H'
  | .cont => ∃ σ' H', Inv X pins σ' H' s' ∧ D.ct σ' H'
  | .ret u => ∃ v σ' H', Inv X pins σ' H' s' ∧ RelV v u ∧ D.rt v H'

def PE (X : Cx) (e : Expr) (t : TE) : Prop :=
  ∀ (pins : List (Addr × Obj)) (s : Shared) (σ : St) (H : Hp) (Q : VK), Inv X pins σ H s → t σ H Q → wpAny (model X.prog X.w) X.A (eval e X.env) (EP X pins σ Q) X.xe s
def PT (X : Cx) (e : Expr) (t : TT) : Prop :=
  ∀ (pins : List (Addr × Obj)) (s : Shared) (σ : St) (H : Hp) (Q : Bool → Hp → Prop), Inv X pins σ H s → t σ H Q → wpAny (model X.prog X.w) X.A (isTrue e X.env (eval e X.env)) (TP X pins σ Q) X.xe s
/-- a test whatever its 'whole' is (and, or) -/
def PW (X : Cx) (e : Expr) (t : TT) : Prop :=
  ∀ (whole : Sem Value) (pins : List (Addr × Obj)) (s : Shared) (σ : St) (H : Hp) (Q : Bool → Hp → Prop), Inv X pins σ H s → t σ H Q → wpAny (model X.prog X.w) X.A (isTrue e X.env whole) (TP X pins σ Q) X.xe s
theorem PW.pt {X : Cx} {e : Expr} {t : TT} (h : PW X e t) : PT X e t := h _
/-- an argument list (no star), from the left -/
def PA (X : Cx) (es : List Expr) (t : TA) : Prop :=
  ∀ (pos : Pos) (pins : List (Addr × Obj)) (s : Shared) (σ : St) (H : Hp) (Q : List V → Hp → Prop), Inv X pins σ H s → t σ H Q → wpAny (model X.prog X.w) X.A (spliced (backTo pos (starEach es X.env))) (AP X pins σ Q) X.xe s
def PS (X : Cx) (st : Stmt) (t : TS) : Prop :=
  ∀ (pins : List (Addr × Obj)) (s : Shared) (σ : St) (H : Hp) (D : Ends), Inv X pins σ H s → t D σ H → wpAny (model X.prog X.w) X.A (exec st X.env) (SP X pins D) X.xe s
def PSs (X : Cx) (st : List Stmt) (t : TS) : Prop :=
  ∀ (pins : List (Addr × Obj)) (s : Shared) (σ : St) (H : Hp) (D : Ends), Inv X pins σ H s → t D σ H → wpAny (model X.prog X.w) X.A (execs st X.env) (SP X pins D) X.xe s
/-- weaken the end -/
theorem thn {α : Type} {t : Sem α} {Q Q' : α → Shared → Prop} {M : Model} {A : Around} {E : Value → Shared → Prop} {s : Shared} (h : wpAny M A t Q E s) (hQ : ∀ a s, Q a s → Q' a s) : wpAny M A t Q' E s := wpAny_mono h hQ fun _ _ x => x
end L2

namespace L2
open PySem PySem.Spec PyProof.Rows
section
variable {X : Cx}

/-- two expressions in a row -/
theorem bin {a b : Expr} {ta tb : TE} (ha : PE X a ta) (hb : PE X b tb) {pins : List (Addr × Obj)} {s : Shared} {σ : St} {H : Hp} {R : V → V → Hp → Prop} (I : Inv X pins σ H s) (h : ta σ H fun x H1 => tb σ H1 fun y H2 => R x y H2)
    {α : Type} {Q : α → Shared → Prop} {f : Value → Value → Sem α}
    (hf : ∀ v u s2 x y H2, Inv X pins σ H2 s2 → RelV x v → RelV y u → R x y H2 → wpAny (model X.prog X.w) X.A (f v u) Q X.xe s2) :
    wpAny (model X.prog X.w) X.A (eval a X.env) (fun v s₁ => wpAny (model X.prog X.w) X.A (eval b X.env) (fun u s₂ => wpAny (model X.prog X.w) X.A (f v u) Q X.xe s₂) X.xe s₁) X.xe s := by
  refine thn (ha pins s σ H _ I h) fun v s1 ⟨x, H1, I1, r1, q1⟩ => ?_
  refine thn (hb pins s1 σ H1 _ I1 q1) fun u s2 ⟨y, H2, I2, r2, q2⟩ => ?_
  exact hf v u s2 x y H2 I2 r1 r2 q2

/-! ### names and constants -/
def tVar (i : Nat) : TE := fun σ H Q => ∃ v, σ[i]? = some (some v) ∧ Q v H
def tC (v : V) : TE := fun _ H Q => Q v H
theorem pe_var {i : Nat} {x : Str} {pos : Pos} (hN : X.N[i]? = some x) (hv : Vis X.env.scope x) (hd : (x == ("__debug__" : Str)) = false := by decide) (hcd : (x == ("__classdict__" : Str)) = false := by decide) : PE X (.Name x pos) (tVar i) := by
  intro pins s σ H Q I h
  obtain ⟨v, e, h⟩ := h
  obtain ⟨m, hn, hl⟩ := I.loc
  obtain ⟨u, r, l⟩ := hl i x v hN e hv
  have fin : EP X pins σ Q u s := ⟨v, H, I, r, h⟩
  rcases l with ⟨hk, hm⟩ | ⟨hk, c, hc, hcell⟩
  · exact wpAny_Name (wpAny_loadName_local I.ok.kind hk hn hm fin) hd
  · rcases hk with hk | hk
    · exact wpAny_Name (wpAny_loadName_cell I.ok.kind hk hc hcell fin) hd
    · exact wpAny_Name (wpAny_loadName_free I.ok.kind hk hc hcell fin hcd) hd
theorem pe_int {i j pos} : PE X (.Constant (.int i) j pos) (tC (.int i)) := fun _ _ _ H _ I h => wpAny_Constant_int ⟨.int i, H, I.tok _, ⟨_, rfl⟩, h⟩
theorem pe_bl {b j pos} : PE X (.Constant (.bool b) j pos) (tC (.bl b)) := fun _ _ _ H _ I h => Constant_bool ⟨.bl b, H, I, rfl, h⟩
theorem pe_non {j pos} : PE X (.Constant .none j pos) (tC .non) := fun _ _ _ H _ I h => Constant_none ⟨.non, H, I, rfl, h⟩
theorem pe_str {x j pos} : PE X (.Constant (.str x) j pos) (tC (.str x)) := fun _ _ _ H _ I h => Calls.Constant_str ⟨.str x, H, I.tok _, ⟨_, rfl⟩, h⟩

/-- a global name of the def -/
def Gl (X : Cx) (x : Str) : Prop := X.env.kindOf x = some .globalImplicit
theorem ld_glob {E : Value → Shared → Prop} {pins : List (Addr × Obj)} {s : Shared} {σ : St} {H : Hp} {x : Str} {u : Value} {pos : Pos} {Q : Value → Shared → Prop} (I : Inv X pins σ H s) (hg : Gl X x) (hm : X.mg x = some u) (h : Q u s)
    (hd : (x == ("__debug__" : Str)) = false := by decide) : wpAny (model X.prog X.w) X.A (eval (.Name x pos) X.env) Q E s :=
  Calls.Name_function_global I.ok.kind hg (Calls.loadGlobal_global (by rw [I.ok.glob]; exact I.mod.glob.keeps I.bk) hm h) hd
theorem ld_blt {E : Value → Shared → Prop} {pins : List (Addr × Obj)} {s : Shared} {σ : St} {H : Hp} {x : Str} {u : Value} {pos : Pos} {Q : Value → Shared → Prop} (I : Inv X pins σ H s) (hg : Gl X x) (hm : X.mg x = none) (hv : bootBuiltins x = some u) (h : Q u s)
    (hn : x ≠ "__name__" := by decide) (hd : (x == ("__debug__" : Str)) = false := by decide) : wpAny (model X.prog X.w) X.A (eval (.Name x pos) X.env) Q E s := by
  obtain ⟨mb, h1, h2⟩ := I.mod.blt
  exact Calls.Name_function_global I.ok.kind hg (Calls.loadGlobal_builtin (by rw [I.ok.glob]; exact I.mod.glob.keeps I.bk) hm (by rw [I.ok.blt]; exact h1.keeps I.bk) ((h2 x hn).trans hv) h) hd
/-- a module's constant, a class, a function, as a value -/
theorem pe_glob {x : Str} {v : V} {u : Value} {pos : Pos} (hg : Gl X x) (hm : X.mg x = some u) (r : RelV v u) (hd : (x == ("__debug__" : Str)) = false := by decide) : PE X (.Name x pos) (tC v) :=
  fun _ _ _ H _ I h => ld_glob I hg hm ⟨v, H, I, r, h⟩ hd
theorem pe_bltn {x : Str} {v : V} {u : Value} {pos : Pos} (hg : Gl X x) (hm : X.mg x = none) (hv : bootBuiltins x = some u) (r : RelV v u) (hn : x ≠ "__name__" := by decide) (hd : (x == ("__debug__" : Str)) = false := by decide) : PE X (.Name x pos) (tC v) :=
  fun _ _ _ H _ I h => ld_blt I hg hm hv ⟨v, H, I, r, h⟩ hn hd

/-! ### arithmetic -/
variable {a b : Expr} {ta tb : TE} {pos : Pos}

/-! ### comparisons -/
def PC (X : Cx) (op : CmpOp) (a b : Expr) (t : TE) : Prop :=
  ∀ (pins : List (Addr × Obj)) (s : Shared) (σ : St) (H : Hp) (Q : VK), Inv X pins σ H s → t σ H Q →
    wpAny (model X.prog X.w) X.A (eval a X.env) (fun v s₁ => wpAny (model X.prog X.w) X.A (eval b X.env) (fun u s₂ => wpAny (model X.prog X.w) X.A (compareOp op v u) (EP X pins σ Q) X.xe s₂) X.xe s₁) X.xe s
/-- a comparison as a value, as a test -/
def tB (t : TE) : TT := fun σ H Q => t σ H fun x H1 => ∃ c, x = .bl c ∧ Q c H1
theorem pe_cmp {op : CmpOp} {t : TE} (h : PC X op a b t) (h1 : behindInMarks op b = false := by first | exact nobehind _ (by decide) (by decide) | rfl) : PE X (.Compare a [op] [b] pos) t := fun pins s σ H Q I hw => wpAny_Compare1 (h pins s σ H Q I hw) h1
theorem pt_cmp {op : CmpOp} {t : TE} (h : PC X op a b t) (h1 : behindInMarks op b = false := by first | exact nobehind _ (by decide) (by decide) | rfl) : PT X (.Compare a [op] [b] pos) (tB t) := by
  intro pins s σ H Q I hw
  refine wpAny_isTrue_Compare1 (thn (h pins s σ H _ I hw) fun v s1 h1 => thn h1 fun u s2 h2 => thn h2 fun c s3 ⟨x, H1, I1, r1, q1⟩ => ?_) h1
  obtain ⟨d, rfl, q⟩ := q1
  cases r1
  exact wpAny_truthy_bool ⟨H1, I1, q⟩
/-- an expression whose value is a bool, as a test -/
theorem pt_val {e : Expr} {t : TE} (h : PE X e t) (he : ∀ whole, isTrue e X.env whole = (do let v ← whole; standAt e.pos; holding [v] (truthy v)) := by intro _; rfl) : PT X e (tB t) := by
  intro pins s σ H Q I hw
  refine isTrue_plain (thn (h pins s σ H _ I hw) fun v s1 ⟨x, H1, I1, r1, q1⟩ => ?_) (he _)
  obtain ⟨d, rfl, q⟩ := q1
  cases r1
  exact wpAny_truthy_bool ⟨H1, I1, q⟩

/-! ### and, or, not -/
variable {tA tB' : TT} {rest : List Expr}
def tAnd (t u : TT) : TT := fun σ H Q => t σ H fun c H1 => if c = true then u σ H1 Q else Q false H1
def tOr (t u : TT) : TT := fun σ H Q => t σ H fun c H1 => if c = true then Q true H1 else u σ H1 Q
def tNot (t : TT) : TT := fun σ H Q => t σ H fun c H1 => Q (!c) H1
theorem pw_and1 (ha : PT X a tA) : PW X (.BoolOp .And [a] pos) tA := by
  intro wh pins s σ H Q I h
  refine isTrue_and (thn (ha pins s σ H Q I h) fun c s1 e => ?_)
  cases c with
  | true => exact isTrue_and_nil e
  | false => exact e
theorem pw_or1 (ha : PT X a tA) : PW X (.BoolOp .Or [a] pos) tA := by
  intro wh pins s σ H Q I h
  refine isTrue_or (thn (ha pins s σ H Q I h) fun c s1 e => ?_)
  cases c with
  | false => exact isTrue_or_nil e
  | true => exact e
theorem pw_and (ha : PT X a tA) (hb : PW X (.BoolOp .And (b :: rest) pos) tB') : PW X (.BoolOp .And (a :: b :: rest) pos) (tAnd tA tB') := by
  intro wh pins s σ H Q I h
  refine isTrue_and (thn (ha pins s σ H _ I h) fun c s1 ⟨H1, I1, q1⟩ => ?_)
  cases c with
  | true => exact hb wh pins s1 σ H1 Q I1 q1
  | false => exact ⟨H1, I1, q1⟩
theorem pw_or (ha : PT X a tA) (hb : PW X (.BoolOp .Or (b :: rest) pos) tB') : PW X (.BoolOp .Or (a :: b :: rest) pos) (tOr tA tB') := by
  intro wh pins s σ H Q I h
  refine isTrue_or (thn (ha pins s σ H _ I h) fun c s1 ⟨H1, I1, q1⟩ => ?_)
  cases c with
  | true => exact ⟨H1, I1, q1⟩
  | false => exact hb wh pins s1 σ H1 Q I1 q1
theorem pt_not (ha : PT X a tA) : PT X (.UnaryOp .Not a pos) (tNot tA) := by
  intro pins s σ H Q I h
  exact isTrue_not (ha pins s σ H (fun c H1 => Q (!c) H1) I h)
/-- .. as values (bools) -/
def tAndV (ta tb : TE) : TE := fun σ H Q => ta σ H fun x H1 => ∃ c, x = .bl c ∧ if c = true then tb σ H1 Q else Q (.bl false) H1
def tOrV (ta tb : TE) : TE := fun σ H Q => ta σ H fun x H1 => ∃ c, x = .bl c ∧ if c = true then Q (.bl true) H1 else tb σ H1 Q
theorem pe_one {op} {t : TE} (h : PE X a t) : PE X (.BoolOp op [a] pos) t := fun pins s σ H Q I hw => BoolOp_one (h pins s σ H Q I hw)
theorem pe_and (ha : PE X a ta) (hb : PE X (.BoolOp .And (b :: rest) pos) tb) : PE X (.BoolOp .And (a :: b :: rest) pos) (tAndV ta tb) := by
  intro pins s σ H Q I h
  refine BoolOp_and (thn (ha pins s σ H _ I h) fun v s1 ⟨x, H1, I1, r1, q1⟩ => ?_)
  obtain ⟨c, rfl, q1⟩ := q1
  cases r1
  refine wpAny_truthy_bool ?_
  cases c with
  | true => exact hb pins s1 σ H1 Q I1 q1
  | false => exact ⟨.bl false, H1, I1, rfl, q1⟩
theorem pe_or (ha : PE X a ta) (hb : PE X (.BoolOp .Or (b :: rest) pos) tb) : PE X (.BoolOp .Or (a :: b :: rest) pos) (tOrV ta tb) := by
  intro pins s σ H Q I h
  refine BoolOp_or (thn (ha pins s σ H _ I h) fun v s1 ⟨x, H1, I1, r1, q1⟩ => ?_)
  obtain ⟨c, rfl, q1⟩ := q1
  cases r1
  refine wpAny_truthy_bool ?_
  cases c with
  | false => exact hb pins s1 σ H1 Q I1 q1
  | true => exact ⟨.bl true, H1, I1, rfl, q1⟩
end
end L2

namespace L2
open PySem PySem.Spec PyProof.Rows

/-! ### a list, a tuple that is read: tracked, frozen, or an object of the module -/
def SqL (K : PySem.W.Frag) (H : Hp) (a : Addr) (xs : List V) : Prop :=
  Rd H a (.lst xs) ∨
    ∃ (o : Obj) (its : Array Value) (n : Nat), K.lookup a = some o ∧ o.cls = .type "list" ∧ o.dict = none ∧ o.data = .seq its n ∧ its.size ≤ sizeLine ∧ Vals xs its.toList
def SqT (K : PySem.W.Frag) (H : Hp) (a : Addr) (xs : List V) : Prop :=
  Rd H a (.tup xs) ∨
    ∃ (o : Obj) (its : Array Value) (n : Nat), K.lookup a = some o ∧ o.cls = .type "tuple" ∧ o.data = .seq its n ∧ its.size ≤ sizeLine ∧ Vals xs its.toList
def absV : Value → Option V
  | .none => some .non
  | .bool b => some (.bl b)
  | .int i _ => some (.int i)
  | .str x _ => some (.str x)
  | .bytes b _ => some (.byt b)
  | .float b _ => some (.flt b)
  | .ref a => some (.ref a)
  | .type n => some (.ty n)
  | _ => none
theorem RelV.abs {x : V} {u : Value} (r : RelV x u) : absV u = some x := by
  cases x with
  | non => cases r; rfl
  | bl _ => cases r; rfl
  | int _ => obtain ⟨t, rfl⟩ := r; rfl
  | str _ => obtain ⟨t, rfl⟩ := r; rfl
  | byt _ => obtain ⟨t, rfl⟩ := r; rfl
  | flt _ => obtain ⟨t, rfl⟩ := r; rfl
  | ref _ => cases r; rfl
  | ty _ => cases r; rfl
theorem RelV.inj {x y : V} {u : Value} (r : RelV x u) (q : RelV y u) : x = y := Option.some.inj (r.abs.symm.trans q.abs)
theorem Vals.inj : ∀ {xs ys : List V} {us : List Value}, Vals xs us → Vals ys us → xs = ys
  | _, _, _, .nil, .nil => rfl
  | _, _, _, .cons r t, .cons r' t' => by rw [r.inj r', Vals.inj t t']
section
variable {X : Cx} {pins : List (Addr × Obj)} {σ : St} {H : Hp} {s : Shared} {a : Addr} {xs ys : List V}
theorem SqL.of {K : PySem.W.Frag} (h : H a = some (.lst xs)) : SqL K H a xs := .inl (.inl h)
theorem SqT.of {K : PySem.W.Frag} (h : H a = some (.tup xs)) : SqT K H a xs := .inl (.inl h)
theorem Inv.list (I : Inv X pins σ H s) (h : SqL X.K H a xs) : ∃ its : List Value, Vals xs its ∧ PlainL s.heap a its.toArray ∧ xs.length ≤ sizeLine := by
  rcases h with h | ⟨o, its, n, hk, hc, hd, hs, hz, r⟩
  · obtain ⟨z, its, n, r, e⟩ := h.ok I.hok
    exact ⟨its, r, ⟨_, n, e, rfl, rfl, rfl⟩, z⟩
  · refine ⟨its.toList, r, ⟨o, n, I.kIn a o hk, hc, hd, by simpa using hs⟩, ?_⟩
    have e := r.length
    simp only [Array.length_toList] at e
    omega
theorem Inv.tuple (I : Inv X pins σ H s) (h : SqT X.K H a xs) : ∃ its : List Value, Vals xs its ∧ IsTup s.heap a its.toArray ∧ xs.length ≤ sizeLine := by
  rcases h with h | ⟨o, its, n, hk, hc, hs, hz, r⟩
  · obtain ⟨z, its, r, p⟩ := h.ok I.hok
    exact ⟨its, r, p, z⟩
  · refine ⟨its.toList, r, ⟨o, I.kIn a o hk, hc, n, by simpa using hs⟩, ?_⟩
    have e := r.length
    simp only [Array.length_toList] at e
    omega
theorem Inv.list_inj (I : Inv X pins σ H s) (h : SqL X.K H a xs) (h' : SqL X.K H a ys) : xs = ys := by
  obtain ⟨its, r, ⟨o, n, e, _, _, d⟩, _⟩ := I.list h
  obtain ⟨its', r', ⟨o', n', e', _, _, d'⟩, _⟩ := I.list h'
  rw [e] at e'; cases e'
  rw [d] at d'
  injection d' with d1 _
  have : its = its' := by simpa using congrArg Array.toList d1
  subst this
  exact r.inj r'
theorem Inv.tuple_inj (I : Inv X pins σ H s) (h : SqT X.K H a xs) (h' : SqT X.K H a ys) : xs = ys := by
  obtain ⟨its, r, ⟨o, e, _, n, d⟩, _⟩ := I.tuple h
  obtain ⟨its', r', ⟨o', e', _, n', d'⟩, _⟩ := I.tuple h'
  rw [e] at e'; cases e'
  rw [d] at d'
  injection d' with d1 _
  have : its = its' := by simpa using congrArg Array.toList d1
  subst this
  exact r.inj r'
end

/-! ### another wish about exceptions -/
abbrev Cx.wish (X : Cx) (E : Value → Shared → Prop) : Cx := { X with xe := E }
/-- no exception leaves -/
abbrev Cx.nox (X : Cx) : Cx := X.wish fun _ _ => False
theorem Cx.Ok.wish {X : Cx} (ok : X.Ok) (E : Value → Shared → Prop) : (X.wish E).Ok :=
  ⟨ok.mod, ok.kind, ok.glob, ok.blt, ok.above, ok.inj, ok.has, ok.cab, ok.hd, ok.frames, ok.stk, ok.exf, ok.bs, ok.bsz, ok.noex, ok.exfs, ok.funs, ok.frf⟩
theorem Cx.Ok.unwish {X : Cx} {E : Value → Shared → Prop} (ok : (X.wish E).Ok) : X.Ok :=
  ⟨ok.mod, ok.kind, ok.glob, ok.blt, ok.above, ok.inj, ok.has, ok.cab, ok.hd, ok.frames, ok.stk, ok.exf, ok.bs, ok.bsz, ok.noex, ok.exfs, ok.funs, ok.frf⟩
section
variable {X : Cx} {pins : List (Addr × Obj)} {σ : St} {H : Hp} {s : Shared} {E : Value → Shared → Prop}
theorem Inv.wish (I : Inv X pins σ H s) (E : Value → Shared → Prop) : Inv (X.wish E) pins σ H s := ⟨I.ok.wish E, I.os, I.bare, I.base, I.loc, I.cell, I.free, I.freeC, I.pin, I.hok, I.len⟩
theorem Inv.unwish (I : Inv (X.wish E) pins σ H s) : Inv X pins σ H s := ⟨I.ok.unwish, I.os, I.bare, I.base, I.loc, I.cell, I.free, I.freeC, I.pin, I.hok, I.len⟩
theorem SP.unwish {D : Ends} {f : Flow} {s' : Shared} (h : SP (X.wish E) pins D f s') : SP X pins D f s' := by
  cases f with
  | next => obtain ⟨σ', H', I, q⟩ := h; exact ⟨σ', H', I.unwish, q⟩
  | brk => obtain ⟨σ', H', I, q⟩ := h; exact ⟨σ', H', I.unwish, q⟩
  | cont => obtain ⟨σ', H', I, q⟩ := h; exact ⟨σ', H', I.unwish, q⟩
  | ret u => obtain ⟨v, σ', H', I, r, q⟩ := h; exact ⟨v, σ', H', I.unwish, r, q⟩
theorem PSs.nox {st : List Stmt} {t : TS} (h : PSs X.nox st t) : PSs X st t := fun pins s σ H D I hw =>
  wpAny_mono (h pins s σ H D (I.wish _) hw) (fun _ _ q => q.unwish) fun _ _ z => False.elim z
end

/-! ### blocks and small statements -/
section
variable {X : Cx} {st : Stmt} {rest : List Stmt} {t u : TS} {e : Expr} {te : TE} {pos : Pos}
def tNext : TS := fun D σ H => D.nx σ H
def tSeq (t u : TS) : TS := fun D σ H => t { D with nx := u D } σ H
theorem pss_nil : PSs X [] tNext := fun _ _ σ H _ I h => wpAny_execs_nil ⟨σ, H, I, h⟩
theorem pss_cons (h1 : PS X st t) (h2 : PSs X rest u) : PSs X (st :: rest) (tSeq t u) := by
  intro pins s σ H D I h
  refine wpAny_execs_cons (thn (h1 pins s σ H { D with nx := u D } I h) fun f s1 q => ?_)
  cases f with
  | next =>
    obtain ⟨σ', H', I', q⟩ := q
    exact h2 pins s1 σ' H' D I' q
  | ret v => exact q
  | brk => exact q
  | cont => exact q
theorem pss_one (h1 : PS X st t) : PSs X [st] t := by
  intro pins s σ H D I h
  refine wpAny_execs_cons (thn (h1 pins s σ H D I h) fun f s1 q => ?_)
  cases f with
  | next => exact wpAny_execs_nil q
  | ret v => exact q
  | brk => exact q
  | cont => exact q
/-- in a def's body nothing is shown -/
theorem Inv.quiet {pins : List (Addr × Obj)} {σ : St} {H : Hp} {s : Shared} (I : Inv X pins σ H s) : interactive X.env = false := by simp [interactive, I.ok.kind]
/-- an expression whose value is dropped -/
def tDrop (te : TE) : TS := fun D σ H => te σ H fun _ H1 => D.nx σ H1
theorem ps_expr (he : PE X e te) (hs : swapsWith e none pos.line X.env = pure false := by rfl) : PS X (.Expr e pos) (tDrop te) := by
  intro pins s σ H D I h
  exact wpAny_Expr_any (thn (he pins s σ H _ I h) fun v s1 ⟨x, H1, I1, r1, q1⟩ => ⟨σ, H1, I1, q1⟩) I.quiet hs
def tRet (te : TE) : TS := fun D σ H => te σ H D.rt
theorem ps_ret (he : PE X e te) : PS X (.Return (some e) pos) (tRet te) := by
  intro pins s σ H D I h
  exact wpAny_Return_some (thn (he pins s σ H _ I h) fun v s1 ⟨x, H1, I1, r1, q1⟩ => ⟨x, σ, H1, I1, r1, q1⟩)
def tIfS (c : TT) (t u : TS) : TS := fun D σ H => c σ H fun b H1 => if b = true then t D σ H1 else u D σ H1
theorem ps_if {c : Expr} {a b : List Stmt} {tc : TT} (hc : PT X c tc) (ha : PSs X a t) (hb : PSs X b u) : PS X (.If c a b pos) (tIfS tc t u) := by
  intro pins s σ H D I h
  refine wpAny_If (thn (hc pins s σ H _ I h) fun d s1 ⟨H1, I1, q1⟩ => ?_)
  cases d with
  | true => exact ha pins s1 σ H1 D I1 q1
  | false => exact hb pins s1 σ H1 D I1 q1
/-- code that the proof never comes to -/
def tNever : TS := fun _ _ _ => False
theorem ps_never : PS X st tNever := fun _ _ _ _ _ _ h => h.elim
theorem pss_never {sts : List Stmt} : PSs X sts tNever := fun _ _ _ _ _ _ h => h.elim
end

/-! ### targets -/
abbrev TG := V → St → Hp → (St → Hp → Prop) → Prop
abbrev TGs := List V → St → Hp → (St → Hp → Prop) → Prop
def PG (X : Cx) (target : Expr) (t : TG) : Prop :=
  ∀ (pins : List (Addr × Obj)) (s : Shared) (σ : St) (H : Hp) (v : V) (u : Value) (Q : St → Hp → Prop), Inv X pins σ H s → RelV v u → t v σ H Q →
    wpAny (model X.prog X.w) X.A (assign target X.env u) (fun _ s' => ∃ σ' H', Inv X pins σ' H' s' ∧ Q σ' H') X.xe s
/-- several targets, one after another -/
def PGs (X : Cx) (ts : List Expr) (t : TGs) : Prop :=
  ∀ (pins : List (Addr × Obj)) (s : Shared) (σ : St) (H : Hp) (vs : List V) (us : List Value) (Q : St → Hp → Prop), Inv X pins σ H s → Vals vs us → t vs σ H Q →
    wpAny (model X.prog X.w) X.A (assignInOrder ((assignEach ts X.env).map (·.2)) us) (fun _ s' => ∃ σ' H', Inv X pins σ' H' s' ∧ Q σ' H') X.xe s
/-- o[i] = v, by values -/
abbrev TSet := V → V → V → Hp → (Hp → Prop) → Prop
def PSet (X : Cx) (t : TSet) : Prop :=
  ∀ (pins : List (Addr × Obj)) (s : Shared) (σ : St) (H : Hp) (o i v : V) (ov iv u : Value) (Q : Hp → Prop), Inv X pins σ H s → RelV o ov → RelV i iv → RelV v u → t o i v H Q →
    wpAny (model X.prog X.w) X.A (setItem ov iv u) (fun _ s' => ∃ H', Inv X pins σ H' s' ∧ Q H') X.xe s
section
variable {X : Cx} {pos : Pos}
def gName (i : Nat) : TG := fun v σ H Q => Q (σ.set i (some v)) H
theorem pg_name {i : Nat} {x : Str} (hN : X.N.Nodup) (hi : X.N[i]? = some x) (hx : Loc X.env.scope x) (hf : X.fn x = true ∨ X.env.scope.names.lookup x = some .local := by first | exact .inl rfl | exact .inr rfl | assumption) : PG X (.Name x pos) (gName i) := by
  intro pins s σ H v u Q I r h
  exact wpAny_assign_Name (store_ok I hN hi hx r (fun s' I' => ⟨_, H, I', h⟩) hf)
def gNil : TGs := fun vs σ H Q => vs = [] ∧ Q σ H
def gCons (t : TG) (u : TGs) : TGs := fun vs σ H Q => ∃ v r, vs = v :: r ∧ t v σ H fun σ' H' => u r σ' H' Q
theorem pgs_nil : PGs X [] gNil := by
  intro pins s σ H vs us Q I r h
  obtain ⟨e, h⟩ := h
  subst e
  cases r
  exact assignInOrder_nil ⟨σ, H, I, h⟩
theorem pgs_cons {e : Expr} {es : List Expr} {t : TG} {u : TGs} (h1 : PG X e t) (h2 : PGs X es u)
    (hs : (assignEach (e :: es) X.env).map (·.2) = assign e X.env :: (assignEach es X.env).map (·.2) := by rfl) : PGs X (e :: es) (gCons t u) := by
  intro pins s σ H vs us Q I r h
  obtain ⟨v, vr, e1, h⟩ := h
  subst e1
  cases r with
  | cons r rr =>
    rw [hs]
    refine assignInOrder_cons (thn (h1 pins s σ H _ _ _ I r h) fun _ s1 ⟨σ1, H1, I1, q1⟩ => ?_)
    exact h2 pins s1 σ1 H1 _ _ Q I1 rr q1
/-- (a, b, ..) = a tuple of that length -/
def gTup (K : PySem.W.Frag) (n : Nat) (t : TGs) : TG := fun v σ H Q => ∃ a xs, v = .ref a ∧ SqT K H a xs ∧ xs.length = n ∧ t xs σ H Q
theorem pg_tup {es : List Expr} {k : Nat} {t : TGs} {n : Nat} (hc : X.calm = true) (h : PGs X es t)
    (hn : (assignEach es X.env).length = n := by rfl) (hst : (assignEach es X.env).findIdx? (·.1) = none := by rfl) : PG X (.Tuple es k pos) (gTup X.K n t) := by
  intro pins s σ H v u Q I r hw
  obtain ⟨a, xs, e1, hq, hl, hw⟩ := hw
  subst e1
  cases r
  obtain ⟨its, rv, ht, hz⟩ := I.tuple hq
  refine assign_Tuple_tuple (I.ok.hd hc) ht (by simp [hn, ← hl, rv.length]) hst fun h' hx => ?_
  have I1 : Inv X pins σ H { s with heap := h' } := I.kept (t' := s.toks) fun b o e => hx b o (Nat.ne_of_lt (Heap.lt_size e)) e
  exact h pins _ σ H xs _ Q I1 (by simpa using rv) hw
/-- o[i] = .. -/
def gSub (to ti : TE) (t : TSet) : TG := fun v σ H Q => to σ H fun o H1 => ti σ H1 fun i H2 => t o i v H2 fun H3 => Q σ H3
theorem pg_sub {o i : Expr} {to ti : TE} {t : TSet} (ho : PE X o to) (hi : PE X i ti) (hs : PSet X t)
    (ha : ∀ v, assign (.Subscript o i pos) X.env v = (do
      let ov ← holding [v] (eval o X.env)
      let iv ← holding [v, ov] (eval i X.env)
      standAt pos
      holding [v, ov, iv] (setItem ov iv v)
      release [v, ov, iv] []) := by intro _; rfl) : PG X (.Subscript o i pos) (gSub to ti t) := by
  intro pins s σ H v u Q I r h
  rw [ha]
  refine wpAny_bind (wpAny_holding (thn (ho pins s σ H _ I h) fun ov s1 ⟨x, H1, I1, r1, q1⟩ => ?_))
  refine wpAny_bind (wpAny_holding (thn (hi pins s1 σ H1 _ I1 q1) fun iv s2 ⟨y, H2, I2, r2, q2⟩ => ?_))
  refine wpAny_bind (wpAny_standAt (wpAny_bind (wpAny_holding (thn (hs pins s2 σ H2 x y v ov iv u _ I2 r1 r2 r q2) fun _ s3 ⟨H3, I3, q3⟩ => ?_))))
  exact wpAny_release ⟨σ, H3, I3, q3⟩
/-- target = value -/
def tAsg (te : TE) (g : TG) : TS := fun D σ H => te σ H fun x H1 => g x σ H1 D.nx
theorem ps_asg {tg e : Expr} {te : TE} {g : TG} (he : PE X e te) (hg : PG X tg g) (hs : swapsWithSole [tg] e pos.line X.env = pure false := by rfl) (hw : swappedStores [tg] e X.env = pure none := by rfl)
    (h1 : (assignEach [tg] X.env).map (·.2) = [assign tg X.env] := by rfl) : PS X (.Assign [tg] e pos) (tAsg te g) := by
  intro pins s σ H D I h
  refine wpAny_Assign_stores (thn (he pins s σ H _ I h) fun v s1 ⟨x, H1, I1, r1, q1⟩ => ?_) hs hw
  rw [h1]
  exact thn (hg pins s1 σ H1 x v _ I1 r1 q1) fun _ s2 q => q
/-- name = value -/
theorem ps_set {i : Nat} {x : Str} {e : Expr} {te : TE} {pos' : Pos} (hN : X.N.Nodup) (hi : X.N[i]? = some x) (hx : Loc X.env.scope x) (he : PE X e te) (hs : swapsWith e (some (.Name x pos')) pos.line X.env = pure false := by rfl) (hf : X.fn x = true ∨ X.env.scope.names.lookup x = some .local := by first | exact .inl rfl | exact .inr rfl | assumption) :
    PS X (.Assign [.Name x pos'] e pos) (tAsg te (gName i)) := by
  intro pins s σ H D I h
  refine wpAny_Assign_Name (thn (he pins s σ H _ I h) fun v s1 ⟨y, H1, I1, r1, q1⟩ => ?_) hs
  exact store_ok I1 hN hi hx r1 (fun s2 I2 => ⟨_, H1, I2, q1⟩) hf
/-- a, b = x, y with plain local names: stored from the right; the pair itself is not tracked (the opening rows as in PyProof/Rows/TupAssign.lean:23) -/
def tPar (i j : Nat) (ta : TA) : TS := fun D σ H => ta σ H fun vs H1 => ∃ v w, vs = [v, w] ∧ D.nx ((σ.set i (some v)).set j (some w)) H1
theorem ps_par {i j : Nat} {x y : Str} {a b : Expr} {ta : TA} {px py pt : Pos} {kt k2 pt2} (hc : X.calm = true) (hN : X.N.Nodup) (hi : X.N[i]? = some x) (hj : X.N[j]? = some y) (hij : i ≠ j)
    (hx : X.env.scope.names.lookup x = some .local) (hy : X.env.scope.names.lookup y = some .local) (ha : PA X [a, b] ta)
    (hw : swappedStores [.Tuple [.Name x px, .Name y py] kt pt] (.Tuple [a, b] k2 pt2) X.env = pure (some [x, y]))
    (hs : swapsWithSole [.Tuple [.Name x px, .Name y py] kt pt] (.Tuple [a, b] k2 pt2) pos.line X.env = pure false := by rfl) :
    PS X (.Assign [.Tuple [.Name x px, .Name y py] kt pt] (.Tuple [a, b] k2 pt2) pos) (tPar i j ta) := by
  intro pins s σ H D I h
  rw [exec_Assign_arm]
  refine wpAny_bind (wpAny_standAt ?_)
  rw [hs]
  refine wpAny_bind (wpAny_pure ?_)
  rw [if_neg (by decide)]
  refine wpAny_bind (Tuple_ (thn (ha _ pins s σ H _ I h) fun us s1 ⟨vs, H1, I1, r1, q1⟩ => ?_))
  obtain ⟨v, w, e1, q1⟩ := q1
  subst e1
  obtain ⟨u1, u2, rfl, rv, rw'⟩ : ∃ u1 u2, us = [u1, u2] ∧ RelV v u1 ∧ RelV w u2 := by
    cases r1 with
    | cons p q =>
      cases q with
      | cons p' q' =>
        cases q'
        exact ⟨_, _, rfl, p, p'⟩
  refine wpAny_newObj_type ?_ (by show 2 ≤ sizeLine; decide)
  have I2 : Inv X pins σ H1 { s1 with heap := s1.heap.push { cls := .type "tuple", data := .seq [u1, u2].toArray } } := I1.kept (t' := s1.toks) fun b o e => Heap.get?_push_of_some _ e
  rw [hw]
  refine wpAny_bind (wpAny_pure ?_)
  show wpAny (model X.prog X.w) X.A (do rule "assign.swapped-stores"; let items ← unpackItems (.ref s1.heap.objs.size) 2 none; assignInOrder [fun v => bindName X.env y v, fun v => bindName X.env x v] items.reverse; pure Flow.next) _ _ _
  refine wpAny_bind (wpAny_rule (wpAny_bind (unpackItems_tuple (items := #[u1, u2]) (I.ok.hd hc) (IsTup.new s1.heap _) fun h' hx' => ?_)))
  have I3 := I2.kept (h' := h') (t' := s1.toks) fun b o e => hx' b o (Nat.ne_of_lt (Heap.lt_size e)) e
  show wpAny _ _ (assignInOrder [fun v => bindName X.env y v, fun v => bindName X.env x v] [u2, u1] >>= fun _ => pure Flow.next) _ _ _
  refine wpAny_bind (assignInOrder_cons (wpAny_bindName (store_ok I3 hN hj (.inl hy) rw' (fun s2 I4 => ?_) (.inr hy))))
  refine assignInOrder_cons (wpAny_bindName (store_ok I4 hN hi (.inl hx) rv (fun s3 I5 => assignInOrder_nil (wpAny_pure ?_)) (.inr hx)))
  rw [List.set_comm _ _ (Ne.symm hij)] at I5
  exact ⟨_, H1, I5, q1⟩
end

/-! ### while -/
section
variable {X : Cx} {pos : Pos}
/-- the invariant W with its measure -/
def tWhile (c : TT) (tb : TS) : TS := fun D σ H => ∃ W : Nat → St → Hp → Prop, (∃ m, W m σ H) ∧ ∀ m σ H, W m σ H →
  c σ H fun b H1 => if b = true then ∃ N : St → Hp → Prop, (∀ σ' H', N σ' H' → ∃ m', m' < m ∧ W m' σ' H') ∧ tb { D with nx := N, ct := N, bk := D.nx } σ H1 else D.nx σ H1
theorem ps_while {c : Expr} {body : List Stmt} {tc : TT} {tb : TS} (hp : PassesOwn (model X.prog X.w) X.A X.env X.xe) (hc : PT X c tc) (hb : PSs X body tb) : PS X (.While c body [] pos) (tWhile tc tb) := by
  intro pins s σ H D I h
  obtain ⟨W, ⟨m0, w0⟩, turn⟩ := h
  refine wpAny_While (codeAny_whileLoop (fun n s' => ∃ σ' H', Inv X pins σ' H' s' ∧ W n σ' H') ?_ m0 ⟨σ, H, I, w0⟩)
  rintro n s1 ⟨σ1, H1, I1, w1⟩
  refine wpAny_passesOwn hp (thn (hc pins s1 σ1 H1 _ I1 (turn n σ1 H1 w1)) fun b s2 ⟨H2, I2, q2⟩ => ?_)
  cases b with
  | true =>
    obtain ⟨N, hN, q2⟩ := q2
    rw [if_pos rfl]
    refine wpAny_passesOwn hp (thn (hb pins s2 σ1 H2 _ I2 q2) fun f s3 q3 => ?_)
    cases f with
    | next =>
      obtain ⟨σ3, H3, I3, n3⟩ := q3
      obtain ⟨m', hm, w3⟩ := hN σ3 H3 n3
      exact ⟨m', hm, σ3, H3, I3, w3⟩
    | cont =>
      obtain ⟨σ3, H3, I3, n3⟩ := q3
      obtain ⟨m', hm, w3⟩ := hN σ3 H3 n3
      exact ⟨m', hm, σ3, H3, I3, w3⟩
    | brk => exact q3
    | ret v => exact q3
  | false =>
    rw [if_neg Bool.false_ne_true]
    exact wpAny_execs_nil ⟨σ1, H2, I2, q2⟩
end

/-! ### what a loop or a comprehension walks -/
/-- at turn i: it yields x (the heap may grow), or it stops -/
structure It where
  go : Nat → Hp → Prop
  yld : Nat → Hp → V → Hp → Prop
  stop : Nat → Hp → Prop
/-- the iterator's own objects may turn: they are not the frame's, not pinned, younger than the entry (or a comprehension's own) -/
def FpOk (X : Cx) (pins : List (Addr × Obj)) (H : Hp) (b : Addr) : Prop :=
  H b = none ∧ b ≠ X.env.locals ∧ b ∉ X.fs ∧ (b ∈ X.ex ∨ X.s₀.heap.objs.size ≤ b) ∧ (∀ x c, X.env.cells.lookup x = some c → c ≠ b) ∧ ∀ p ∈ X.pn ++ pins, p.1 ≠ b
theorem Inv.fpOk {X : Cx} {pins : List (Addr × Obj)} {σ : St} {H H' : Hp} {s : Shared} {b : Addr} (I : Inv X pins σ H s) (hb : s.heap.objs.size ≤ b) (hn : H' b = none) : FpOk X pins H' b := by
  refine ⟨hn, Nat.ne_of_gt (Nat.lt_of_lt_of_le I.lt hb), I.nofs hb, .inr (Nat.le_trans I.sz hb), fun x c e z => ?_, fun p hp z => ?_⟩
  · obtain ⟨v, q⟩ := I.cell x c e
    exact absurd (Nat.lt_of_lt_of_le q.lt (by rw [z]; exact hb)) (Nat.lt_irrefl _)
  · exact absurd (Nat.lt_of_lt_of_le (Heap.lt_size (I.pin p hp).1) (by rw [z]; exact hb)) (Nat.lt_irrefl _)
structure Turn (P : Program) (w : World) (K : PySem.W.Frag) (tg : Expr) (J : It) (fp : List Addr) (it : Addr) (tn : Nat → Heap → Prop) : Prop where
  mem : it ∈ fp
  obj : ∀ i h, tn i h → ∀ b ∈ fp, ∃ o, h.get? b = some o ∧ ∀ v, o.data ≠ .cell v
  keep : ∀ i h h', tn i h → (∀ b ∈ fp, ∀ o, h.get? b = some o → h'.get? b = some o) → tn i h'
  item : ∀ (X : Cx), X.prog = P → X.w = w → X.K = K → X.calm = true → ∀ (i : Nat) (pins : List (Addr × Obj)) (s : Shared) (σ : St) (H : Hp) (E : Value → Shared → Prop), Inv X pins σ H s → (∀ b ∈ fp, FpOk X pins H b) → tn i s.heap → J.go i H →
    wpAny (model P w) X.A (pyNext (.ref it)) (fun r s1 => ∃ u, r = some u ∧
      wpAny (model P w) X.A (letOwnedTupleGo tg (.ref it) u) (fun _ s2 => ∃ x H', Inv X pins σ H' s2 ∧ RelV x u ∧ J.yld i H x H' ∧ tn (i + 1) s2.heap ∧ ∀ b ∈ fp, H' b = none) E s1) E s
  done : ∀ (X : Cx), X.prog = P → X.w = w → X.K = K → X.calm = true → ∀ (i : Nat) (pins : List (Addr × Obj)) (s : Shared) (σ : St) (H : Hp) (E : Value → Shared → Prop), Inv X pins σ H s → (∀ b ∈ fp, FpOk X pins H b) → tn i s.heap → J.stop i H →
    wpAny (model P w) X.A (pyNext (.ref it)) (fun r s1 => r = none ∧ Inv X pins σ H s1) E s
  self : ∀ (A : Around) (i : Nat) (s : Shared) (Q : Value → Shared → Prop) (E : Value → Shared → Prop), tn i s.heap → Q (.ref it) s → wpAny (model P w) A (pyIter (.ref it)) Q E s
abbrev TI := St → Hp → (It → Hp → Prop) → Prop
/-- an iterator has come -/
def PIE (X : Cx) (pins : List (Addr × Obj)) (σ : St) (tg : Expr) (R : It → Hp → Prop) (itv : Value) (s2 : Shared) : Prop :=
  ∃ (it : Addr) (fp : List Addr) (tn : Nat → Heap → Prop) (J : It) (H' : Hp), itv = .ref it ∧ Inv X pins σ H' s2 ∧ Turn X.prog X.w X.K tg J fp it tn ∧ tn 0 s2.heap ∧ (∀ b ∈ fp, FpOk X pins H' b) ∧ R J H'
def PI (X : Cx) (tg iter : Expr) (wi : TI) : Prop :=
  ∀ (pins : List (Addr × Obj)) (s : Shared) (σ : St) (H : Hp) (R : It → Hp → Prop), Inv X pins σ H s → wi σ H R →
    wpAny (model X.prog X.w) X.A (eval iter X.env) (fun v s1 => wpAny (model X.prog X.w) X.A (pyIter v) (PIE X pins σ tg R) X.xe s1) X.xe s

/-- the step ahead of the store is nothing for an iterator that keeps no tuple -/
theorem go_of {M : Model} {A : Around} {E : Value → Shared → Prop} {s : Shared} {tg : Expr} {it : Addr} {u : Value} {o : Obj} {n : String} {vs : Array Value} {Q : Unit → Shared → Prop} (ho : s.heap.get? it = some o) (hc : o.cls = .type n) (hd : o.data = .fields vs)
    (hn : ["enumerate", "zip", "dict_itemiterator", "dict_reverseitemiterator", "odict_iterator", "itertools.zip_longest", "itertools.pairwise"].contains n = false) (hQ : Q () s) : wpAny M A (letOwnedTupleGo tg (.ref it) u) Q E s := by
  unfold letOwnedTupleGo
  cases tg <;> first
    | exact wpAny_pure hQ
    | (cases u <;> first
        | exact wpAny_pure hQ
        | (refine wpAny_bind (wpAny_load ho ?_)
           rw [hc, hd]
           show wpAny M A (if (["enumerate", "zip", "dict_itemiterator", "dict_reverseitemiterator", "odict_iterator", "itertools.zip_longest", "itertools.pairwise"].contains n && vs[0]? == some (rawInt _)) = true then _ else _) Q E s
           rw [if_neg (by intro h; rw [hn, Bool.false_and] at h; cases h)]
           exact wpAny_pure hQ))

/-- the list at a, as it stands at each turn (a loop may append to it) -/
def Itl (K : PySem.W.Frag) (a : Addr) : It :=
  ⟨fun i H => ∃ xs x, SqL K H a xs ∧ xs[i]? = some x, fun i H x H' => H' = H ∧ ∀ xs, SqL K H a xs → xs[i]? = some x, fun i H => ∃ xs, SqL K H a xs ∧ xs.length ≤ i⟩
def Itt (K : PySem.W.Frag) (a : Addr) : It :=
  ⟨fun i H => ∃ xs x, SqT K H a xs ∧ xs[i]? = some x, fun i H x H' => H' = H ∧ ∀ xs, SqT K H a xs → xs[i]? = some x, fun i H => ∃ xs, SqT K H a xs ∧ xs.length ≤ i⟩
/-- lo, lo + 1, .. (n of them) -/
def Itr (lo : Int) (n : Nat) : It := ⟨fun i _ => i < n, fun i H x H' => H' = H ∧ x = .int (lo + i), fun i _ => n ≤ i⟩
theorem turn_list {P : Program} {w : World} {K : PySem.W.Frag} {tg : Expr} (a it : Addr) : Turn P w K tg (Itl K a) [it] it (fun i h => h.IsListIter it a i) where
  mem := by simp
  obj := fun i h st b hb => by
    have e : b = it := by simpa using hb
    subst e
    obtain ⟨o, e, c, d⟩ := st
    exact ⟨o, e, fun v z => by rw [d] at z; cases z⟩
  keep := fun i h h' st k => st.at fun o e => k it (by simp) o e
  item := by
    intro X hP hw hK hc i pins s σ H E I hf st hg
    subst hP hw hK
    obtain ⟨xs, x, hq, hx⟩ := hg
    obtain ⟨its, rv, p, hz⟩ := I.list hq
    obtain ⟨u, hu, ru⟩ := rv.get hx
    obtain ⟨f0, f1, f2, f3, f4, f5⟩ := hf it (by simp)
    refine wpAny_pyNext_list_item st p.isList (x := u) (by simpa using hu) fun h' st' sb => ?_
    have I1 : Inv X pins σ H { s with heap := h' } := I.turned (t' := s.toks) (fun b o hb e => (sb.2 b hb).trans e) f0 f1 f3 f4 f5
    obtain ⟨o, e, c, d⟩ := id st'
    exact ⟨u, rfl, go_of (s := { s with heap := h' }) e c d (by decide) ⟨x, H, I1, ru, ⟨rfl, fun ys hy => by rw [I.list_inj hy hq]; exact hx⟩, st', fun b hb => (hf b hb).1⟩⟩
  done := by
    intro X hP hw hK hc i pins s σ H E I hf st hg
    subst hP hw hK
    obtain ⟨xs, hq, hx⟩ := hg
    obtain ⟨its, rv, p, hz⟩ := I.list hq
    obtain ⟨f0, f1, f2, f3, f4, f5⟩ := hf it (by simp)
    have hl := rv.length
    exact wpAny_pyNext_list_end (I.ok.hd hc) st p.isList (by simp; omega) fun h' eb => ⟨rfl, I.turned (t' := s.toks) (fun b o hb e => eb b o hb e) f0 f1 f3 f4 f5⟩
  self := fun _ _ _ _ _ st h => wpAny_pyIter_listiter st h
theorem turn_tuple {P : Program} {w : World} {K : PySem.W.Frag} {tg : Expr} (a it : Addr) : Turn P w K tg (Itt K a) [it] it (fun i h => h.IsTupleIter it a i) where
  mem := by simp
  obj := fun i h st b hb => by
    have e : b = it := by simpa using hb
    subst e
    obtain ⟨o, e, c, d⟩ := st
    exact ⟨o, e, fun v z => by rw [d] at z; cases z⟩
  keep := fun i h h' st k => st.at fun o e => k it (by simp) o e
  item := by
    intro X hP hw hK hc i pins s σ H E I hf st hg
    subst hP hw hK
    obtain ⟨xs, x, hq, hx⟩ := hg
    obtain ⟨its, rv, p, hz⟩ := I.tuple hq
    obtain ⟨u, hu, ru⟩ := rv.get hx
    obtain ⟨f0, f1, f2, f3, f4, f5⟩ := hf it (by simp)
    refine wpAny_pyNext_tuple_item st (show s.heap.IsTuple a its.toArray from p) (x := u) (by simpa using hu) fun h' st' sb => ?_
    have I1 : Inv X pins σ H { s with heap := h' } := I.turned (t' := s.toks) (fun b o hb e => (sb.2 b hb).trans e) f0 f1 f3 f4 f5
    obtain ⟨o, e, c, d⟩ := id st'
    exact ⟨u, rfl, go_of (s := { s with heap := h' }) e c d (by decide) ⟨x, H, I1, ru, ⟨rfl, fun ys hy => by rw [I.tuple_inj hy hq]; exact hx⟩, st', fun b hb => (hf b hb).1⟩⟩
  done := by
    intro X hP hw hK hc i pins s σ H E I hf st hg
    subst hP hw hK
    obtain ⟨xs, hq, hx⟩ := hg
    obtain ⟨its, rv, p, hz⟩ := I.tuple hq
    obtain ⟨f0, f1, f2, f3, f4, f5⟩ := hf it (by simp)
    have hl := rv.length
    exact wpAny_pyNext_tuple_end (I.ok.hd hc) st (show s.heap.IsTuple a its.toArray from p) (by simp; omega) fun h' eb => ⟨rfl, I.turned (t' := s.toks) (fun b o hb e => eb b o hb e) f0 f1 f3 f4 f5⟩
  self := fun _ _ _ _ _ st h => wpAny_pyIter_tupleiter st h
theorem turn_range {P : Program} {w : World} {K : PySem.W.Frag} {tg : Expr} (it : Addr) (lo : Int) (n : Nat) : Turn P w K tg (Itr lo n) [it] it (fun i h => IsRangeIter h it (lo + (i : Nat) * 1) ((n : Int) - (i : Nat)) 1) where
  mem := by simp
  obj := fun i h st b hb => by
    have e : b = it := by simpa using hb
    subst e
    exact ⟨_, st, fun v z => by
      have z' : Data.fields _ = Data.cell v := z
      cases z'⟩
  keep := fun i h h' st k => k it (by simp) _ st
  item := by
    intro X hP hw hK hc i pins s σ H E I hf st hg
    subst hP hw hK
    obtain ⟨f0, f1, f2, f3, f4, f5⟩ := hf it (by simp)
    have W := Walks.range (prog := X.prog) (w := X.w) (I.ok.hd hc) it lo 1 n
    refine W.item i s _ _ hg st fun v h' tk hv st' kk => ?_
    obtain ⟨t, rfl⟩ := hv
    have I1 : Inv X pins σ H { s with heap := h', toks := tk } := I.turned (fun b o hb e => kk b o (by simpa using hb) e) f0 f1 f3 f4 f5
    refine ⟨_, rfl, go_of (s := { s with heap := h', toks := tk }) (n := "range_iterator") st' rfl rfl (by decide) ⟨.int (lo + i), H, I1, ⟨t, ?_⟩, ⟨rfl, rfl⟩, st', fun b hb => (hf b hb).1⟩⟩
    rw [Int.mul_one]
  done := by
    intro X hP hw hK hc i pins s σ H E I hf st hg
    subst hP hw hK
    obtain ⟨f0, f1, f2, f3, f4, f5⟩ := hf it (by simp)
    exact wpAny_pyNext_range_end (I.ok.hd hc) st (by have : n ≤ i := hg; omega) fun h' eb => ⟨rfl, I.turned (t' := s.toks) (fun b o hb e => eb b o hb e) f0 f1 f3 f4 f5⟩
  self := fun _ _ _ _ _ st h => wpAny_pyIter_rangeiter st h
end L2

namespace L2
open PySem PySem.Spec PyProof.Rows
section
variable {X : Cx} {tg : Expr}
def iList (K : PySem.W.Frag) (tl : TE) : TI := fun σ H R => tl σ H fun x H1 => ∃ a, x = .ref a ∧ (∃ xs, SqL K H1 a xs) ∧ R (Itl K a) H1
def iTup (K : PySem.W.Frag) (tl : TE) : TI := fun σ H R => tl σ H fun x H1 => ∃ a, x = .ref a ∧ (∃ xs, SqT K H1 a xs) ∧ R (Itt K a) H1
theorem pi_list {l : Expr} {tl : TE} (hl : PE X l tl) : PI X tg l (iList X.K tl) := by
  intro pins s σ H R I h
  refine thn (hl pins s σ H _ I h) fun v s1 ⟨x, H1, I1, r1, q1⟩ => ?_
  obtain ⟨a, e, ⟨xs, hq⟩, q⟩ := q1
  subst e
  cases r1
  obtain ⟨its, rv, p, hz⟩ := I1.list hq
  refine wpAny_pyIter_list p.isList ?_
  refine ⟨s1.heap.objs.size, [s1.heap.objs.size], _, _, H1, rfl, I1.kept (t' := s1.toks) fun b o e => Heap.get?_push_of_some _ e, turn_list a _, ⟨_, Heap.get?_push_size _ rfl, rfl, rfl⟩, fun b hb => ?_, q⟩
  have e : b = s1.heap.objs.size := by simpa using hb
  subst e
  exact I1.fpOk (Nat.le_refl _) (I1.hok.fresh (Nat.le_refl _))
theorem pi_tup {l : Expr} {tl : TE} (hl : PE X l tl) : PI X tg l (iTup X.K tl) := by
  intro pins s σ H R I h
  refine thn (hl pins s σ H _ I h) fun v s1 ⟨x, H1, I1, r1, q1⟩ => ?_
  obtain ⟨a, e, ⟨xs, hq⟩, q⟩ := q1
  subst e
  cases r1
  obtain ⟨its, rv, p, hz⟩ := I1.tuple hq
  refine wpAny_pyIter_tuple (show s1.heap.IsTuple a its.toArray from p) ?_
  refine ⟨s1.heap.objs.size, [s1.heap.objs.size], _, _, H1, rfl, I1.kept (t' := s1.toks) fun b o e => Heap.get?_push_of_some _ e, turn_tuple a _, ⟨_, Heap.get?_push_size _ rfl, rfl, rfl⟩, fun b hb => ?_, q⟩
  have e : b = s1.heap.objs.size := by simpa using hb
  subst e
  exact I1.fpOk (Nat.le_refl _) (I1.hok.fresh (Nat.le_refl _))
/-- a range object just made, walked -/
theorem range_it {pins : List (Addr × Obj)} {σ : St} {H : Hp} {s : Shared} {R : It → Hp → Prop} {E : Value → Shared → Prop} {lo hi : Int} {t u v : Tok} {tk : Nat} (I : Inv X pins σ H s) (h1 : -(2 ^ 62) ≤ lo) (h2 : lo < 2 ^ 62) (h3 : -(2 ^ 62) ≤ hi) (h4 : hi < 2 ^ 62)
    (q : R (Itr lo (hi - lo).toNat) H) : wpAny (model X.prog X.w) X.A (pyIter (.ref s.heap.objs.size)) (PIE X pins σ tg R) E { s with heap := s.heap.push { cls := .type "range", data := .fields #[.int lo t, .int hi u, .int 1 v] }, toks := tk } := by
  refine wpAny_pyIter_range (IsRange.new ..) (small_one h1 h2 h3 h4) ?_
  have I1 : Inv X pins σ H { s with heap := s.heap.push { cls := .type "range", data := .fields #[.int lo t, .int hi u, .int 1 v] }, toks := tk } := I.kept fun b o e => Heap.get?_push_of_some _ e
  refine ⟨(s.heap.push { cls := .type "range", data := .fields #[.int lo t, .int hi u, .int 1 v] }).objs.size, [(s.heap.push { cls := .type "range", data := .fields #[.int lo t, .int hi u, .int 1 v] }).objs.size], _, _, H, rfl,
    I1.kept (t' := tk) fun b o e => Heap.get?_push_of_some _ e, turn_range _ lo (hi - lo).toNat, ?_, fun b hb => ?_, q⟩
  · have e1 : lo + ((0 : Nat) : Int) * 1 = lo := by simp
    have e2 : (((hi - lo).toNat : Nat) : Int) - ((0 : Nat) : Int) = Builtin.Range.rangeSize lo hi 1 := by rw [rangeSize_one]; split <;> omega
    show IsRangeIter _ _ (lo + ((0 : Nat) : Int) * 1) ((((hi - lo).toNat : Nat) : Int) - ((0 : Nat) : Int)) 1
    rw [e1, e2]
    exact Heap.get?_push_size _ rfl
  · have e : b = (s.heap.push { cls := .type "range", data := .fields #[.int lo t, .int hi u, .int 1 v] }).objs.size := by simpa using hb
    subst e
    exact I1.fpOk (Nat.le_refl _) (I1.hok.fresh (Nat.le_refl _))
def iRng1 (ta : TA) : TI := fun σ H R => ta σ H fun vs H1 => ∃ j : Int, vs = [.int j] ∧ -(2 ^ 62) ≤ j ∧ j < 2 ^ 62 ∧ R (Itr 0 j.toNat) H1
theorem pi_range1 {a : Expr} {ta : TA} {p pos : Pos} (hg : Gl X "range") (hm : X.mg "range" = none) (ha : PA X [a] ta) (hs : starEach [a] X.env = [(false, eval a X.env)] := by rfl) : PI X tg (.Call (.Name "range" p) [a] [] pos) (iRng1 ta) := by
  intro pins s σ H R I h
  refine Call_ (ld_blt I hg hm boot_range (PyProof.Rows.callWith_type1 (thn (ha pos pins s σ H _ I h) fun us s1 ⟨vs, H1, I1, r1, q1⟩ => ?_) hs rfl))
  obtain ⟨j, e, q1, q2, q⟩ := q1
  subst e
  cases r1 with
  | cons r rr =>
    cases rr
    obtain ⟨t, rfl⟩ := r
    exact call_range_1 (range_it I1 (by omega) (by omega) q1 q2 (by simpa using q))

/-! ### for -/
/-- W: the invariant by the turn and a measure; N: what the body is to reach -/
def tFor (wi : TI) (g : TG) (tb : TS) : TS := fun D σ H => wi σ H fun J H1 => ∃ W : Nat → Nat → St → Hp → Prop, (∃ m, W 0 m σ H1) ∧ ∀ i m σ H, W i m σ H →
  (J.stop i H ∧ D.nx σ H) ∨ (J.go i H ∧ ∃ N : St → Hp → Prop, (∀ σ' H', N σ' H' → ∃ m', m' < m ∧ W (i + 1) m' σ' H') ∧ ∀ x H', J.yld i H x H' → g x σ H' fun σ2 H2 => tb { D with nx := N, ct := N, bk := D.nx } σ2 H2)
/-- the records at fp as they stand -/
def pinsAt (fp : List Addr) (h : Heap) : List (Addr × Obj) := fp.filterMap fun b => (h.get? b).map fun o => (b, o)
theorem mem_pinsAt {fp : List Addr} {h : Heap} {b : Addr} {o : Obj} (hb : b ∈ fp) (e : h.get? b = some o) : (b, o) ∈ pinsAt fp h := List.mem_filterMap.mpr ⟨b, hb, by rw [e]; rfl⟩
theorem of_pinsAt {fp : List Addr} {h : Heap} {p : Addr × Obj} (hp : p ∈ pinsAt fp h) : p.1 ∈ fp ∧ h.get? p.1 = some p.2 := by
  obtain ⟨b, hb, e⟩ := List.mem_filterMap.mp hp
  cases q : h.get? b with
  | none => rw [q] at e; cases e
  | some o =>
    rw [q] at e
    have e' : (b, o) = p := Option.some.inj e
    subst e'
    exact ⟨hb, q⟩
theorem Inv.pinned {pins : List (Addr × Obj)} {σ : St} {H : Hp} {s : Shared} {fp : List Addr} (I : Inv X pins σ H s) (hf : ∀ b ∈ fp, FpOk X pins H b) (ho : ∀ b ∈ fp, ∃ o, s.heap.get? b = some o ∧ ∀ v, o.data ≠ .cell v) : Inv X (pins ++ pinsAt fp s.heap) σ H s :=
  I.pins_of fun p hp => (List.mem_append.mp hp).elim (fun z => I.pin p (List.mem_append_right _ z)) fun z => by
    obtain ⟨hb, e⟩ := of_pinsAt z
    obtain ⟨f0, f1, f2, _⟩ := hf p.1 hb
    obtain ⟨o, e', d⟩ := ho p.1 hb
    rw [e] at e'; cases e'
    exact ⟨e, f0, f1, f2, d⟩
theorem Inv.unpinned {pins pl : List (Addr × Obj)} {σ : St} {H : Hp} {s : Shared} (I : Inv X (pins ++ pl) σ H s) : Inv X pins σ H s := I.pins_of fun p hp => I.pin p (List.mem_append_right _ (List.mem_append_left _ hp))
theorem ps_for {iter : Expr} {body : List Stmt} {wi : TI} {g : TG} {tb : TS} {pos : Pos} (hp : PassesOwn (model X.prog X.w) X.A X.env X.xe) (hc : X.calm = true) (hi : PI X tg iter wi) (hg : PG X tg g) (hb : PSs X body tb)
    (hs : ∀ x, foldedSetIterable iter X.env x = pure x := by intro _; rfl) : PS X (.For tg iter body [] pos) (tFor wi g tb) := by
  intro pins s σ H D I h
  refine wpAny_For (thn (hi pins s σ H _ I h) fun v s1 h1 => thn h1 fun itv s2 h2 => ?_) hs
  obtain ⟨it, fp, tn, J, H2, e, I2, T, st2, f2, W, ⟨m0, w0⟩, turn⟩ := h2
  subst e
  -- what stays true of the iterator's objects through the loop
  have stat : ∀ {H' : Hp}, (∀ b ∈ fp, H' b = none) → ∀ b ∈ fp, FpOk X pins H' b := fun hn b hb => ⟨hn b hb, (f2 b hb).2⟩
  refine codeAny_forLoop_any (fun n s' => ∃ i σ' H', Inv X pins σ' H' s' ∧ tn i s'.heap ∧ (∀ b ∈ fp, H' b = none) ∧ W i n σ' H') ?_ m0 ⟨0, σ, H2, I2, st2, fun b hb => (f2 b hb).1, w0⟩
  rintro n s3 ⟨i, σ3, H3, I3, st3, fr3, w3⟩
  rcases turn i n σ3 H3 w3 with ⟨stop, qn⟩ | ⟨go, N, hN, step⟩
  · refine wpAny_passesOwn hp (thn (T.done X rfl rfl rfl hc i pins s3 σ3 H3 X.xe I3 (stat fr3) st3 stop) fun r s4 ⟨hr, I4⟩ => ?_)
    subst hr
    exact wpAny_execs_nil ⟨σ3, H3, I4, qn⟩
  · refine wpAny_passesOwn hp (thn (T.item X rfl rfl rfl hc i pins s3 σ3 H3 X.xe I3 (stat fr3) st3 go) fun r s4 ⟨u, hr, h4⟩ => ?_)
    subst hr
    refine wpAny_passesOwn hp (thn h4 fun _ s5 ⟨x, H5, I5, r5, y5, st5, fr5⟩ => ?_)
    have I5' := I5.pinned (stat fr5) (T.obj _ _ st5)
    refine wpAny_passesOwn hp (thn (hg _ s5 σ3 H5 x u _ I5' r5 (step x H5 y5)) fun _ s6 ⟨σ6, H6, I6, q6⟩ => ?_)
    refine wpAny_passesOwn hp (thn (hb _ s6 σ6 H6 _ I6 q6) fun f s7 q7 => ?_)
    have again : ∀ {σ7 : St} {H7 : Hp}, Inv X (pins ++ pinsAt fp s5.heap) σ7 H7 s7 → N σ7 H7 → ∃ m, m < n ∧ ∃ i σ' H', Inv X pins σ' H' s7 ∧ tn i s7.heap ∧ (∀ b ∈ fp, H' b = none) ∧ W i m σ' H' := fun {σ7 H7} I7 n7 => by
      obtain ⟨m', hm, w7⟩ := hN σ7 H7 n7
      refine ⟨m', hm, i + 1, σ7, H7, I7.unpinned, T.keep _ _ _ st5 fun b hb o e => (I7.pin (b, o) (List.mem_append_right _ (List.mem_append_right _ (mem_pinsAt hb e)))).1, fun b hb => ?_, w7⟩
      obtain ⟨o, e, d⟩ := T.obj _ _ st5 b hb
      exact (I7.pin (b, o) (List.mem_append_right _ (List.mem_append_right _ (mem_pinsAt hb e)))).2.1
    cases f with
    | next => obtain ⟨σ7, H7, I7, n7⟩ := q7; exact again I7 n7
    | cont => obtain ⟨σ7, H7, I7, n7⟩ := q7; exact again I7 n7
    | brk => obtain ⟨σ7, H7, I7, q7⟩ := q7; exact ⟨σ7, H7, I7.unpinned, q7⟩
    | ret v => obtain ⟨x7, σ7, H7, I7, r7, q7⟩ := q7; exact ⟨x7, σ7, H7, I7.unpinned, r7, q7⟩
end

/-! ### the forms one uses -/
/-- over a list that the body leaves as it is -/
theorem for_list {K : PySem.W.Frag} {a : Addr} {xs : List V} {g : TG} {tb : TS} {D : Ends} {σ : St} {H : Hp} (Pv : Nat → St → Hp → Prop) (h0 : Pv 0 σ H) (hl : ∀ i σ H, i ≤ xs.length → Pv i σ H → SqL K H a xs)
    (hs : ∀ i x σ H, xs[i]? = some x → Pv i σ H → g x σ H fun σ2 H2 => tb { D with nx := Pv (i + 1), ct := Pv (i + 1), bk := D.nx } σ2 H2) (hd : ∀ σ H, Pv xs.length σ H → D.nx σ H) :
    ∃ W : Nat → Nat → St → Hp → Prop, (∃ m, W 0 m σ H) ∧ ∀ i m σ H, W i m σ H →
      ((Itl K a).stop i H ∧ D.nx σ H) ∨ ((Itl K a).go i H ∧ ∃ N : St → Hp → Prop, (∀ σ' H', N σ' H' → ∃ m', m' < m ∧ W (i + 1) m' σ' H') ∧ ∀ x H', (Itl K a).yld i H x H' → g x σ H' fun σ2 H2 => tb { D with nx := N, ct := N, bk := D.nx } σ2 H2) := by
  refine ⟨fun i m σ H => m = xs.length - i ∧ i ≤ xs.length ∧ Pv i σ H, ⟨xs.length, by simp, Nat.zero_le _, h0⟩, ?_⟩
  rintro i m σ H ⟨rfl, hi, p⟩
  have q := hl i σ H hi p
  by_cases hlt : i < xs.length
  · refine .inr ⟨⟨xs, xs[i], q, by simp [hlt]⟩, Pv (i + 1), fun σ' H' p' => ⟨xs.length - (i + 1), by omega, rfl, hlt, p'⟩, fun x H' y => ?_⟩
    obtain ⟨e, y⟩ := y
    subst e
    exact hs i x σ _ (y xs q) p
  · have e : i = xs.length := by omega
    subst e
    exact .inl ⟨⟨xs, q, Nat.le_refl _⟩, hd σ H p⟩
theorem for_range {lo : Int} {n : Nat} {g : TG} {tb : TS} {D : Ends} {σ : St} {H : Hp} (Pv : Nat → St → Hp → Prop) (h0 : Pv 0 σ H)
    (hs : ∀ i σ H, i < n → Pv i σ H → g (.int (lo + i)) σ H fun σ2 H2 => tb { D with nx := Pv (i + 1), ct := Pv (i + 1), bk := D.nx } σ2 H2) (hd : ∀ σ H, Pv n σ H → D.nx σ H) :
    ∃ W : Nat → Nat → St → Hp → Prop, (∃ m, W 0 m σ H) ∧ ∀ i m σ H, W i m σ H →
      ((Itr lo n).stop i H ∧ D.nx σ H) ∨ ((Itr lo n).go i H ∧ ∃ N : St → Hp → Prop, (∀ σ' H', N σ' H' → ∃ m', m' < m ∧ W (i + 1) m' σ' H') ∧ ∀ x H', (Itr lo n).yld i H x H' → g x σ H' fun σ2 H2 => tb { D with nx := N, ct := N, bk := D.nx } σ2 H2) := by
  refine ⟨fun i m σ H => m = n - i ∧ i ≤ n ∧ Pv i σ H, ⟨n, by simp, Nat.zero_le _, h0⟩, ?_⟩
  rintro i m σ H ⟨rfl, hi, p⟩
  by_cases hlt : i < n
  · refine .inr ⟨hlt, Pv (i + 1), fun σ' H' p' => ⟨n - (i + 1), by omega, rfl, hlt, p'⟩, fun x H' y => ?_⟩
    obtain ⟨e, y⟩ := y
    subst e y
    exact hs i σ _ hlt p
  · have e : i = n := by omega
    subst e
    exact .inl ⟨Nat.le_refl _, hd σ H p⟩
/-- while, by a word and a measure of the state -/
theorem while_by {c : TT} {tb : TS} {D : Ends} {σ : St} {H : Hp} (Pv : St → Hp → Prop) (μ : St → Hp → Nat) (h0 : Pv σ H)
    (hs : ∀ σ H, Pv σ H → c σ H fun b H1 => if b = true then tb { D with nx := fun σ' H' => Pv σ' H' ∧ μ σ' H' < μ σ H, ct := fun σ' H' => Pv σ' H' ∧ μ σ' H' < μ σ H, bk := D.nx } σ H1 else D.nx σ H1)
    (mono : ∀ σ H Q Q', (∀ b H1, Q b H1 → Q' b H1) → c σ H Q → c σ H Q') : tWhile c tb D σ H := by
  refine ⟨fun m σ H => m = μ σ H ∧ Pv σ H, ⟨_, rfl, h0⟩, ?_⟩
  rintro m σ H ⟨rfl, p⟩
  refine mono σ H _ _ (fun b H1 q => ?_) (hs σ H p)
  cases b with
  | true => exact ⟨_, fun σ' H' ⟨p', l⟩ => ⟨_, l, rfl, p'⟩, q⟩
  | false => exact q
end L2

namespace L2
open PySem PySem.Spec PyProof.Rows

abbrev R2 := V → V → Hp → VK → Prop
/-- a two-place operation on values: f is binaryOp op, inplaceOp op or compareOp op -/
def OpR (X : Cx) (f : Value → Value → Sem Value) (r : R2) : Prop :=
  ∀ (pins : List (Addr × Obj)) (s : Shared) (σ : St) (H : Hp) (x y : V) (v u : Value) (Q : VK), Inv X pins σ H s → RelV x v → RelV y u → r x y H Q →
    wpAny (model X.prog X.w) X.A (f v u) (EP X pins σ Q) X.xe s
/-- a one-place operation -/
def UnR (X : Cx) (f : Value → Sem Value) (r : V → Hp → VK → Prop) : Prop :=
  ∀ (pins : List (Addr × Obj)) (s : Shared) (σ : St) (H : Hp) (x : V) (v : Value) (Q : VK), Inv X pins σ H s → RelV x v → r x H Q →
    wpAny (model X.prog X.w) X.A (f v) (EP X pins σ Q) X.xe s
/-- a call of a value that is known (a builtin, a type) with values -/
def CallR (X : Cx) (f : Value) (r : List V → Hp → VK → Prop) : Prop :=
  ∀ (pins : List (Addr × Obj)) (s : Shared) (σ : St) (H : Hp) (xs : List V) (us : List Value) (Q : VK), Inv X pins σ H s → Vals xs us → r xs H Q →
    wpAny (model X.prog X.w) X.A (call f us) (EP X pins σ Q) X.xe s

def tOp (r : R2) (ta tb : TE) : TE := fun σ H Q => ta σ H fun x H1 => tb σ H1 fun y H2 => r x y H2 Q
def tUn (r : V → Hp → VK → Prop) (ta : TE) : TE := fun σ H Q => ta σ H fun x H1 => r x H1 Q
/-- ints in, under C, and a value out -/
def rI (C : Int → Int → Prop) (g : Int → Int → V) : R2 := fun x y H Q => ∃ i j, x = .int i ∧ y = .int j ∧ C i j ∧ Q (g i j) H
def rI0 (g : Int → Int → V) : R2 := fun x y H Q => ∃ i j, x = .int i ∧ y = .int j ∧ Q (g i j) H
def rU (g : Int → V) : V → Hp → VK → Prop := fun x H Q => ∃ i, x = .int i ∧ Q (g i) H

section
variable {X : Cx} {a b c : Expr} {ta tb tc : TE} {pos : Pos}

theorem binT (ha : PE X a ta) (hb : PE X b tb) {pins : List (Addr × Obj)} {s : Shared} {σ : St} {H : Hp} {R : V → V → Hp → Prop} (I : Inv X pins σ H s)
    (h : ta σ H fun x H1 => tb σ H1 fun y H2 => R x y H2) {Q : Value → Shared → Prop} {f : Value → Value → Sem Value}
    (hf : ∀ v u s2 x y H2, Inv X pins σ H2 s2 → RelV x v → RelV y u → R x y H2 → wpAny (model X.prog X.w) X.A (f v u) Q X.xe s2) :
    wpAny (model X.prog X.w) X.A (eval a X.env) (fun v s₁ => wpAny (model X.prog X.w) X.A (eval b X.env) (fun u s₂ => wpAny (model X.prog X.w) X.A (f v u) Q X.xe s₂) X.xe s₁) X.xe s := by
  refine thn (ha pins s σ H _ I h) fun v s1 ⟨x, H1, I1, r1, q1⟩ => ?_
  refine thn (hb pins s1 σ H1 _ I1 q1) fun u s2 ⟨y, H2, I2, r2, q2⟩ => ?_
  exact hf v u s2 x y H2 I2 r1 r2 q2

theorem pe_op {op : Operator} {r : R2} (ho : OpR X (binaryOp op) r) (ha : PE X a ta) (hb : PE X b tb) : PE X (.BinOp a op b pos) (tOp r ta tb) := by
  intro pins s σ H Q I h
  exact wpAny_BinOp (binT ha hb I h fun v u s2 x y H2 I2 rx ry q => ho pins s2 σ H2 x y v u Q I2 rx ry q)
theorem pe_un {op : UnaryOp} {r : V → Hp → VK → Prop} (ho : UnR X (unaryOp op) r) (ha : PE X a ta) : PE X (.UnaryOp op a pos) (tUn r ta) := by
  intro pins s σ H Q I h
  exact UnaryOp_ (thn (ha pins s σ H _ I h) fun v s1 ⟨x, H1, I1, r1, q1⟩ => ho pins s1 σ H1 x v Q I1 r1 q1)

/-! ### ints -/
theorem opI {f : Value → Value → Sem Value} {C : Int → Int → Prop} {g : Int → Int → Int}
    (rule : ∀ (i j : Int) (t u : Tok) (s : Shared) (Q : Value → Shared → Prop) (E : Value → Shared → Prop), C i j → Q (.int (g i j) s.toks) { s with toks := s.toks + 1 } → wpAny (model X.prog X.w) X.A (f (.int i t) (.int j u)) Q E s) :
    OpR X f (rI C fun i j => .int (g i j)) := by
  intro pins s σ H x y v u Q I rx ry h
  obtain ⟨i, j, rfl, rfl, hc, q⟩ := h
  obtain ⟨t, rfl⟩ := rx
  obtain ⟨t', rfl⟩ := ry
  exact rule i j t t' s _ _ hc ⟨.int (g i j), H, I.tok _, ⟨_, rfl⟩, q⟩
theorem opI0 {f : Value → Value → Sem Value} {g : Int → Int → Int}
    (rule : ∀ (i j : Int) (t u : Tok) (s : Shared) (Q : Value → Shared → Prop) (E : Value → Shared → Prop), Q (.int (g i j) s.toks) { s with toks := s.toks + 1 } → wpAny (model X.prog X.w) X.A (f (.int i t) (.int j u)) Q E s) :
    OpR X f (rI0 fun i j => .int (g i j)) := by
  intro pins s σ H x y v u Q I rx ry h
  obtain ⟨i, j, rfl, rfl, q⟩ := h
  obtain ⟨t, rfl⟩ := rx
  obtain ⟨t', rfl⟩ := ry
  exact rule i j t t' s _ _ ⟨.int (g i j), H, I.tok _, ⟨_, rfl⟩, q⟩
theorem opB0 {f : Value → Value → Sem Value} {g : Int → Int → Bool}
    (rule : ∀ (i j : Int) (t u : Tok) (s : Shared) (Q : Value → Shared → Prop) (E : Value → Shared → Prop), Q (.bool (g i j)) s → wpAny (model X.prog X.w) X.A (f (.int i t) (.int j u)) Q E s) :
    OpR X f (rI0 fun i j => .bl (g i j)) := by
  intro pins s σ H x y v u Q I rx ry h
  obtain ⟨i, j, rfl, rfl, q⟩ := h
  obtain ⟨t, rfl⟩ := rx
  obtain ⟨t', rfl⟩ := ry
  exact rule i j t t' s _ _ ⟨.bl (g i j), H, I, rfl, q⟩

def CDiv (i j : Int) : Prop := 0 < j ∧ j < 1073741824
def CPow (i j : Int) : Prop := 0 ≤ j ∧ j ≤ 1000000 ∧ i.natAbs < 2 ^ 64
def CMul (i j : Int) : Prop := (-(2 ^ 64) < i ∧ i < 2 ^ 64) ∨ (-(2 ^ 64) < j ∧ j < 2 ^ 64)
theorem CMul.ok {i j : Int} (h : CMul i j) : IntMulOk i j := by
  rcases h with ⟨h1, h2⟩ | ⟨h1, h2⟩
  · exact .of_left (intBits_le_64 h1 h2)
  · exact .of_right (intBits_le_64 h1 h2)

theorem op_add : OpR X (binaryOp .Add) (rI0 fun i j => .int (i + j)) := opI0 fun _ _ _ _ _ _ _ q => add_int q
theorem op_sub : OpR X (binaryOp .Sub) (rI0 fun i j => .int (i - j)) := opI0 fun _ _ _ _ _ _ _ q => sub_int q
theorem op_mul : OpR X (binaryOp .Mult) (rI CMul fun i j => .int (i * j)) := opI fun _ _ _ _ _ _ _ hc q => mul_int q hc.ok
/-- // by a positive divisor -/
theorem op_fdiv : OpR X (binaryOp .FloorDiv) (rI CDiv fun i j => .int (i / j)) := opI fun i j _ _ _ _ _ hc q => by
  have h1 : (0 : Int) < j := hc.1
  have h2 : j < 1073741824 := hc.2
  exact floordiv_int (by omega) (by rw [Int.fdiv_eq_ediv_of_nonneg i (by omega)]; exact q) (.inl (PyProof.noPylong_small (by omega)))
/-- % by a positive divisor of any size -/
theorem op_mod : OpR X (binaryOp .Mod) (rI (fun _ j => 0 < j) fun i j => .int (i % j)) := opI fun i j _ _ _ _ _ hc q => by
  have h1 : (0 : Int) < j := hc
  exact mod_int' (by omega) (by rw [Int.fmod_eq_emod_of_nonneg i (by omega)]; exact q)
theorem op_pow : OpR X (binaryOp .Pow) (rI CPow fun i j => .int (i ^ j.toNat)) := opI fun _ _ _ _ _ _ _ hc q => pow_int_small hc.1 hc.2.1 hc.2.2 q


theorem unI {f : Value → Sem Value} {g : Int → Int}
    (rule : ∀ (i : Int) (t : Tok) (s : Shared) (Q : Value → Shared → Prop) (E : Value → Shared → Prop), Q (.int (g i) s.toks) { s with toks := s.toks + 1 } → wpAny (model X.prog X.w) X.A (f (.int i t)) Q E s) :
    UnR X f (rU fun i => .int (g i)) := by
  intro pins s σ H x v Q I rx h
  obtain ⟨i, rfl, q⟩ := h
  obtain ⟨t, rfl⟩ := rx
  exact rule i t s _ _ ⟨.int (g i), H, I.tok _, ⟨_, rfl⟩, q⟩
theorem un_neg : UnR X (unaryOp .USub) (rU fun i => .int (-i)) := unI fun _ _ _ _ _ q => neg_int q

/-! ### bools among ints: n += (a < b) -/
end

/-! ### comparisons -/
/-- the scalars that == tells apart as data does -/
def scal : V → V → Bool
  | .non, .non => true | .non, .int _ => true | .int _, .non => true | .non, .bl _ => true | .bl _, .non => true | .non, .str _ => true | .str _, .non => true
  | .int _, .int _ => true | .bl _, .bl _ => true | .str _, .str _ => true | .byt _, .byt _ => true
  | .int _, .str _ => true | .str _, .int _ => true | .bl _, .str _ => true | .str _, .bl _ => true
  | _, _ => false
def rEq : R2 := fun x y H Q => scal x y = true ∧ Q (.bl (decide (x = y))) H
def rNe : R2 := fun x y H Q => scal x y = true ∧ Q (.bl (!decide (x = y))) H

theorem dec_int {i j : Int} : decide (V.int i = V.int j) = (i == j) := by
  rw [Bool.eq_iff_iff]
  simp
theorem dec_bl {i j : Bool} : decide (V.bl i = V.bl j) = (i == j) := by
  rw [Bool.eq_iff_iff]
  simp
theorem dec_str {i j : Str} : decide (V.str i = V.str j) = (i == j) := by
  rw [Bool.eq_iff_iff]
  simp
theorem dec_byt {i j : Array UInt8} : decide (V.byt i = V.byt j) = (i.toList == j.toList) := by
  rw [Bool.eq_iff_iff]
  cases i
  cases j
  simp

section
variable {X : Cx} {a b c : Expr} {ta tb tc : TE} {pos : Pos}
theorem fin_bl {pins : List (Addr × Obj)} {σ : St} {H : Hp} {s : Shared} {Q : VK} {k k' : Bool} (I : Inv X pins σ H s) (q : Q (.bl k) H) (e : k = k') : EP X pins σ Q (.bool k') s := by
  subst e
  exact ⟨.bl k, H, I, rfl, q⟩
theorem op_eq : OpR X (compareOp .Eq) rEq := by
  intro pins s σ H x y v u Q I rx ry h
  obtain ⟨hs, q⟩ := h
  cases x with
  | non =>
    cases rx
    cases y with
    | non => cases ry; exact PySem.EqNone.eq_none_none (fin_bl I q (by simp))
    | bl j => cases ry; exact PySem.EqNone.eq_none_bool (fin_bl I q (by simp))
    | int j => obtain ⟨t', rfl⟩ := ry; exact PySem.EqNone.eq_none_int (fin_bl I q (by simp))
    | str j => obtain ⟨t', rfl⟩ := ry; exact PySem.EqNone.eq_none_str (fin_bl I q (by simp))
    | _ => exact absurd (show false = true from hs) Bool.false_ne_true
  | bl i =>
    cases rx
    cases y with
    | non => cases ry; exact PySem.EqNone.eq_bool_none (fin_bl I q (by simp))
    | bl j => cases ry; exact eq_bool (fin_bl I q dec_bl)
    | str j => obtain ⟨t', rfl⟩ := ry; exact PySem.EqMixed.eq_bool_str (fin_bl I q (by simp))
    | _ => exact absurd (show false = true from hs) Bool.false_ne_true
  | int i =>
    obtain ⟨t, rfl⟩ := rx
    cases y with
    | non => cases ry; exact PySem.EqNone.eq_int_none (fin_bl I q (by simp))
    | int j => obtain ⟨t', rfl⟩ := ry; exact eq_int (fin_bl I q dec_int)
    | str j => obtain ⟨t', rfl⟩ := ry; exact PySem.EqMixed.eq_int_str (fin_bl I q (by simp))
    | _ => exact absurd (show false = true from hs) Bool.false_ne_true
  | str i =>
    obtain ⟨t, rfl⟩ := rx
    cases y with
    | non => cases ry; exact PySem.EqNone.eq_str_none (fin_bl I q (by simp))
    | bl j => cases ry; exact PySem.EqMixed.eq_str_bool (fin_bl I q (by simp))
    | int j => obtain ⟨t', rfl⟩ := ry; exact PySem.EqMixed.eq_str_int (fin_bl I q (by simp))
    | str j => obtain ⟨t', rfl⟩ := ry; exact eq_str (fin_bl I q dec_str)
    | _ => exact absurd (show false = true from hs) Bool.false_ne_true
  | byt i =>
    obtain ⟨t, rfl⟩ := rx
    cases y with
    | byt j => obtain ⟨t', rfl⟩ := ry; exact PySem.W.eq_bytes (fin_bl I q dec_byt)
    | _ => exact absurd (show false = true from hs) Bool.false_ne_true
  | _ => cases y <;> exact absurd (show false = true from hs) Bool.false_ne_true
theorem op_ne : OpR X (compareOp .NotEq) rNe := by
  intro pins s σ H x y v u Q I rx ry h
  obtain ⟨hs, q⟩ := h
  cases x with
  | non =>
    cases rx
    cases y with
    | non => cases ry; exact PySem.EqNone.ne_none_none (fin_bl I q (by simp))
    | bl j => cases ry; exact PySem.EqNone.ne_none_bool (fin_bl I q (by simp))
    | int j => obtain ⟨t', rfl⟩ := ry; exact PySem.EqNone.ne_none_int (fin_bl I q (by simp))
    | str j => obtain ⟨t', rfl⟩ := ry; exact PySem.EqNone.ne_none_str (fin_bl I q (by simp))
    | _ => exact absurd (show false = true from hs) Bool.false_ne_true
  | bl i =>
    cases rx
    cases y with
    | non => cases ry; exact PySem.EqNone.ne_bool_none (fin_bl I q (by simp))
    | bl j => cases ry; exact ne_bool (fin_bl I q (congrArg not dec_bl))
    | str j => obtain ⟨t', rfl⟩ := ry; exact PySem.EqMixed.ne_bool_str (fin_bl I q (by simp))
    | _ => exact absurd (show false = true from hs) Bool.false_ne_true
  | int i =>
    obtain ⟨t, rfl⟩ := rx
    cases y with
    | non => cases ry; exact PySem.EqNone.ne_int_none (fin_bl I q (by simp))
    | int j => obtain ⟨t', rfl⟩ := ry; exact ne_int (fin_bl I q (congrArg not dec_int))
    | str j => obtain ⟨t', rfl⟩ := ry; exact PySem.EqMixed.ne_int_str (fin_bl I q (by simp))
    | _ => exact absurd (show false = true from hs) Bool.false_ne_true
  | str i =>
    obtain ⟨t, rfl⟩ := rx
    cases y with
    | non => cases ry; exact PySem.EqNone.ne_str_none (fin_bl I q (by simp))
    | bl j => cases ry; exact PySem.EqMixed.ne_str_bool (fin_bl I q (by simp))
    | int j => obtain ⟨t', rfl⟩ := ry; exact PySem.EqMixed.ne_str_int (fin_bl I q (by simp))
    | str j => obtain ⟨t', rfl⟩ := ry; exact ne_str (fin_bl I q (congrArg not dec_str))
    | _ => exact absurd (show false = true from hs) Bool.false_ne_true
  | byt i =>
    obtain ⟨t, rfl⟩ := rx
    cases y with
    | byt j => obtain ⟨t', rfl⟩ := ry; exact PySem.W.ne_bytes (fin_bl I q (congrArg not dec_byt))
    | _ => exact absurd (show false = true from hs) Bool.false_ne_true
  | _ => cases y <;> exact absurd (show false = true from hs) Bool.false_ne_true

theorem op_lt : OpR X (compareOp .Lt) (rI0 fun i j => .bl (decide (i < j))) := opB0 fun _ _ _ _ _ _ _ q => lt_int q
theorem op_gt : OpR X (compareOp .Gt) (rI0 fun i j => .bl (decide (j < i))) := opB0 fun _ _ _ _ _ _ _ q => gt_int q
theorem op_ge : OpR X (compareOp .GtE) (rI0 fun i j => .bl (decide (j ≤ i))) := opB0 fun _ _ _ _ _ _ _ q => ge_int q




theorem nomark (b : Expr) {op : CmpOp} (h : op ≠ .In := by decide) (h2 : op ≠ .NotIn := by decide) : behindInMarks op b = false := by
  have e1 : (op == CmpOp.In) = false := by cases op <;> first | rfl | exact absurd rfl h
  have e2 : (op == CmpOp.NotIn) = false := by cases op <;> first | rfl | exact absurd rfl h2
  cases b <;> simp [behindInMarks, e1, e2]
/-- a comparison as a value; hm: nomark b, or (for in, not in) by with_unfolding_all rfl -/
theorem pe_cmpR {op : CmpOp} {r : R2} (ho : OpR X (compareOp op) r) (ha : PE X a ta) (hb : PE X b tb) (hm : behindInMarks op b = false) : PE X (.Compare a [op] [b] pos) (tOp r ta tb) := by
  intro pins s σ H Q I h
  exact wpAny_Compare1 (binT ha hb I h fun v u s2 x y H2 I2 rx ry q => ho pins s2 σ H2 x y v u Q I2 rx ry q) hm
/-- a reading of a value as a test -/
def tTest (t : TE) : TT := fun σ H Q => t σ H fun x H' => ∃ k, x = .bl k ∧ Q k H'
theorem pt_cmpR {op : CmpOp} {r : R2} (ho : OpR X (compareOp op) r) (ha : PE X a ta) (hb : PE X b tb) (hm : behindInMarks op b = false) : PT X (.Compare a [op] [b] pos) (tTest (tOp r ta tb)) := by
  intro pins s σ H Q I h
  refine wpAny_isTrue_Compare1 (thn (ha pins s σ H _ I h) fun v s1 ⟨x, H1, I1, r1, q1⟩ => thn (hb pins s1 σ H1 _ I1 q1) fun u s2 ⟨y, H2, I2, r2, q2⟩ =>
    thn (ho pins s2 σ H2 x y v u _ I2 r1 r2 q2) fun c s3 ⟨z, H3, I3, r3, k, e, q3⟩ => ?_) hm
  subst e
  cases r3
  exact wpAny_truthy_bool ⟨H3, I3, q3⟩

/-! ### truth -/
theorem line63 : (sizeLine : Nat) < 2 ^ 63 := by rw [sizeLine_eq]; decide

/-! ### strs and bytes -/


/-! ### scalar builtins, by CallR -/
theorem vals1 {x : V} {us : List Value} (r : Vals [x] us) : ∃ u, us = [u] ∧ RelV x u := by
  cases r with
  | cons r1 r2 => cases r2; exact ⟨_, rfl, r1⟩
theorem vals2 {x y : V} {us : List Value} (r : Vals [x, y] us) : ∃ u w', us = [u, w'] ∧ RelV x u ∧ RelV y w' := by
  cases r with
  | cons r1 r2 =>
    cases r2 with
    | cons r3 r4 => cases r4; exact ⟨_, _, rfl, r1, r3⟩
theorem call_abs : CallR X (.builtin "abs") (fun xs H Q => ∃ i, xs = [.int i] ∧ Q (.int (if i < 0 then -i else i)) H) := by
  intro pins s σ H xs us Q I r h
  obtain ⟨i, rfl, q⟩ := h
  obtain ⟨u, rfl, t, rfl⟩ := vals1 r
  exact call_abs_int fun u tk => ⟨.int (if i < 0 then -i else i), H, I.tok _, ⟨_, rfl⟩, q⟩
theorem call_max2 (hc : X.calm = true) : CallR X (.builtin "max") (fun xs H Q => ∃ i j, xs = [.int i, .int j] ∧ Q (.int (if j > i then j else i)) H) := by
  intro pins s σ H xs us Q I r h
  obtain ⟨i, j, rfl, q⟩ := h
  obtain ⟨u, w', rfl, ⟨t, rfl⟩, ⟨t', rfl⟩⟩ := vals2 r
  refine max_two_ints (I.ok.hd hc) fun h' tk k => ⟨_, H, I.kept k, ?_, q⟩
  by_cases hj : j > i
  · rw [if_pos hj, if_pos hj]; exact ⟨_, rfl⟩
  · rw [if_neg hj, if_neg hj]; exact ⟨_, rfl⟩
end
end L2

namespace L2
open PySem PySem.Spec PyProof.Rows

/-! ### an instance, its attributes a map -/
structure ObjM (h : Heap) (x dx C : Addr) (mA : Str → Option Value) : Prop where
  obj : h.get? x = some (PySem.W.instObj C dx)
  ns : h.Ns1 dx mA
  ne : dx ≠ x



section
variable {prog : Program} {w : World} {A : Around} {E : Value → Shared → Prop} {s : Shared} {K : PySem.W.Frag} {x dx C f : Addr} {mA : Str → Option Value} {name : Str} {v : Value}





end

/-! ### the attributes as a list of pairs -/

theorem RelO.some_of {v : V} {o : Option Value} (r : RelO (some v) o) : ∃ u, o = some u ∧ RelV v u := by
  cases o with
  | none => exact (show False from r).elim
  | some u => exact ⟨u, rfl, r⟩

section
variable {P : Program} {w : World} {H H' : Hp} {h h' : Heap} {a C dx : Addr} {fs fs' : List (Str × V)}
end

/-! ### what of the text a class must have -/
structure Cls (K : PySem.W.Frag) (C : Addr) : Prop where
  pg : PySem.W.plainGet K C Str.empty = true
  hd : PySem.W.hasDictIn K C = true
  po : PySem.W.plainOver K C = true
  sa : PySem.W.findIn K (.ref C) "__setattr__" = some (some (.builtin "object.__setattr__"))
/-- a constant of the class -/
structure Con (K : PySem.W.Frag) (C : Addr) (f : Str) (v : V) (u : Value) : Prop where
  at_ : PySem.W.findIn K (.ref C) f = some (some u)
  rel : RelV v u
  get : PySem.W.specialIn K u "__get__" = some none
  cp : PySem.W.copiedNames.contains f = false
/-- a method: a plain def of the class or of one above it -/
structure Meth (K : PySem.W.Frag) (C : Addr) (m : Str) (f : Addr) : Prop where
  at_ : PySem.W.findIn K (.ref C) m = some (some (.ref f))
  fn : PySem.W.isFn K (.ref f) = true
  kp : PySem.W.keepIn K (.ref f) = true

section
variable {X : Cx} {pins : List (Addr × Obj)} {σ : St} {H : Hp} {s : Shared} {a C dx : Addr} {fs : List (Str × V)} {f : Str} {v : V} {A : Around} {E : Value → Shared → Prop}






end

/-! ### readings and rules -/

section
variable {X : Cx} {o e value : Expr} {f : Str} {pos pos' tpos : Pos} {ta tv : TE}

end

/-! ### isinstance -/
section
variable {X : Cx} {pins : List (Addr × Obj)} {σ : St} {H : Hp} {s : Shared} {A : Around} {E : Value → Shared → Prop} {Q : Value → Shared → Prop} {c : Value} {b : Bool}
/-- the type of a value, as the fragment's deciders take it; for an instance its class -/
inductive TyOf (K : PySem.W.Frag) (H : Hp) : V → Value → Prop where
  | non : TyOf K H .non (.type "NoneType")
  | bl (x : Bool) : TyOf K H (.bl x) (.type "bool")
  | int (i : Int) : TyOf K H (.int i) (.type "int")
  | str (x : Str) : TyOf K H (.str x) (.type "str")
  | flt (x : UInt64) : TyOf K H (.flt x) (.type "float")
  | lst {a : Addr} {xs : List V} (e : H a = some (.lst xs)) : TyOf K H (.ref a) (.type "list")
  | frz {a : Addr} {o : Obj} {xs : List V} (e : H a = some (.frz o (.lst xs))) : TyOf K H (.ref a) (.type "list")
  | tup {a : Addr} {xs : List V} (e : H a = some (.tup xs)) : TyOf K H (.ref a) (.type "tuple")
  | dK {a : Addr} {kvs : List (Key × V)} (e : H a = some (.dK kvs)) : TyOf K H (.ref a) (.type "dict")
  | dT {a : Addr} {kvs : List (List Key × V)} (e : H a = some (.dT kvs)) : TyOf K H (.ref a) (.type "dict")
  | ins {a C dx : Addr} {fs : List (Str × V)} (e : H a = some (.ins C dx fs)) (cl : Cls K C) (ha : PySem.W.findIn K (.ref C) "__class__" = some (some (.builtin "object.__class__")))
      (hn : PySem.W.specialIn K (.builtin "object.__class__") "__get__" = some (some (.builtin "getset_descriptor.__get__"))) (htk : PySem.W.takesIn K (.builtin "object.__class__") = some true)
      (hm : PySem.W.mroIn K C (.type "object") = some true) : TyOf K H (.ref a) (.ref C)
end
end L2

namespace L2
open PySem PySem.Spec PyProof.Rows

/-! ### room -/
structure Room (k : Nat) (A : Around) : Prop where
  hd : A.handled = none
  dp : A.depth + 3 * k + 5 < recursionLimit
  un : A.units + 16 * k + 200 < cLine
theorem Room.mono {j k : Nat} {A : Around} (r : Room k A) (h : j ≤ k) : Room j A := ⟨r.hd, by have := r.dp; omega, by have := r.un; omega⟩
theorem Room.deeper {k : Nat} {A : Around} (r : Room (k + 1) A) (env : Env) : Room k (A.deeper env) :=
  ⟨r.hd, by have := r.dp; show A.depth + 1 + 3 * k + 5 < _; omega, by have := r.un; show A.units + 3 + 16 * k + 200 < _; omega⟩
theorem make_depth {A : Around} {C : Addr} {us : List Value} {kw : List (Str × Value)} : (A.under (.builtin "type.__call__" ⟨.ref C :: us, kw⟩)).depth = A.depth + 1 := by
  first | rfl | simp [Around.under, Code.weight, Code.isCreation, Code.isGuard, Code.isCaller, Code.frames, Code.isFrame, guardIds]
theorem make_units {A : Around} {C : Addr} {us : List Value} {kw : List (Str × Value)} : (A.under (.builtin "type.__call__" ⟨.ref C :: us, kw⟩)).units = A.units + 1 := by
  first | rfl | simp [Around.under, Code.cUnits, Code.frames, Code.isFrame]
theorem Room.make {k : Nat} {A : Around} (r : Room (k + 1) A) (C : Addr) (us : List Value) (kw : List (Str × Value)) : Room k (A.under (.builtin "type.__call__" ⟨.ref C :: us, kw⟩)) :=
  ⟨r.hd, by have := r.dp; rw [make_depth]; omega, by have := r.un; rw [make_units]; omega⟩
theorem Room.depth {k : Nat} {A : Around} (r : Room k A) : A.depth < recursionLimit := by have := r.dp; omega
theorem Room.units {k : Nat} {A : Around} (r : Room k A) : A.units + 64 < cLine := by have := r.un; omega
theorem Room.units0 {k : Nat} {A : Around} (r : Room k A) : A.units < cLine := by have := r.un; omega

/-! ### argument lists and displays -/
def tNil : TA := fun _ H Q => Q [] H
def tCons (ta : TE) (tr : TA) : TA := fun σ H Q => ta σ H fun x H1 => tr σ H1 fun xs H2 => Q (x :: xs) H2
section
variable {X : Cx} {e : Expr} {es : List Expr} {te : TE} {t : TA} {pos : Pos}
theorem pa_nil : PA X [] tNil := fun _ _ _ _ H Q I h => Calls.spliced_nil ⟨[], H, I, .nil, h⟩
theorem pa_cons (ha : PE X e te) (hr : PA X es t) (hs : starEach (e :: es) X.env = (false, eval e X.env) :: starEach es X.env := by rfl) : PA X (e :: es) (tCons te t) := by
  intro pos pins s σ H Q I h
  rw [hs]
  show wpAny _ _ (spliced ((false, eval e X.env) :: backTo pos (starEach es X.env))) _ _ s
  refine Calls.spliced_cons (thn (ha pins s σ H _ I h) fun u s1 ⟨x, H1, I1, r1, q1⟩ => ?_)
  exact thn (hr pos pins s1 σ H1 _ I1 q1) fun us s2 ⟨xs, H2, I2, r2, q2⟩ => ⟨x :: xs, H2, I2, .cons r1 r2, q2⟩

/-- a tuple, a list of written items -/
def tTup (t : TA) : TE := fun σ H Q => t σ H fun xs H1 => xs.length ≤ sizeLine ∧ ∀ p, H1 p = none → Q (.ref p) (upd H1 p (.tup xs))
theorem pe_tup {x1} (h : PA X es t) : PE X (.Tuple es x1 pos) (tTup t) := by
  intro pins s σ H Q I hq
  refine wpAny_Tuple_spliced (thn (h pos pins s σ H _ I hq) fun us s1 ⟨xs, H1, I1, r, z, q⟩ => ⟨by rw [← r.length]; exact z, ?_⟩)
  have hf : H1 s1.heap.objs.size = none := I1.hok.fresh (Nat.le_refl _)
  refine ⟨.ref s1.heap.objs.size, upd H1 s1.heap.objs.size (.tup xs), I1.laid (t' := s1.toks) (fun b u e => Heap.get?_push_of_some _ e) (Nat.le_refl _) ?_, rfl, q _ hf⟩
  exact ⟨z, us, r, ⟨_, Heap.get?_push_size _ rfl, rfl, _, rfl⟩⟩
end

/-! ### what a def promises -/
/-- a def's promise: the bound arguments in the parameters' order, the heap, the wanted end, the wanted exception -/
abbrev Sp := List V → Hp → VK → XK → Prop
/-- how an exception lies behind a call (file 08 gives it): the callers' frames, abstract heap and state ahead of the call, the wish, the exception, the state -/
abbrev CXT := List Env → Hp → Shared → XK → Value → Shared → Prop

/-- the state at a call -/
structure Env0 (P : Program) (w : World) (K : PySem.W.Frag) (mg : Str → Option Value) (base : Heap) (A : Around) (outer : List Env) (s : Shared) (H : Hp) : Prop where
  frames : A.frames = some outer
  mod : Mod K mg base
  bs : ∀ b o, base.get? b = some o → s.heap.get? b = some o ∧ H b = none
  bsz : base.objs.size ≤ s.heap.objs.size
  funs : s.heap.FunFrames base outer
  frf : ∀ b ∈ frs outer, H b = none
  hok : HOk P w H s.heap
  bare : AllBare s.gens
/-- a call's end -/
def CE (outer : List Env) (P : Program) (w : World) (H : Hp) (s : Shared) (Q : VK) (u : Value) (s' : Shared) : Prop :=
  ∃ v H', s'.os = s.os ∧ AllBare s'.gens ∧ Un (frs outer) [] H H' s.heap s'.heap ∧ HOk P w H' s'.heap ∧ RelV v u ∧ Q v H'
def CR (CX : CXT) (outer : List Env) (P : Program) (w : World) (H : Hp) (s : Shared) (Q : VK) (E : XK) (r : Result) (s' : Shared) : Prop :=
  match r with
  | .ok (.ret u) => CE outer P w H s Q u s'
  | .ok _ => False
  | .error e => CX outer H s E e s'
structure FnOk (P : Program) (w : World) (K : PySem.W.Frag) (mg : Str → Option Value) (base : Heap) (CX : CXT) (k : Nat) (f : Addr) (fd : FuncData) (ps : List Str) (sp : Sp) : Prop where
  len : ∀ vs H Q E, sp vs H Q E → vs.length = ps.length
  run : ∀ (A : Around) (outer : List Env) (s : Shared) (H : Hp) (args : Args) (us : List Value) (vs : List V) (Q : VK) (E : XK), Room k A → Env0 P w K mg base A outer s H → BindsTo s fd args (ps.zip us) → Vals vs us → sp vs H Q E →
    codeAny (model P w) A (.call (.ref f) args) (CR CX outer P w H s Q E) s

theorem Env0.make {P : Program} {w : World} {K : PySem.W.Frag} {mg : Str → Option Value} {base : Heap} {A : Around} {outer : List Env} {s : Shared} {H : Hp} (e : Env0 P w K mg base A outer s H) (C : Addr) (us : List Value) (kw : List (Str × Value)) :
    Env0 P w K mg base (A.under (.builtin "type.__call__" ⟨.ref C :: us, kw⟩)) outer s H := ⟨by first | exact e.frames | (simpa [Around.under, Code.envs, Code.isFrame, pushEnvs] using e.frames), e.mod, e.bs, e.bsz, e.funs, e.frf, e.hok, e.bare⟩

section
variable {X : Cx} {pins : List (Addr × Obj)} {σ : St} {H : Hp} {s s' : Shared}
/-- from a body: what a callee wants -/
theorem Inv.env0 (I : Inv X pins σ H s) : Env0 X.prog X.w X.K X.mg X.base X.A X.stack s H :=
  ⟨I.ok.frames, I.ok.mod, I.bs, Nat.le_trans I.ok.bsz I.sz, I.stack, I.stkFree, I.hok, I.bare⟩
/-- behind a call -/
theorem Inv.after {Q : VK} {u : Value} (I : Inv X pins σ H s) (h : CE X.stack X.prog X.w H s Q u s') : EP X pins σ Q u s' := by
  obtain ⟨v, H', os, bare, un, hok, r, q⟩ := h
  obtain ⟨hh, g, d, t, os'⟩ := s'
  obtain rfl : os' = s.os := os
  exact ⟨v, H', I.call (h' := hh) (g' := g) (d' := d) (t' := t) (ch := []) un hok bare (fun b z => absurd z (by simp)), r, q⟩
end

/-! ### calls -/
/-- f(..): the written arguments, then the defaults dvs; E: what is wanted of an exception -/
def tCall (sp : Sp) (dvs : List V) (E : XK) (t : TA) : TE := fun σ H Q => t σ H fun vs H1 => sp (vs ++ dvs) H1 Q E

/-- how the parameters are bound: us the positional arguments, kw the keywords' values by name, ds the defaults that fill up -/
def Binds (K : PySem.W.Frag) (fd : FuncData) (ps : List Str) (ds : List Value) : Prop :=
  ∀ (s : Shared) (us : List Value), K.In s.heap → (us ++ ds).length = ps.length → BindsTo s fd ⟨us, []⟩ (ps.zip (us ++ ds))
/-- every parameter is given -/
theorem Binds.all {K : PySem.W.Frag} {fd : FuncData} {ps : List Str} (h : ∀ us : List Value, us.length = ps.length → bindArgs fd ⟨us, []⟩ = pure (ps.zip us)) : Binds K fd ps [] := fun s us _ hl => by
  rw [List.append_nil] at hl ⊢
  exact .of_eq (h us hl)

/-- an exception of a callee reaches what this body wants of exceptions -/
def Passes (CX : CXT) (X : Cx) (E : XK) : Prop := ∀ (pins : List (Addr × Obj)) (σ : St) (H : Hp) (s : Shared) (e : Value) (s' : Shared), Inv X pins σ H s → CX X.stack H s E e s' → X.xe e s'

section
variable {X : Cx} {CX : CXT} {k : Nat} {f C : Addr} {fd : FuncData} {ps : List Str} {sp : Sp} {dvs : List V} {ds : List Value} {E : XK} {x m : Str} {p pos apos : Pos} {e o : Expr} {es : List Expr} {ta : TE} {t : TA}

/-- the callee runs -/
theorem run_fn {pins : List (Addr × Obj)} {σ : St} {H : Hp} {s : Shared} {Q : VK} {us : List Value} {vs : List V} (F : FnOk X.prog X.w X.K X.mg X.base CX k f fd ps sp) (hr : Room k X.A) (hb : Binds X.K fd ps ds) (hd : Vals dvs ds) (hx : Passes CX X E)
    (I : Inv X pins σ H s) (r : Vals vs us) (h : sp (vs ++ dvs) H Q E) : wpAny (model X.prog X.w) X.A (call (.ref f) us) (EP X pins σ Q) X.xe s := by
  have r2 : Vals (vs ++ dvs) (us ++ ds) := r.append hd
  have hl : (us ++ ds).length = ps.length := by rw [← r2.length]; exact F.len _ _ _ _ h
  refine wpAny_call (codeAny_mono (F.run X.A X.stack s H ⟨us, []⟩ (us ++ ds) (vs ++ dvs) Q E hr I.env0 (hb s us I.kIn hl) r2 h) fun r s' hq => ?_)
  cases r with
  | error e => exact hx pins σ H s e s' I hq
  | ok fl =>
    cases fl with
    | ret u => exact I.after hq
    | next => exact False.elim hq
    | brk => exact False.elim hq
    | cont => exact False.elim hq

theorem pe_call (F : FnOk X.prog X.w X.K X.mg X.base CX k f fd ps sp) (hr : Room k X.A) (hg : Gl X x) (hm : X.mg x = some (.ref f)) (hk : PySem.W.keepIn X.K (.ref f) = true) (hb : Binds X.K fd ps ds) (hd : Vals dvs ds) (hx : Passes CX X E)
    (ha : PA X (e :: es) t) (hdb : (x == ("__debug__" : Str)) = false := by decide) (he : starEach (e :: es) X.env = (false, eval e X.env) :: starEach es X.env := by rfl) (hpl : (backTo pos (starEach es X.env)).any (·.1) = false := by rfl) :
    PE X (.Call (.Name x p) (e :: es) [] pos) (tCall sp dvs E t) := by
  intro pins s σ H Q I h
  refine wpAny_Call_Name_kw (ld_glob I hg hm ?_ hdb)
  refine PySem.W.callWith_K (h₀ := X.base) I.ok.mod.kin hk (thn (ha pos pins s σ H _ I h) fun us s1 ⟨vs, H1, I1, r, q⟩ => ⟨I1.kIn, ?_⟩) he hpl
  exact run_fn F hr hb hd hx I1 r q


/-- what a class must have to be made -/
structure Mk (K : PySem.W.Frag) (C f : Addr) : Prop where
  makes : PySem.W.makesIn K C = true
  init : PySem.W.findIn K (.ref C) "__init__" = some (some (.ref f))
  fn : PySem.W.isFn K (.ref f) = true
  kp : PySem.W.keepIn K (.ref C) = true

end

/-! ### keywords -/
/-- the values of the keywords, from the left -/
def PK (X : Cx) (kws : List Keyword) (t : TA) : Prop :=
  ∀ (pos : Pos) (pins : List (Addr × Obj)) (s : Shared) (σ : St) (H : Hp) (Q : List V → Hp → Prop), Inv X pins σ H s → t σ H Q → wpAny (model X.prog X.w) X.A (evalAll ((backToKw pos (keywordEach kws X.env)).map (·.2))) (AP X pins σ Q) X.xe s
section
variable {X : Cx} {CX : CXT} {k : Nat} {f C : Addr} {fd : FuncData} {ps ks : List Str} {sp : Sp} {E : XK} {x m : Str} {p pos apos kpos : Pos} {e o : Expr} {es : List Expr} {kws : List Keyword} {te ta : TE} {t tk : TA} {nm : Option Str}
theorem pk_nil : PK X [] tNil := fun _ _ _ _ H Q I h => wpAny_evalAll_nil ⟨[], H, I, .nil, h⟩
theorem pk_cons (ha : PE X e te) (hr : PK X kws t) : PK X (⟨nm, e, kpos⟩ :: kws) (tCons te t) := by
  intro pos pins s σ H Q I h
  show wpAny _ _ (evalAll ((do let v ← eval e X.env; standAt pos; pure v) :: (backToKw pos (keywordEach kws X.env)).map (·.2))) _ _ s
  refine wpAny_evalAll_cons (wpAny_bind (thn (ha pins s σ H _ I h) fun u s1 ⟨x, H1, I1, r1, q1⟩ => wpAny_bind (wpAny_standAt (wpAny_pure ?_))))
  exact thn (hr pos pins s1 σ H1 _ I1 q1) fun us s2 ⟨xs, H2, I2, r2, q2⟩ => ⟨x :: xs, H2, I2, .cons r1 r2, q2⟩

/-- how a call with keywords binds: g puts the positional values us and the keywords' values ws (names ks) in the parameters' order, defaults among them -/
structure KBinds (K : PySem.W.Frag) (fd : FuncData) (ps ks : List Str) (g : List Value → List Value → List Value) (gV : List V → List V → List V) : Prop where
  to : ∀ (s : Shared) (us ws : List Value), K.In s.heap → (g us ws).length = ps.length → BindsTo s fd ⟨us, ks.zip ws⟩ (ps.zip (g us ws))
  rel : ∀ {vs : List V} {us : List Value} {zs : List V} {ws : List Value}, Vals vs us → Vals zs ws → Vals (gV vs zs) (g us ws)
variable {g : List Value → List Value → List Value} {gV : List V → List V → List V}
end

/-! ### a def's body keeps its promise -/
/-- names: the parameters first -/
structure FnScope (N P : List Str) (sc : Scope) : Prop where
  kind : sc.kind = .function
  co : sc.isCoroutine = false
  gen : sc.isGenerator = false
  nd : N.Nodup
  pre : N.take P.length = P
  par : ∀ x ∈ P, sc.names.lookup x = some .local ∨ sc.names.lookup x = some .cell
  nofree : ∀ y ∈ sc.names, y.2 ≠ .free

theorem bindL_out {kindOf : Str → Option NameKind} {x : Str} : ∀ {binds : List (Str × Value)} {m : Str → Option Value}, (∀ v, (x, v) ∉ binds) → bindL kindOf binds m x = m x
  | [], _, _ => rfl
  | (n, v) :: r, m, h => by
    unfold bindL
    rw [bindL_out fun w hw => h w (List.mem_cons_of_mem _ hw)]
    split
    · have : x ≠ n := by rintro rfl; exact h v List.mem_cons_self
      simp [this]
    · rfl
theorem bindC_out {kindOf : Str → Option NameKind} {x : Str} : ∀ {binds : List (Str × Value)} {m : Str → Option Value}, (∀ v, (x, v) ∉ binds) → bindC kindOf binds m x = m x
  | [], _, _ => rfl
  | (n, v) :: r, m, h => by
    unfold bindC
    rw [bindC_out fun w hw => h w (List.mem_cons_of_mem _ hw)]
    split
    · rfl
    · have : x ≠ n := by rintro rfl; exact h v List.mem_cons_self
      simp [this]
theorem bindL_get {kindOf : Str → Option NameKind} {x : Str} {v : Value} : ∀ {P : List Str} {vs : List Value} {i : Nat} {m : Str → Option Value}, P.Nodup → P[i]? = some x → vs[i]? = some v → kindOf x = some .local →
    bindL kindOf (P.zip vs) m x = some v
  | [], _, _, _, _, h, _, _ => by simp at h
  | _ :: _, [], _, _, _, _, h, _ => by simp at h
  | p :: P, w :: vs, 0, m, nd, h1, h2, hk => by
    simp at h1 h2; subst h1; subst h2
    show bindL kindOf ((p, w) :: P.zip vs) m p = _
    unfold bindL
    rw [bindL_out fun v hv => (List.nodup_cons.mp nd).1 (List.of_mem_zip hv).1, if_pos hk]
    simp
  | p :: P, w :: vs, i + 1, m, nd, h1, h2, hk => by
    show bindL kindOf ((p, w) :: P.zip vs) m x = _
    unfold bindL
    exact bindL_get (i := i) (List.nodup_cons.mp nd).2 (by simpa using h1) (by simpa using h2) hk
theorem bindC_get {kindOf : Str → Option NameKind} {x : Str} {v : Value} : ∀ {P : List Str} {vs : List Value} {i : Nat} {m : Str → Option Value}, P.Nodup → P[i]? = some x → vs[i]? = some v → kindOf x ≠ some .local →
    bindC kindOf (P.zip vs) m x = some v
  | [], _, _, _, _, h, _, _ => by simp at h
  | _ :: _, [], _, _, _, _, h, _ => by simp at h
  | p :: P, w :: vs, 0, m, nd, h1, h2, hk => by
    simp at h1 h2; subst h1; subst h2
    show bindC kindOf ((p, w) :: P.zip vs) m p = _
    unfold bindC
    rw [bindC_out fun v hv => (List.nodup_cons.mp nd).1 (List.of_mem_zip hv).1, if_neg hk]
    simp
  | p :: P, w :: vs, i + 1, m, nd, h1, h2, hk => by
    show bindC kindOf ((p, w) :: P.zip vs) m x = _
    unfold bindC
    exact bindC_get (i := i) (List.nodup_cons.mp nd).2 (by simpa using h1) (by simpa using h2) hk

/-- the names' values at the entry -/
def start (N : List Str) (vs : List V) : St := vs.map some ++ List.replicate (N.length - vs.length) none

/-- the context of a def's body, at its entry; an exception leaves the frame, then lies as CX says -/
def cxOf (CX : CXT) (P : Program) (w : World) (K : PySem.W.Frag) (mg : Str → Option Value) (base : Heap) (N : List Str) (qual : Str) (scope : Scope) (f : Addr) (cd : Value) (A : Around) (outer : List Env) (s : Shared) (H : Hp) (E : XK) : Cx where
  prog := P
  w := w
  K := K
  mg := mg
  base := base
  A := A.deeper (envOfC qual scope s.heap.objs.size f cd)
  N := N
  s₀ := s
  H₀ := H
  env := envOfC qual scope s.heap.objs.size f cd
  outer := outer
  stack := envOfC qual scope s.heap.objs.size f cd :: outer
  ex := []
  calm := true
  fn := fun _ => true
  pn := []
  xe := fun e s' => wpAny (model P w) (A.deeper (envOfC qual scope s.heap.objs.size f cd)) (leaving (envOfC qual scope s.heap.objs.size f cd) e) (fun _ s'' => CX outer H s E e s'') (fun e' s'' => CX outer H s E e' s'') s'

theorem cell_has {sc : Scope} {n : Nat} {x : Str} (h : sc.names.lookup x = some .cell) : ∃ c, (cellsFrom n sc.names []).lookup x = some c := by
  have q := PySem.W.cellsFrom_some sc.names n [] (.inl h)
  exact Option.isSome_iff_exists.mp q

theorem inv_start {CX : CXT} {P : Program} {w : World} {K : PySem.W.Frag} {mg : Str → Option Value} {base : Heap} {N ps : List Str} {qual : Str} {scope : Scope} {f : Addr} {cd : Value} {A : Around} {outer : List Env} {s s1 : Shared} {H : Hp} {E : XK} {us : List Value} {vs : List V}
    (S : FnScope N ps scope) (hd : A.handled = none) (e0 : Env0 P w K mg base A outer s H) (hl : vs.length = ps.length) (r : Vals vs us)
    (x : InCallC s s.heap.objs.size (bindL (envOfC qual scope s.heap.objs.size f cd).kindOf (ps.zip us) fun _ => none) (cellsFrom (s.heap.objs.size + 1) scope.names []) (bindC (envOfC qual scope s.heap.objs.size f cd).kindOf (ps.zip us) fun _ => none) s1) :
    Inv (cxOf CX P w K mg base N qual scope f cd A outer s H E) [] (start N vs) H s1 := by
  have hpl : ps.length ≤ N.length := by have := congrArg List.length S.pre; rw [List.length_take] at this; omega
  obtain ⟨h1, tk, rfl, hk⟩ := x.done
  have noA : ∀ b : Addr, b ∉ (cxOf CX P w K mg base N qual scope f cd A outer s H E).ex := fun b z => absurd (show b ∈ ([] : List Addr) from z) (by simp)
  refine ⟨⟨e0.mod, S.kind, rfl, rfl, Nat.le_refl _, fun y z c h1 h2 => ?_, fun y hy => ?_, fun y c _ h => ?_, fun _ => hd, Around.frames_deeper e0.frames, .inr ⟨rfl, rfl⟩, fun b z => absurd z (noA b), e0.bs, e0.bsz, fun b _ _ => noA b, fun b z => absurd z (noA b), e0.funs, e0.frf⟩,
    rfl, e0.bare, Un.kept hk, ⟨_, x.toInCall.ns, fun i y v h1 h2 h3 => ?_⟩, fun y c h => ⟨_, x.cell y c h⟩, e0.hok.fresh (Nat.le_refl _), fun y c h => ?_, fun p hp => absurd (show p ∈ ([] : List (Addr × Obj)) from hp) (by simp), e0.hok.kept hk, ?_⟩
  · exact name_of_addr x.apart (PySem.mem_of_lookup h1) (PySem.mem_of_lookup h2)
  · have hy : scope.names.lookup y = some .cell ∨ scope.names.lookup y = some .free := hy
    rcases hy with hy | hy
    · exact cell_has hy
    · exact absurd rfl (S.nofree _ (PySem.mem_of_lookup hy))
  · exact Nat.le_of_lt (x.above y c (PySem.mem_of_lookup h))
  · have hi : i < vs.length := by
      unfold start at h2
      by_cases hi : i < vs.length
      · exact hi
      · rw [List.getElem?_append_right (by simpa using hi)] at h2
        rw [List.getElem?_replicate] at h2
        split at h2 <;> cases h2
    have ha : vs[i]? = some v := by
      unfold start at h2
      rw [List.getElem?_append_left (by simpa using hi), List.getElem?_map] at h2
      cases e : vs[i]? with
      | none => rw [e] at h2; cases h2
      | some a => rw [e] at h2; cases h2; rfl
    obtain ⟨u, hu, rv⟩ := r.get ha
    have hp : ps[i]? = some y := by
      rw [← S.pre, List.getElem?_take_of_lt (by omega)]; exact h1
    have ndP : ps.Nodup := by rw [← S.pre]; exact S.nd.sublist (List.take_sublist _ _)
    refine ⟨u, rv, ?_⟩
    rcases S.par y (List.mem_of_getElem? hp) with k | k
    · exact .inl ⟨k, bindL_get ndP hp hu k⟩
    · obtain ⟨c, e⟩ := cell_has (n := s.heap.objs.size + 1) k
      refine .inr ⟨.inl k, c, e, ?_⟩
      have q := x.cell y c e
      rw [bindC_get ndP hp hu (by show scope.names.lookup y ≠ _; rw [k]; decide)] at q
      exact q
  · exact e0.hok.fresh (Nat.le_of_lt (x.above y c (PySem.mem_of_lookup h)))
  · unfold start
    show _ = N.length
    rw [List.length_append, List.length_map, List.length_replicate]
    omega

/-- THE RULE: a def (or a method) of the text, by its body. The body's reading t is chosen for each entry; it is run at the parameters' values -/
theorem fn_of {CX : CXT} {P : Program} {w : World} {K : PySem.W.Frag} {mg : Str → Option Value} {base : Heap} {k : Nat} {f : Addr} {name qual : Str} {params : Arguments} {body : List Stmt} {scope : Scope} {dV kV doc pm cdv ct oc : Value} {an od : Option Addr}
    {osl : Array (Option Value)} {N ps : List Str} {sp : Sp} (lk : K.lookup f = some ⟨oc, od, .func (PySem.W.fnOf name qual params body scope dV kV doc pm an cdv ct), osl⟩) (hcd : PySem.W.codeIn K cdv qual = true) (S : FnScope N ps scope)
    (len : ∀ vs H Q E, sp vs H Q E → vs.length = ps.length)
    (hbody : ∀ (A : Around) (outer : List Env) (s : Shared) (H : Hp) (vs : List V) (Q : VK) (E : XK), Room k (A.deeper (envOfC qual scope s.heap.objs.size f cdv)) → sp vs H Q E →
      ∃ t, PSs (cxOf CX P w K mg base N qual scope f cdv A outer s H E) body t ∧ t { nx := fun _ H' => Q .non H', rt := Q } (start N vs) H) :
    FnOk P w K mg base CX (k + 1) f (PySem.W.fnOf name qual params body scope dV kV doc pm an cdv ct) ps sp := by
  refine ⟨len, fun A outer s H args us vs Q E hr e0 hb r hsp => ?_⟩
  have hl := len _ _ _ _ hsp
  have KX : K.In s.heap := e0.mod.kin.keeps fun b o e => (e0.bs b o e).1
  have lim : s.heap.NoLimit := e0.mod.nolimit.keeps fun b o e => (e0.bs b o e).1
  have hkind : ∀ y ∈ ps.zip us, scope.names.lookup y.1 = some .local ∨ (scope.names.lookup y.1 = some .cell ∧ ((cellsFrom (s.heap.objs.size + 1) scope.names []).lookup y.1).isSome = true) := fun ⟨n, v⟩ hy => by
    rcases S.par n (List.of_mem_zip hy).1 with q | q
    · exact .inl q
    · exact .inr ⟨q, PySem.W.cellsFrom_some _ _ _ (.inl q)⟩
  refine codeAny_call_function hr.depth (KX _ _ lk) rfl S.co S.gen rfl (PySem.W.codeRec_of KX hcd) (hb _ _ _ _ ?_)
  refine wpAny_newFunctionEnv_cells S.kind hkind fun env he s1 x => ?_
  subst he
  refine ⟨lim.keeps x.toInCall.keep, codeAny_func ?_⟩
  obtain ⟨t, ht, hq⟩ := hbody A outer s H vs Q E (hr.deeper _) hsp
  have I : Inv (cxOf CX P w K mg base N qual scope f cdv A outer s H E) [] (start N vs) H s1 := inv_start S hr.hd e0 hl r x
  refine wpAny_mono (ht [] s1 (start N vs) H _ I hq) (fun fl s' hs => ?_) fun e s' hs => hs
  have fin : ∀ {σ' : St} {H' : Hp} {v : V} {u : Value}, Inv (cxOf CX P w K mg base N qual scope f cdv A outer s H E) [] σ' H' s' → RelV v u → Q v H' → CE outer P w H s Q u s' :=
    fun {σ' H' v u} J rv q => ⟨v, H', J.os, J.bare, J.base, J.hok, rv, q⟩
  cases fl with
  | ret u =>
    obtain ⟨v, σ', H', J, rv, q⟩ := hs
    exact fin J rv q
  | next =>
    obtain ⟨σ', H', J, q⟩ := hs
    exact fin (v := V.non) (u := Value.none) J rfl q
  | brk =>
    obtain ⟨_, _, _, q⟩ := hs
    exact False.elim q
  | cont =>
    obtain ⟨_, _, _, q⟩ := hs
    exact False.elim q
end L2

namespace L2
open PySem PySem.Spec PyProof.Rows
section
variable {X : Cx} {x : Str} {p pos : Pos} {e : Expr} {es : List Expr} {t : TA} {id T : String} {r : List V → Hp → VK → Prop}

def tCB (r : List V → Hp → VK → Prop) (t : TA) : TE := fun σ H Q => t σ H fun vs H1 => r vs H1 Q
/-- f(e, ..), f a built-in function -/
theorem pe_callB (hc : CallR X (.builtin id) r) (hg : Gl X x) (hm : X.mg x = none) (hv : bootBuiltins x = some (.builtin id)) (ha : PA X (e :: es) t) (hn : x ≠ "__name__" := by decide) (hdb : (x == ("__debug__" : Str)) = false := by decide)
    (he : starEach (e :: es) X.env = (false, eval e X.env) :: starEach es X.env := by rfl) (hpl : (backTo pos (starEach es X.env)).any (·.1) = false := by rfl) : PE X (.Call (.Name x p) (e :: es) [] pos) (tCB r t) := by
  intro pins s σ H Q I h
  refine wpAny_Call_Name_kw (ld_blt I hg hm hv ?_ hn hdb)
  exact PyProof.Rows.callWith_builtin1 (thn (ha pos pins s σ H _ I h) fun us s1 ⟨vs, H1, I1, r1, q1⟩ => hc pins s1 σ H1 vs us Q I1 r1 q1) he hpl
/-- T(e, ..), T a built-in type -/
theorem pe_callTy (hc : CallR X (.type T) r) (hg : Gl X x) (hm : X.mg x = none) (hv : bootBuiltins x = some (.type T)) (ha : PA X (e :: es) t) (hn : x ≠ "__name__" := by decide) (hdb : (x == ("__debug__" : Str)) = false := by decide)
    (he : starEach (e :: es) X.env = (false, eval e X.env) :: starEach es X.env := by rfl) (hpl : (backTo pos (starEach es X.env)).any (·.1) = false := by rfl) : PE X (.Call (.Name x p) (e :: es) [] pos) (tCB r t) := by
  intro pins s σ H Q I h
  refine wpAny_Call_Name_kw (ld_blt I hg hm hv ?_ hn hdb)
  exact PyProof.Rows.callWith_type1 (thn (ha pos pins s σ H _ I h) fun us s1 ⟨vs, H1, I1, r1, q1⟩ => hc pins s1 σ H1 vs us Q I1 r1 q1) he hpl
end
end L2

namespace HT
open PySem PyProof.Rows



section
open PySem.SeqAt
open PySem.AutoSeq1 (wpAny_loadPart')
open PySem.MeetsSeq PySem.MeetsSeq2 PySem.MeetsSeq3

end

section
variable {prog : Program} {w : World} {A : Around} {E : Value → Shared → Prop} {s : Shared}



/-! ### t[a:b], not the whole -/
/-- a slice's bound as a place among n (d where it is left out) -/
def sIx (n d : Nat) : Option Int → Nat
  | none => d
  | some v => if v < 0 then (v + (n : Int)).toNat else min v.toNat n
theorem sIx_nat (n d k : Nat) : sIx n d (some (k : Int)) = min k n := by
  show (if (k : Int) < 0 then ((k : Int) + (n : Int)).toNat else min (k : Int).toNat n) = min k n
  rw [if_neg (by omega), Int.toNat_natCast]

end
end HT

namespace L2
open PySem PySem.Spec PyProof.Rows

/-! ### the parts of a slice -/
abbrev TO := St → Hp → (Option Int → Hp → Prop) → Prop
/-- a slice's part (left out, or an int) -/
def PO (X : Cx) (e : Option Expr) (t : TO) : Prop :=
  ∀ (pins : List (Addr × Obj)) (s : Shared) (σ : St) (H : Hp) (Q : Option Int → Hp → Prop), Inv X pins σ H s → t σ H Q →
    wpAny (model X.prog X.w) X.A (evalPart e X.env) (fun u s' => ∃ o H', Inv X pins σ H' s' ∧ IsPart u o ∧ Q o H') X.xe s
def tNoPart : TO := fun _ H Q => Q none H
def tPart (t : TE) : TO := fun σ H Q => t σ H fun x H1 => ∃ i, x = .int i ∧ Q (some i) H1

theorem intsAre_of {ns : List Int} : ∀ {us : List Value}, Vals (ns.map V.int) us → IntsAre us ns := by
  induction ns with
  | nil => intro us r; rw [List.map_nil] at r; cases r; exact .nil
  | cons n ns ih =>
    intro us r
    rw [List.map_cons] at r
    cases r with
    | cons r1 r2 =>
      obtain ⟨t, e⟩ := r1
      subst e
      exact .cons n t (ih r2)

section
variable {X : Cx} {e : Expr} {te : TE} {lo hi : Option Expr} {tl th : TO} {pos p2 : Pos}

theorem po_none : PO X none tNoPart := by
  intro pins s σ H Q I h
  rw [evalPart_none]
  exact wpAny_pure ⟨none, H, I, .none, h⟩
theorem po_some (h : PE X e te) : PO X (some e) (tPart te) := by
  intro pins s σ H Q I hw
  rw [evalPart_some]
  refine thn (h pins s σ H _ I hw) fun u s1 ⟨x, H1, I1, r1, q1⟩ => ?_
  obtain ⟨i, rfl, q⟩ := q1
  obtain ⟨t, rfl⟩ := r1
  exact ⟨some i, H1, I1, .int i t, q⟩

/-- what a slice of a value is, by values: the slice object stands at sl -/
def SlR (X : Cx) (r : V → Option Int → Option Int → Hp → VK → Prop) : Prop :=
  ∀ (pins : List (Addr × Obj)) (s : Shared) (σ : St) (H : Hp) (x : V) (v vl vu : Value) (lo hi : Option Int) (sl : Addr) (Q : VK), Inv X pins σ H s → RelV x v → s.heap.IsSliceOf sl vl vu .none → IsPart vl lo → IsPart vu hi → r x lo hi H Q →
    ∃ T id, typeLookup (.type T) "__getitem__" = pure (some (.builtin id)) ∧ s.TypeIs v T ∧ wpAny (model X.prog X.w) X.A (getItem v (.ref sl)) (EP X pins σ Q) X.xe s
def tSl (r : V → Option Int → Option Int → Hp → VK → Prop) (te : TE) (tl th : TO) : TE := fun σ H Q => te σ H fun x H1 => tl σ H1 fun l H2 => th σ H2 fun u H3 => r x l u H3 Q
/-- a[lo:hi], any a -/
theorem pe_slice {r : V → Option Int → Option Int → Hp → VK → Prop} (hr : SlR X r) (he : PE X e te) (hl : PO X lo tl) (hu : PO X hi th) : PE X (.Subscript e (.Slice lo hi none p2) pos) (tSl r te tl th) := by
  intro pins s σ H Q I h
  refine Subscript_ (thn (he pins s σ H _ I h) fun v s1 ⟨x, H1, I1, r1, q1⟩ => ?_)
  refine wpAny_Slice (thn (hl pins s1 σ H1 _ I1 q1) fun vl s2 ⟨l, H2, I2, pl, q2⟩ => thn (hu pins s2 σ H2 _ I2 q2) fun vu s3 ⟨u, H3, I3, pu, q3⟩ => ?_)
  rw [evalPart_none]
  refine wpAny_pure ?_
  have I4 : Inv X pins σ H3 { s3 with heap := s3.heap.push { cls := .type "slice", data := .fields #[vl, vu, .none] } } := I3.kept (t' := s3.toks) fun b ob q => Heap.get?_push_of_some _ q
  obtain ⟨T, id, hT, ht, hg⟩ := hr pins { s3 with heap := s3.heap.push { cls := .type "slice", data := .fields #[vl, vu, .none] } } σ H3 x v vl vu l u s3.heap.objs.size Q I4 r1 (Heap.IsSliceOf.new ..) pl pu q3
  show wpAny (model X.prog X.w) X.A (subscriptTail e (.Slice lo hi none p2) v (.ref s3.heap.objs.size)) (EP X pins σ Q) X.xe { s3 with heap := s3.heap.push { cls := .type "slice", data := .fields #[vl, vu, .none] } }
  exact tail_any (ops := [.ref s3.heap.objs.size, v]) ht hT hg (by with_unfolding_all rfl)

/-- the items of xs[lo:hi] -/
def cutV (xs : List V) (lo hi : Option Int) : List V := (xs.drop (HT.sIx xs.length 0 lo)).take (HT.sIx xs.length xs.length hi - HT.sIx xs.length 0 lo)
theorem cutV_length (xs : List V) (lo hi : Option Int) : (cutV xs lo hi).length ≤ xs.length := by
  unfold cutV
  rw [List.length_take, List.length_drop]
  omega

/-! ### t < u, t + u -/
end
end L2

namespace L2
open PySem PySem.Spec PyProof.Rows

/-! ### places -/
/-- the place that an index of any sign means -/
def ixN (n : Nat) (i : Int) : Option Nat := if 0 ≤ i then (if i < n then some i.toNat else none) else if -(n : Int) ≤ i then some (i + n).toNat else none
def atI {α : Type} (xs : List α) (i : Int) : Option α := (ixN xs.length i).bind fun j => xs[j]?
theorem ixN_seq {n : Nat} {i : Int} {j : Nat} (h : ixN n i = some j) : seqIndex? i n = some j ∧ j < n ∧ -(n : Int) ≤ i ∧ i < n := by
  unfold ixN at h
  by_cases h0 : 0 ≤ i
  · rw [if_pos h0] at h
    by_cases h1 : i < n
    · rw [if_pos h1] at h
      have e : i.toNat = j := Option.some.inj h
      exact ⟨by rw [seqIndex_of h0 h1, e], by omega, by omega, h1⟩
    · rw [if_neg h1] at h; cases h
  · rw [if_neg h0] at h
    by_cases h1 : -(n : Int) ≤ i
    · rw [if_pos h1] at h
      have e : (i + n).toNat = j := Option.some.inj h
      exact ⟨by rw [seqIndex_neg (by omega) h1, e], by omega, h1, by omega⟩
    · rw [if_neg h1] at h; cases h
theorem atI_get {α : Type} {xs : List α} {i : Int} {v : α} (h : atI xs i = some v) : ∃ j, seqIndex? i xs.length = some j ∧ xs[j]? = some v ∧ j < xs.length ∧ -(xs.length : Int) ≤ i ∧ i < xs.length := by
  unfold atI at h
  cases e : ixN xs.length i with
  | none => rw [e] at h; cases h
  | some j =>
    rw [e] at h
    obtain ⟨h1, h2, h3, h4⟩ := ixN_seq e
    exact ⟨j, h1, h, h2, h3, h4⟩
theorem atI_nat {α : Type} {xs : List α} {j : Nat} {v : α} (h : xs[j]? = some v) : atI xs (j : Int) = some v := by
  have hj : j < xs.length := (List.getElem?_eq_some_iff.mp h).1
  have e : ixN xs.length (j : Int) = some j := by
    unfold ixN
    rw [if_pos (by omega), if_pos (by omega)]; simp
  unfold atI; rw [e]; exact h

/-! ### what may be subscripted -/
/-- what stands as an index of a plain subscript -/
def PlainIx (b : Expr) : Prop := ∀ o i, subscripted b false o i = operate [o, i] (getItem o i)
/-- a subscript by values -/
def IxR (X : Cx) (r : R2) : Prop :=
  ∀ (value slice : Expr) (pins : List (Addr × Obj)) (s : Shared) (σ : St) (H : Hp) (x y : V) (v u : Value) (Q : VK), Inv X pins σ H s → RelV x v → RelV y u → r x y H Q →
    subscripted slice false v u = operate [v, u] (getItem v u) → wpAny (model X.prog X.w) X.A (subscriptTail value slice v u) (EP X pins σ Q) X.xe s
/-- a call of a builtin's method by values: the receiver, the arguments -/
def MtR (X : Cx) (id : String) (r : V → List V → Hp → VK → Prop) : Prop :=
  ∀ (pins : List (Addr × Obj)) (s : Shared) (σ : St) (H : Hp) (x : V) (xs : List V) (v : Value) (us : List Value) (Q : VK), Inv X pins σ H s → RelV x v → Vals xs us → r x xs H Q →
    wpAny (model X.prog X.w) X.A (call (.builtin id) (v :: us)) (EP X pins σ Q) X.xe s
section
variable {X : Cx} {a b : Expr} {ta tb : TE} {pos : Pos}
/-- a[b] -/
theorem pe_ix {r : R2} (hr : IxR X r) (ha : PE X a ta) (hb : PE X b tb) (hs : PlainIx b) : PE X (.Subscript a b pos) (tOp r ta tb) := by
  intro pins s σ H Q I h
  exact Subscript_ (binT ha hb I h fun v u s2 x y H2 I2 rx ry q => hr a b pins s2 σ H2 x y v u Q I2 rx ry q (hs _ _))

def rIxL (K : PySem.W.Frag) : R2 := fun x y H Q => ∃ p xs i v, x = .ref p ∧ y = .int i ∧ SqL K H p xs ∧ atI xs i = some v ∧ Q v H
def rIxT (K : PySem.W.Frag) : R2 := fun x y H Q => ∃ p xs i v, x = .ref p ∧ y = .int i ∧ SqT K H p xs ∧ atI xs i = some v ∧ Q v H
theorem ix_list : IxR X (rIxL X.K) := by
  intro value slice pins s σ H x y v u Q I rx ry h hs
  obtain ⟨p, xs, i, z, rfl, rfl, hq, he, q⟩ := h
  cases rx
  obtain ⟨t, rfl⟩ := ry
  obtain ⟨its, r, pl, hz⟩ := I.list hq
  obtain ⟨j, h1, h2, h3, h4, h5⟩ := atI_get he
  obtain ⟨w, ew, rw'⟩ := r.get h2
  have hl := r.length
  have hn := line63
  have fin : EP X pins σ Q w s := ⟨z, H, I, rw', q⟩
  by_cases h0 : 0 ≤ i
  · have hj : i.toNat = j := by
      rw [seqIndex_of h0 h5] at h1
      exact Option.some.inj h1
    exact item_listR pl.isList h0 (by omega) (by rw [hj]; simpa using ew) fin hs
  · have hj : (i + (its.toArray.size : Int)).toNat = j := by
      rw [seqIndex_neg (by omega) h4] at h1
      rw [List.size_toArray, ← hl]
      exact Option.some.inj h1
    exact subscriptTail_builtinR (x := w) pl.isList.typeIs slot_list_getitem.lookup
      (wpAny_getItem_list_neg (Q := fun r s' => r = w ∧ EP X pins σ Q r s') pl.isList (by omega) (by rw [List.size_toArray] <;> omega) (by omega) (by rw [hj]; simpa using ew) ⟨rfl, fin⟩) hs
theorem ix_tup : IxR X (rIxT X.K) := by
  intro value slice pins s σ H x y v u Q I rx ry h hs
  obtain ⟨p, xs, i, z, rfl, rfl, hq, he, q⟩ := h
  cases rx
  obtain ⟨t, rfl⟩ := ry
  obtain ⟨its, r, pl, hz⟩ := I.tuple hq
  obtain ⟨j, h1, h2, h3, h4, h5⟩ := atI_get he
  obtain ⟨w, ew, rw'⟩ := r.get h2
  have hl := r.length
  have hn := line63
  have fin : EP X pins σ Q w s := ⟨z, H, I, rw', q⟩
  exact subscriptTail_builtinR (x := w) pl.typeIs slot_tuple_getitem.lookup
    (getItem_tuple (j := j) (Q := fun r s' => r = w ∧ EP X pins σ Q r s') pl (by omega) (by omega) (by rw [List.size_toArray, ← hl]; exact h1) (by simpa using ew) ⟨rfl, fin⟩) hs

/-! ### xs[i] = v, any sign -/
/-- the list's object behind a store -/
theorem mapSeq_set (its : List Value) (n j : Nat) (u : Value) : Obj.mapSeq (·.setIfInBounds j u) { cls := .type "list", data := .seq its.toArray n } = { cls := .type "list", data := .seq (its.set j u).toArray n } := by
  simp [Obj.mapSeq]
theorem Inv.lst {pins : List (Addr × Obj)} {σ : St} {H : Hp} {s : Shared} {p : Addr} {xs : List V} (I : Inv X pins σ H s) (h : H p = some (.lst xs)) :
    ∃ (its : List Value) (n : Nat), Vals xs its ∧ s.heap.get? p = some { cls := .type "list", data := .seq its.toArray n } ∧ xs.length ≤ sizeLine := by
  obtain ⟨z, its, n, r, e⟩ := I.hok p _ h
  exact ⟨its, n, r, e, z⟩
/-- the list at p is written by an update of its object -/
theorem Inv.lstUpd {pins : List (Addr × Obj)} {σ : St} {H : Hp} {s : Shared} {p : Addr} {xs ys : List V} {its its' : List Value} {n n' : Nat} {f : Obj → Obj} (I : Inv X pins σ H s) (h : H p = some (.lst xs))
    (ho : s.heap.get? p = some { cls := .type "list", data := .seq its.toArray n }) (hf : f { cls := .type "list", data := .seq its.toArray n } = { cls := .type "list", data := .seq its'.toArray n' }) (r : Vals ys its') (hz : ys.length ≤ sizeLine) (t : Nat) :
    Inv X pins σ (upd H p (.lst ys)) { s with heap := s.heap.update p f, toks := t } := by
  have e : (s.heap.update p f).get? p = some { cls := .type "list", data := .seq its'.toArray n' } := by
    rw [Heap.get?_update_self f ho (by rw [hf] <;> rfl), hf]
  refine I.write (x := p) (e := p) (by rw [h]; trivial) (.inl rfl) (fun b u hb q => (Heap.get?_update_other _ _ (Ne.symm hb)).trans q) ⟨_, e⟩ ?_
  exact ⟨hz, its', n', r, e⟩
def rSetL : V → V → V → Hp → (Hp → Prop) → Prop := fun o i v H Q => ∃ p xs k j, o = .ref p ∧ i = .int k ∧ H p = some (.lst xs) ∧ ixN xs.length k = some j ∧ Q (upd H p (.lst (xs.set j v)))
theorem set_list : PSet X rSetL := by
  intro pins s σ H o i v ov iv u Q I ro ri rv h
  obtain ⟨p, xs, k, j, rfl, rfl, hp, hj, q⟩ := h
  cases ro
  obtain ⟨t, rfl⟩ := ri
  obtain ⟨its, n, r, ho, hz⟩ := I.lst hp
  obtain ⟨h1, h2, h3, h4⟩ := ixN_seq hj
  have hl := r.length
  have hn := line63
  have I' : Inv X pins σ (upd H p (.lst (xs.set j v))) { s with heap := s.heap.update p (Obj.mapSeq (·.setIfInBounds j u)) } :=
    I.lstUpd hp ho (mapSeq_set its n j u) (r.set rv j) (by rw [List.length_set]; exact hz) s.toks
  by_cases h0 : 0 ≤ k
  · have hk : k.toNat = j := by
      rw [seqIndex_of h0 h4] at h1
      exact Option.some.inj h1
    exact PySem.W.ki_setAt ho h0 (by omega) (by rw [List.size_toArray, ← hl]; exact h4) (by rw [hk]; exact ⟨_, I', q⟩)
  · have hk : (k + (its.toArray.size : Int)).toNat = j := by
      rw [seqIndex_neg (by omega) h3] at h1
      rw [List.size_toArray, ← hl]
      exact Option.some.inj h1
    exact PySem.W.ki_setBack ho (by omega) (by rw [List.size_toArray, ← hl]; exact h3) (by omega) (by rw [hk]; exact ⟨_, I', q⟩)

/-! ### slices -/
theorem slice_bounds (lo hi : Option Int) (n : Nat) : (sliceBounds lo hi none n).1 = ((HT.sIx n 0 lo : Nat) : Int) ∧ (sliceBounds lo hi none n).2.1 = ((HT.sIx n n hi : Nat) : Int) ∧ (sliceBounds lo hi none n).2.2 = 1 := by
  refine ⟨?_, ?_, rfl⟩
  · cases lo with
    | none => simp [sliceBounds, HT.sIx]
    | some i =>
      simp only [sliceBounds, HT.sIx, Option.getD_none, show (1 : Int) > 0 by decide, if_true]
      by_cases h : i < 0
      · simp only [h, if_true] <;> omega
      · simp only [h, if_false] <;> omega
  · cases hi with
    | none => simp [sliceBounds, HT.sIx]
    | some i =>
      simp only [sliceBounds, HT.sIx, Option.getD_none, show (1 : Int) > 0 by decide, if_true]
      by_cases h : i < 0
      · simp only [h, if_true] <;> omega
      · simp only [h, if_false] <;> omega
theorem slicePick_cut (its : List Value) (lo hi : Option Int) : slicePick its.toArray lo hi none = ((its.drop (HT.sIx its.length 0 lo)).take (HT.sIx its.length its.length hi - HT.sIx its.length 0 lo)).toArray := by
  obtain ⟨h1, h2, h3⟩ := slice_bounds lo hi its.toArray.size
  unfold slicePick
  rw [h1, h2, h3]
  simp only [sliceRange_one, pick_run, List.size_toArray] <;> rfl
/-- xs[lo:hi] of a list: a new list -/
def rSlL (K : PySem.W.Frag) : V → Option Int → Option Int → Hp → VK → Prop := fun x lo hi H Q => ∃ a xs, x = .ref a ∧ SqL K H a xs ∧ ∀ p, H p = none → Q (.ref p) (upd H p (.lst (cutV xs lo hi)))
theorem sl_list : SlR X (rSlL X.K) := by
  intro pins s σ H x v vl vu lo hi sl Q I rx hs pl pu h
  obtain ⟨a, xs, rfl, hx, q⟩ := h
  cases rx
  obtain ⟨its, r, ht, hz⟩ := I.list hx
  have hlen := r.length
  refine ⟨"list", _, slot_list_getitem.lookup, ht.isList.typeIs, ?_⟩
  refine wpAny_getItem_list_slice ht.isList hs pl pu .none (by simp) ?_ (by rw [List.size_toArray] <;> omega)
  rw [slicePick_cut, ← hlen]
  refine ⟨.ref s.heap.objs.size, _, I.laid (t' := s.toks) (o := .lst (cutV xs lo hi)) (fun b ob q => Heap.get?_push_of_some _ q) (Nat.le_refl _) ?_, rfl, q _ (I.hok.fresh (Nat.le_refl _))⟩
  exact ⟨Nat.le_trans (cutV_length xs lo hi) hz, _, 0, (r.drop (HT.sIx xs.length 0 lo)).take (HT.sIx xs.length xs.length hi - HT.sIx xs.length 0 lo), Heap.get?_push_size _ rfl⟩

/-! ### in, not in: flat items -/

/-! ### len, list(x), tuple(x) of any list or tuple that is read -/
theorem call_len_seq : CallR X (.builtin "len") (fun xs H Q => ∃ p ys, xs = [.ref p] ∧ (SqL X.K H p ys ∨ SqT X.K H p ys) ∧ Q (.int ys.length) H) := by
  intro pins s σ H xs us Q I r h
  obtain ⟨p, ys, rfl, hq, q⟩ := h
  obtain ⟨u, rfl, rx⟩ := vals1 r
  cases rx
  have hn := line63
  rcases hq with hq | hq
  · obtain ⟨its, r', pl, hz⟩ := I.list hq
    have hlen := r'.length
    exact Calls.call_len_list pl.isList (by simp only [List.size_toArray] <;> omega) ⟨.int ys.length, H, I.tok _, ⟨s.toks + 1, by rw [List.size_toArray, hlen]⟩, q⟩
  · obtain ⟨its, r', pl, hz⟩ := I.tuple hq
    have hlen := r'.length
    exact len_tuple pl (by simp only [List.size_toArray] <;> omega) ⟨.int ys.length, H, I.tok _, ⟨s.toks + 1, by rw [List.size_toArray, hlen]⟩, q⟩
theorem call_list_of : CallR X (.type "list") (fun xs H Q => ∃ p ys, xs = [.ref p] ∧ (SqL X.K H p ys ∨ SqT X.K H p ys) ∧ ∀ l, H l = none → Q (.ref l) (upd H l (.lst ys))) := by
  intro pins s σ H xs us Q I r h
  obtain ⟨p, ys, rfl, hq, q⟩ := h
  obtain ⟨u, rfl, rx⟩ := vals1 r
  cases rx
  have fin : ∀ (its : List Value), Vals ys its → ys.length ≤ sizeLine → ∀ (h' : Heap) (c' : Nat), (∀ b o', s.heap.get? b = some o' → h'.get? b = some o') →
      h'.get? s.heap.objs.size = some { cls := .type "list", dict := none, data := .seq its.toArray c', slots := #[] } → EP X pins σ Q (.ref s.heap.objs.size) { s with heap := h' } := fun its r' hz h' c' kp e =>
    ⟨.ref s.heap.objs.size, _, I.laid (t' := s.toks) kp (Nat.le_refl _) (show ObjOk X.prog X.w _ h' _ (.lst ys) from ⟨hz, its, c', r', e⟩), rfl, q _ (I.hok.fresh (Nat.le_refl _))⟩
  rcases hq with hq | hq
  · obtain ⟨its, r', pl, hz⟩ := I.list hq
    have hlen := r'.length
    obtain ⟨o, ho, hc, n, hd⟩ := pl.isList
    exact call_list_seq p (.inl rfl) ho hc hd (fun h' c' kp e => fin its r' hz h' c' kp e) (by simp only [List.size_toArray] <;> omega)
  · obtain ⟨its, r', pl, hz⟩ := I.tuple hq
    have hlen := r'.length
    obtain ⟨o, ho, hc, n, hd⟩ := pl
    exact call_list_seq p (.inr rfl) ho hc hd (fun h' c' kp e => fin its r' hz h' c' kp e) (by simp only [List.size_toArray] <;> omega)
theorem call_tuple_of : CallR X (.type "tuple") (fun xs H Q => ∃ p ys, xs = [.ref p] ∧ ((SqL X.K H p ys ∧ ∀ l, H l = none → Q (.ref l) (upd H l (.tup ys))) ∨ (SqT X.K H p ys ∧ Q (.ref p) H))) := by
  intro pins s σ H xs us Q I r h
  obtain ⟨p, ys, rfl, h⟩ := h
  obtain ⟨u, rfl, rx⟩ := vals1 r
  cases rx
  rcases h with ⟨hq, q⟩ | ⟨hq, q⟩
  · obtain ⟨its, r', pl, hz⟩ := I.list hq
    have hlen := r'.length
    refine call_tuple_list pl.isList (fun h' kp => ?_) (by simp only [List.size_toArray] <;> omega)
    have I1 : Inv X pins σ H { s with heap := h' } := I.kept (t' := s.toks) kp
    have I2 : Inv X pins σ (upd H h'.objs.size (.tup ys)) { s with heap := h'.push { cls := .type "tuple", data := .seq its.toArray } } :=
      I1.laid (t' := s.toks) (fun b o e => Heap.get?_push_of_some _ e) (Nat.le_refl _) (show ObjOk X.prog X.w _ _ _ (.tup ys) from ⟨hz, its, r', IsTup.new _ _⟩)
    exact ⟨.ref h'.objs.size, _, I2, rfl, q _ (I1.hok.fresh (Nat.le_refl _))⟩
  · obtain ⟨its, r', pl, hz⟩ := I.tuple hq
    exact call_tuple_same pl ⟨.ref p, H, I, rfl, q⟩

/-! ### the call of a builtin's method: o.m(..) -/
/-- the value is of that builtin type -/
def tyV (K : PySem.W.Frag) (T : String) (x : V) (H : Hp) : Prop := match x with
  | .str _ => T = "str"
  | .int _ => T = "int"
  | .ref p => (T = "list" ∧ ∃ xs, SqL K H p xs) ∨ (T = "tuple" ∧ ∃ o, K.lookup p = some o ∧ o.cls = .type "tuple" ∧ o.dict = none) ∨
      (T = "dict" ∧ ((∃ kvs, H p = some (.dK kvs)) ∨ ∃ kvs, H p = some (.dT kvs))) ∨ (T = "set" ∧ ∃ S n, H p = some (.set S n))
  | _ => False
theorem tyV_is {pins : List (Addr × Obj)} {σ : St} {H : Hp} {s : Shared} {T : String} {x : V} {v : Value} (I : Inv X pins σ H s) (r : RelV x v) (ty : tyV X.K T x H) :
    s.TypeIs v T ∧ ∀ a, v = .ref a → ∃ ob, s.heap.get? a = some ob ∧ ob.dict = none := by
  cases x with
  | str z =>
    obtain ⟨t, rfl⟩ := r
    cases (show T = "str" from ty)
    exact ⟨typeIs_str s z t, fun _ e => nomatch e⟩
  | int i =>
    obtain ⟨t, rfl⟩ := r
    cases (show T = "int" from ty)
    exact ⟨typeIs_int s i t, fun _ e => nomatch e⟩
  | ref p =>
    cases r
    rcases ty with ⟨rfl, xs, hq⟩ | ⟨rfl, o, hk, hc, hd⟩ | ⟨rfl, hk⟩ | ⟨rfl, S, n, hk⟩
    · obtain ⟨its, _, pl, _⟩ := I.list hq
      refine ⟨pl.isList.typeIs, fun a e => ?_⟩
      cases e
      obtain ⟨o, n, e, c, hd, _⟩ := pl
      exact ⟨o, e, hd⟩
    · refine ⟨⟨o, I.kIn p o hk, hc⟩, fun a e => ?_⟩
      cases e
      exact ⟨o, I.kIn _ o hk, hd⟩
    · have z : ∃ o, s.heap.get? p = some o ∧ o.ExactDict := by
        rcases hk with ⟨kvs, hk⟩ | ⟨kvs, hk⟩
        · obtain ⟨_, _, _, _, o, _, _, e, ex, _⟩ := I.hok p _ hk
          exact ⟨o, e, ex⟩
        · obtain ⟨_, _, _, _, o, _, _, e, ex, _⟩ := I.hok p _ hk
          exact ⟨o, e, ex⟩
      obtain ⟨o, e, ex⟩ := z
      refine ⟨⟨o, e, ex.1⟩, fun a e2 => ?_⟩
      cases e2
      exact ⟨o, e, ex.2.1⟩
    · obtain ⟨o, _, _, _, e, ex, _⟩ := I.hok p _ hk
      refine ⟨⟨o, e, ex.1⟩, fun a e2 => ?_⟩
      cases e2
      exact ⟨o, e, ex.2.1⟩
  | _ => exact False.elim ty
def tBM0 (K : PySem.W.Frag) (T : String) (r : V → List V → Hp → VK → Prop) (to : TE) : TE := fun σ H Q => to σ H fun x H1 => tyV K T x H1 ∧ r x [] H1 Q
def tBM (K : PySem.W.Frag) (T : String) (r : V → List V → Hp → VK → Prop) (to : TE) (t : TA) : TE := fun σ H Q => to σ H fun x H1 => tyV K T x H1 ∧ t σ H1 fun xs H2 => r x xs H2 Q
variable {o e : Expr} {es : List Expr} {to : TE} {t : TA} {name : Str} {apos cpos : Pos} {T id : String} {r : V → List V → Hp → VK → Prop}
theorem pe_bm0 (pa : PlainAttrs T) (slot : Slot T name id) (hty : typeOf (.builtin id) = pure (.type "method_descriptor")) (hm : MtR X id r) (ho : PE X o to)
    (hbase : attributeBase o name X.env (eval o X.env) = eval o X.env := by rfl) (hline : (apos.endLine == cpos.line) = true := by rfl) : PE X (.Call (.Attribute o name apos) [] [] cpos) (tBM0 X.K T r to) := by
  intro pins s σ H Q I h
  refine wpAny_Call_method0_late hbase hline (thn (ho pins s σ H _ I h) fun v s1 ⟨x, H1, I1, r1, ty, q1⟩ => ?_)
  obtain ⟨h1, h2⟩ := tyV_is I1 r1 ty
  exact ⟨T, id, pa, slot, hty, h1, h2, Calls.callWith_builtin rfl (PySem.evalArgs_none (hm pins s1 σ H1 x [] v [] Q I1 r1 .nil q1))⟩
theorem pe_bm (pa : PlainAttrs T) (slot : Slot T name id) (hty : typeOf (.builtin id) = pure (.type "method_descriptor")) (hm : MtR X id r) (ho : PE X o to) (ha : PA X (e :: es) t)
    (hbase : attributeBase o name X.env (eval o X.env) = eval o X.env := by rfl)
    (hfew : ((backTo cpos (starEach (e :: es) X.env)).all (fun x => !x.1) && (backToKw cpos (keywordEach [] X.env)).all (fun x => x.1.isSome)
      && decide ((e :: es).length + ([] : List Keyword).length + (if ([] : List Keyword).isEmpty then 0 else 1) < 30)) = true := by rfl)
    (hline : (apos.endLine == cpos.line) = true := by rfl) (hs : starEach (e :: es) X.env = (false, eval e X.env) :: starEach es X.env := by rfl) (hplain : (backTo cpos (starEach es X.env)).any (·.1) = false := by rfl) :
    PE X (.Call (.Attribute o name apos) (e :: es) [] cpos) (tBM X.K T r to t) := by
  intro pins s σ H Q I h
  refine wpAny_Call_method_late hbase hfew hline rfl (thn (ho pins s σ H _ I h) fun v s1 ⟨x, H1, I1, r1, ty, q1⟩ => ?_)
  obtain ⟨h1, h2⟩ := tyV_is I1 r1 ty
  refine ⟨T, id, pa, slot, hty, h1, h2, ?_⟩
  have hA := ha cpos pins s1 σ H1 _ I1 q1
  rw [hs] at hA ⊢
  refine Calls.callWith_builtin (by show (false || (backTo cpos (starEach es X.env)).any (·.1)) = false; rw [hplain] <;> rfl) (Calls.evalArgs_plain ?_)
  exact thn hA fun us s2 ⟨vs, H2, I2, r2, q2⟩ => hm pins s2 σ H2 x vs v us Q I2 r1 r2 q2
/- xs.append(e), list.index on a module's tuple .. are MtR facts of 06m -/
end
end L2

namespace L2
open PySem PySem.Spec PyProof.Rows

def MtM (X : Cx) (id : String) (r : V → List V → Hp → VK → Prop) : Prop :=
  ∀ (pins : List (Addr × Obj)) (s : Shared) (σ : St) (H : Hp) (x : V) (xs : List V) (v : Value) (us : List Value) (Q : VK), Inv X pins σ H s → RelV x v → Vals xs us → r x xs H Q →
    wpAny (model X.prog X.w) X.A (call (.builtin id) (v :: us)) (EP X pins σ Q) X.xe s

/-! ### lists of values -/
theorem Vals.one : ∀ {x : V} {us : List Value}, Vals [x] us → ∃ u, us = [u] ∧ RelV x u
  | _, _, .cons r .nil => ⟨_, rfl, r⟩
theorem Vals.two : ∀ {x y : V} {us : List Value}, Vals [x, y] us → ∃ u v, us = [u, v] ∧ RelV x u ∧ RelV y v
  | _, _, _, .cons r (.cons q .nil) => ⟨_, _, rfl, r, q⟩
theorem Vals.zero : ∀ {us : List Value}, Vals [] us → us = []
  | _, .nil => rfl
theorem Vals.dropLast {xs : List V} {us : List Value} (h : Vals xs us) : Vals xs.dropLast us.dropLast := by
  induction h with
  | nil => exact .nil
  | cons r t ih =>
    cases t with
    | nil => exact .nil
    | cons q t' => exact .cons r ih
theorem Vals.rep {xs : List V} {us : List Value} (h : Vals xs us) : ∀ k : Nat, Vals (List.replicate k xs).flatten (List.replicate k us).flatten
  | 0 => .nil
  | k + 1 => by
    rw [List.replicate_succ, List.replicate_succ, List.flatten_cons, List.flatten_cons]
    exact Vals.append h (Vals.rep h k)
theorem erase_last {α : Type} (l : List α) : l.eraseIdx (l.length - 1) = l.dropLast := by
  induction l with
  | nil => rfl
  | cons a r ih =>
    cases r with
    | nil => rfl
    | cons b r =>
      have e : (a :: b :: r).length - 1 = ((b :: r).length - 1) + 1 := by
        have h1 : (a :: b :: r).length = r.length + 2 := rfl
        have h2 : (b :: r).length = r.length + 1 := rfl
        omega
      rw [e, List.eraseIdx_cons_succ, ih]
      all_goals rfl
theorem foldl_rep (its : List Value) : ∀ (k : Nat) (acc : List Value),
    List.foldl (fun x1 x2 => x1 ++ x2) acc.toArray (List.replicate k its.toArray) = (acc ++ (List.replicate k its).flatten).toArray
  | 0, acc => by simp
  | k + 1, acc => by
    have e : acc.toArray ++ its.toArray = (acc ++ its).toArray := by simp
    have e2 : (acc ++ its) ++ (List.replicate k its).flatten = acc ++ (List.replicate (k + 1) its).flatten := by
      rw [List.replicate_succ, List.flatten_cons, List.append_assoc]
    rw [← e2, ← foldl_rep its k (acc ++ its), ← e, List.replicate_succ, List.foldl_cons]

section
variable {X : Cx} {pins : List (Addr × Obj)} {σ : St} {H : Hp} {s : Shared} {l b : Addr} {xs ys zs : List V}

/-! ### the two steps: a tracked list is rewritten, a new list is laid -/
theorem Inv.lset {its its' : List Value} {n : Nat} {f : Array Value → Array Value} {t' : Nat} (I : Inv X pins σ H s) (hH : H l = some (.lst xs))
    (e : s.heap.get? l = some { cls := .type "list", data := .seq its.toArray n }) (hf : f its.toArray = its'.toArray) (hv : Vals ys its') (hz : ys.length ≤ sizeLine) :
    Inv X pins σ (upd H l (.lst ys)) { s with heap := s.heap.update l (Obj.mapSeq f), toks := t' } := by
  have q := PySem.IsL.update e f
  rw [hf] at q
  refine I.write (x := l) (e := l) (by rw [hH]; exact trivial) (.inl rfl) (fun b' u hb hu => (Heap.get?_update_other s.heap (Obj.mapSeq f) (Ne.symm hb)).trans hu) ⟨_, q⟩ ?_
  exact ⟨hz, its', _, hv, q⟩
theorem Inv.lnew {its : List Value} {t' : Nat} (I : Inv X pins σ H s) (hv : Vals ys its) (hz : ys.length ≤ sizeLine) :
    Inv X pins σ (upd H s.heap.objs.size (.lst ys)) { s with heap := s.heap.push { cls := .type "list", data := .seq its.toArray }, toks := t' } :=
  I.laid (fun _ _ q => Heap.get?_push_of_some _ q) (Nat.le_refl _) ⟨hz, its, 0, hv, Heap.get?_push_size _ rfl⟩
theorem Inv.fresh (I : Inv X pins σ H s) : H s.heap.objs.size = none := I.hok.fresh (Nat.le_refl _)
theorem Inv.lstM (I : Inv X pins σ H s) (hH : H l = some (.lst xs)) : xs.length ≤ sizeLine ∧ ∃ (its : List Value) (n : Nat), Vals xs its ∧ xs.length = its.length ∧ s.heap.get? l = some { cls := .type "list", data := .seq its.toArray n } := by
  obtain ⟨z, its, n, r, e⟩ := I.hok l _ hH
  exact ⟨z, its, n, r, r.length, e⟩

theorem notLongL {n : Nat} (h : n ≤ sizeLine) : Builtin.List.listTooLong n = false := by
  unfold Builtin.List.listTooLong
  exact decide_eq_false (by omega)
end

section
variable {X : Cx}

/-! ### methods -/
def rAppend : V → List V → Hp → VK → Prop := fun x vs H Q => ∃ l xs y, x = .ref l ∧ vs = [y] ∧ H l = some (.lst xs) ∧ xs.length < sizeLine ∧ Q .non (upd H l (.lst (xs ++ [y])))
theorem mt_append : MtM X "list.append" rAppend := by
  intro pins s σ H x vs v us Q I rx rv h
  obtain ⟨l, xs, y, rfl, rfl, hH, hz, q⟩ := h
  cases rx
  obtain ⟨u, rfl, ru⟩ := rv.one
  obtain ⟨z, its, n, r, hl, e⟩ := I.lstM hH
  refine call_meets F.slot_list_append ⟨_, e, rfl⟩ F.entry_list_append (F.args_list_append_2 _ _) (PySem.list_append l its.toArray n u (by rw [List.size_toArray]; omega)) ⟨e, ?_⟩
  refine ⟨.non, _, I.lset (its' := its ++ [u]) hH e (by simp) (r.append (.cons ru .nil)) ?_, rfl, q⟩
  rw [List.length_append, List.length_singleton]
  omega

def rExtend : V → List V → Hp → VK → Prop := fun x vs H Q => ∃ l b xs zs, x = .ref l ∧ vs = [.ref b] ∧ H l = some (.lst xs) ∧ H b = some (.lst zs) ∧ xs.length + zs.length ≤ sizeLine ∧ Q .non (upd H l (.lst (xs ++ zs)))
theorem mt_extend : MtM X "list.extend" rExtend := by
  intro pins s σ H x vs v us Q I rx rv h
  obtain ⟨l, b, xs, zs, rfl, rfl, hH, hB, hz, q⟩ := h
  cases rx
  obtain ⟨u, rfl, ru⟩ := rv.one
  cases ru
  obtain ⟨z, its, n, r, hl, e⟩ := I.lstM hH
  obtain ⟨z2, its2, n2, r2, hl2, e2⟩ := I.lstM hB
  have hsz : its.toArray.size + its2.toArray.size ≤ sizeLine := by rw [List.size_toArray, List.size_toArray]; omega
  have hlong : ¬ (!its.toArray.isEmpty && Builtin.List.listTooLong (its.toArray.size + its2.toArray.size)) = true := by
    rw [notLongL hsz, Bool.and_false]
    exact Bool.false_ne_true
  refine call_meets F.slot_list_extend ⟨_, e, rfl⟩ F.entry_list_extend (F.args_list_extend_2 _ _)
    (AutoSeq1.list_extend_list_list_0 l its.toArray n b its2.toArray n2 hlong (by rw [List.size_toArray]; omega) (by omega)) ⟨e, e2, ?_⟩
  refine ⟨.non, _, I.lset (its' := its ++ its2) hH e (by simp) (r.append r2) ?_, rfl, q⟩
  rw [List.length_append]
  omega

def rPop : V → List V → Hp → VK → Prop := fun x vs H Q => ∃ l xs y, x = .ref l ∧ vs = [] ∧ H l = some (.lst xs) ∧ xs[xs.length - 1]? = some y ∧ Q y (upd H l (.lst xs.dropLast))
theorem mt_pop : MtM X "list.pop" rPop := by
  intro pins s σ H x vs v us Q I rx rv h
  obtain ⟨l, xs, y, rfl, rfl, hH, hy, q⟩ := h
  cases rx
  have hus := rv.zero
  subst hus
  obtain ⟨z, its, n, r, hl, e⟩ := I.lstM hH
  obtain ⟨u, hu, ru⟩ := r.get hy
  have hy' : its.toArray[its.toArray.size - 1]? = some u := by
    show its.toArray[its.length - 1]? = some u
    rw [← Array.getElem?_toList, ← hl]
    exact hu
  refine call_meets F.slot_list_pop ⟨_, e, rfl⟩ F.entry_list_pop (F.args_list_pop_1 _) (MeetsSeq.list_pop_last l its.toArray n u hy' (by rw [List.size_toArray]; omega)) ⟨e, ?_⟩
  refine ⟨y, _, I.lset (its' := its.dropLast) hH e ?_ r.dropLast ?_, ru, q⟩
  · show its.toArray.eraseIdxIfInBounds (its.toArray.size - 1) = its.dropLast.toArray
    rw [List.size_toArray, List.eraseIdxIfInBounds_toArray, erase_last]
  · rw [List.length_dropLast]
    omega




/-! ### list + list, list += list, list * int -/
def rCat : R2 := fun x y H Q => ∃ l b xs zs, x = .ref l ∧ y = .ref b ∧ H l = some (.lst xs) ∧ H b = some (.lst zs) ∧ xs.length + zs.length ≤ sizeLine ∧ ∀ p, H p = none → Q (.ref p) (upd H p (.lst (xs ++ zs)))
theorem op_cat : OpR X (binaryOp .Add) rCat := by
  intro pins s σ H x y v u Q I rx ry h
  obtain ⟨l, b, xs, zs, rfl, rfl, hH, hB, hz, q⟩ := h
  cases rx
  cases ry
  obtain ⟨z, its, n, r, hl, e⟩ := I.lstM hH
  obtain ⟨z2, its2, n2, r2, hl2, e2⟩ := I.lstM hB
  refine PySem.P.add_list e e2 ?_ (by rw [List.size_toArray, List.size_toArray]; omega)
  have ea : its.toArray ++ its2.toArray = (its ++ its2).toArray := by simp
  rw [ea]
  exact ⟨.ref _, _, I.lnew (t' := s.toks) (r.append r2) (by rw [List.length_append]; omega), rfl, q _ I.fresh⟩
/-- a list times an int (a negative one is nothing) -/
def rRep : R2 := fun x y H Q => ∃ l k xs, x = .ref l ∧ y = .int k ∧ H l = some (.lst xs) ∧ -(2 ^ 63) ≤ k ∧ k < 2 ^ 63 ∧ xs.length * k.toNat ≤ sizeLine ∧
  ∀ p, H p = none → Q (.ref p) (upd H p (.lst (List.replicate k.toNat xs).flatten))
theorem len_rep {α : Type} (xs : List α) (k : Nat) : (List.replicate k xs).flatten.length = k * xs.length := by
  induction k with
  | zero => simp
  | succ k ih => rw [List.replicate_succ, List.flatten_cons, List.length_append, ih, Nat.succ_mul, Nat.add_comm]
theorem op_rep : OpR X (binaryOp .Mult) rRep := by
  intro pins s σ H x y v u Q I rx ry h
  obtain ⟨l, k, xs, rfl, rfl, hH, h1, h2, hz, q⟩ := h
  cases rx
  obtain ⟨t, rfl⟩ := ry
  obtain ⟨z, its, n, r, hl, e⟩ := I.lstM hH
  have hlen : its.toArray.size * k.toNat ≤ sizeLine := by rw [List.size_toArray, ← hl]; exact hz
  have hcap : ¬ its.toArray.size * k.toNat > (2 ^ 63 - 1) / 8 := by
    have : (sizeLine : Nat) ≤ (2 ^ 63 - 1) / 8 := by decide
    omega
  have hfit : ¬ (!Builtin.List.listFitsIndex k) = true := by
    rw [fitsIndex_both h1 h2]
    exact Bool.false_ne_true
  have hlong : ¬ Builtin.List.listTooLong (its.toArray.size * k.toNat) = true := by
    rw [notLongL hlen]
    exact Bool.false_ne_true
  have hnew : List.foldl (fun x1 x2 => x1 ++ x2) #[] (List.replicate (if its.toArray.isEmpty = true then 0 else k.toNat) its.toArray) = (List.replicate k.toNat its).flatten.toArray := by
    have f0 : ∀ m : Nat, List.foldl (fun x1 x2 => x1 ++ x2) #[] (List.replicate m its.toArray) = (List.replicate m its).flatten.toArray := fun m => by
      have := foldl_rep its m []
      rw [List.nil_append] at this
      exact this
    rw [f0]
    cases its with
    | nil => simp
    | cons a r' => rw [if_neg (by simp)]
  refine wpAny_binaryOp_repeat_ref (T := "list") (U := "int") (by decide) ⟨_, e, rfl⟩ (fun s' => typeIs_int s' k t) noFill_list_mul F.fills_int_mul F.slot_int_rmul repeat_list F.slot_int_index.lookup
    (call_meets F.slot_int_rmul (typeIs_int s k t) F.entry_int_rmul (F.args_int_rmul_2 _ _) (int___rmul___int_list k t l its.toArray n)
      ⟨e, rfl, ⟨_, e, rfl⟩, call_meets F.slot_list_mul ⟨_, e, rfl⟩ F.entry_list_mul (F.args_list_mul_2 _ _) (AutoListH.list___mul___list_int_3 l its.toArray n k t hfit hcap hlong) ⟨e, ?_⟩⟩)
  rw [hnew]
  exact ⟨.ref _, _, I.lnew (t' := s.toks) (r.rep k.toNat) (by rw [len_rep, Nat.mul_comm]; exact hz), rfl, q _ I.fresh⟩

/-! ### del xs[i] -/
end

/-! ### xs[a:b] = ys -/
section
variable {prog : Program} {w : World} {A : Around} {E : Value → Shared → Prop} {s : Shared}
set_option maxRecDepth 100000 in
end

section
variable {X : Cx}
end
end L2

namespace Att
open PySem PySem.W PySem.Calls PyProof.Rows

/-! ### the script -/
theorem ints_of_wellAll {P : Params} {h : Heap} : ∀ (ns : List Int) (vs : List Value), WellAll P h vs (ns.map WData.int) → IntsAre vs ns := by
  intro ns
  induction ns with
  | nil =>
    intro vs w
    rw [List.map_nil] at w
    cases w
    exact .nil
  | cons n ns ih =>
    intro vs w
    rw [List.map_cons] at w
    cases w with
    | cons a b =>
      cases a
      exact .cons _ _ (ih _ b)

theorem script_of {l : OpenLaw} {n : Nat} (hn : l.most = some n) {P : Params} {h : Heap} {args : List WData} {vals : List Value}
    (hpre : l.row.toRowW.claim.pre args = true) (hwl : WellAll P h vals args) :
    ∃ a vs ns, vals = [Value.ref a] ∧ args = [WData.list (ns.map WData.int)] ∧ h.get? a = some { cls := .type "list", data := .seq vs.toArray } ∧ IntsAre vs ns ∧ ns.length ≤ n := by
  have hsh : WShape.hasAll [] args [.list .int] = true := (pre_splitW hpre).1
  have hc : l.pre.holds [] { args := args } = true := (pre_splitW hpre).2
  obtain ⟨d, r, rfl, h1, h2⟩ := hasAllW_cons hsh
  obtain rfl := hasAllW_nil h2
  obtain ⟨xs, rfl, h3⟩ := hasW_list h1
  obtain ⟨ns, rfl⟩ := items_int h3
  have hlen : ns.length ≤ n := by
    unfold OpenLaw.pre at hc
    have h4 : (WTm.not (.lt (.lit (.int (n : Int))) (.len (.arg 0)))).holds [] { args := [.list (ns.map .int)] } = true := by
      have h4 := (holds_andW hc).1
      rw [hn] at h4
      exact h4
    have h5 := condW_of h4 (w_not (w_lt w_lit (w_len_list (w_arg rfl))))
    rw [List.length_map] at h5
    refine Nat.le_of_not_lt fun q => ?_
    have q' : (n : Int) < ((ns.length : Nat) : Int) := by omega
    first
      | (rw [decide_eq_true q'] at h5; exact absurd h5 (by decide))
      | (simp at h5; omega)
  cases hwl with
  | cons w1 w2 =>
    cases w2
    cases w1 with
    | list ho hall => exact ⟨_, _, ns, rfl, rfl, ho, ints_of_wellAll ns _ hall, hlen⟩

theorem post_true (l : OpenLaw) (args : List WData) : l.row.toRowW.claim.post args (.bool true) args = true :=
  postW_of (r := l.row.toRowW) (X := (true == true))
    (show WShape.has [] (.bool true) .bool = true by first | rfl | decide | simp [WShape.has, WShape.arms, WShape.armsAll])
    (show (WTm.eq .res (.lit (.bool true))).value [] { args := args, res := some (.bool true), after := args } = some (.bool (true == true)) from w_eq_bool (w_res rfl) w_lit) rfl

/-! ### the attachment: holds_open's last premise (the goal 'hc' behind k_head) from a wpAny of the law's body -/

/-- the same from a codeAny of the CALL (for a layer whose function contracts speak of calls) -/
theorem attach_call {l : OpenLaw} {n : Nat} {q : Program} {loose : List Str} {XP : (Str → Option Value) → Heap → Prop} {YP : World → Heap → Prop} {d : DefRec}
    (hn : l.most = some n) (hdf : d.params.defaults = [])
    (call : ∀ (w : World) (s₀ s₁ : Shared) (mg mb : Str → Option Value) (fa : Addr) (o : Obj) (pm cd doc : Value) (a : Addr) (vs : List Value) (ns : List Int),
      Ground q loose [] XP w s₀ mg mb s₁.heap → YP w s₁.heap →
      s₁.heap.get? fa = some o → o.data = .func (docDef d.name d.params d.body d.scope pm cd doc) → s₁.heap.CodeRec cd d.name → mg d.name = some (.ref fa) →
      s₁.heap.get? a = some { cls := .type "list", data := .seq vs.toArray } → IntsAre vs ns → ns.length ≤ n → s₁.gens = #[] →
      codeAny (model l.prog w) callerA (.call (.ref fa) ⟨[.ref a], []⟩) (fun r s' => r = .ok (.ret (.bool true)) ∧ OldK s₁.heap s'.heap ∧ s'.os = s₁.os ∧ AllBare s'.gens) s₁) :
    WalkO q loose XP YP l.row.toRowW d [] (fun f vs => PySem.call f vs) := by
  intro w s₀ s₁ mg mb G Y fa o pm cd doc dV kV ho hd hcd hD hmg hg args vals as hpre hlay hrd hwl hlo
  obtain rfl : dV = .none := Dflts.none hD hdf
  obtain rfl : kV = .none := Dflts.noKw hD
  obtain ⟨a, vs, ns, rfl, rfl, hobj, hints, hlen⟩ := script_of hn hpre hwl
  refine enter_call (codeAny_mono (call w s₀ s₁ mg mb fa o pm cd doc a vs ns G Y ho (fd_plain hd) hcd hmg hobj hints hlen hg) fun r s' hq => ?_)
  obtain ⟨rfl, h2, h3, h4⟩ := hq
  exact ⟨.inl ⟨.bool true, .bool true, [], rfl, fun _ => rfl, .bool true, post_true l _, fun _ => ⟨List.Pairwise.nil, fun _ hm => (nomatch hm)⟩⟩, h2, h3, h4⟩


/-! ### rules over ANY heap (no ledger) from facts about the written part K: the library's own take a ledger (News) for what they write -/
section
variable {prog : Program} {w : World} {A : Around} {E : Value → Shared → Prop} {s : Shared} {K : Frag}





/-! the whole heap as the ledger: makes every rule that writes through a ledger a rule over any heap -/

end
end Att

namespace L2
open PySem PySem.Spec PyProof.Rows

theorem vals_ints : ∀ {vs : List Value} {ns : List Int}, IntsAre vs ns → Vals (ns.map V.int) vs
  | _, _, .nil => .nil
  | _, _, .cons n t h => .cons ⟨t, rfl⟩ (vals_ints h)

/-- nothing is tracked but the script, known to the object (or it is an object of the module) -/
def Only (H : Hp) : Prop := ∀ b, H b = none ∨ ∃ o xs, H b = some (.frz o (.lst xs))

/-- THE HEAD: the law's promise, at the heap behind the top. F, the promise of the law's def, may use that base is part of the heap (so K.In base, base.Ns mainGlobals mg stand in Mod) -/
theorem law_call {P : Program} {w : World} {K : PySem.W.Frag} {mg mb : Str → Option Value} {CX : CXT} {k : Nat} {fa a : Addr} {fd : FuncData} {x : Str} {sp : Sp} {s₁ : Shared} {vs : List Value} {ns : List Int}
    (KX : K.In s₁.heap) (hns : s₁.heap.Ns mainGlobals mg) (hb : s₁.heap.Ns builtinsNs mb) (hbb : ∀ x : Str, x ≠ "__name__" → mb x = bootBuiltins x) (hlim : s₁.heap.NoLimit) (hg : s₁.gens = #[])
    (ha : s₁.heap.get? a = some { cls := .type "list", data := .seq vs.toArray }) (hi : IntsAre vs ns) (hl : ns.length ≤ sizeLine) (hr : Room k callerA)
    (F : ∀ base : Heap, K.In base → base.Ns mainGlobals mg → FnOk P w K mg base CX k fa fd [x] sp) (hbind : ∀ (s : Shared) (u : Value), BindsTo s fd ⟨[u], []⟩ [(x, u)])
    (hsp : ∀ H : Hp, Only H → SqL K H a (ns.map V.int) → sp [.ref a] H (fun v _ => v = .bl true) fun _ _ _ => False)
    (hCX : ∀ H e s', CX [] H s₁ (fun _ _ _ => False) e s' → False) :
    codeAny (model P w) callerA (.call (.ref fa) ⟨[.ref a], []⟩) (fun r s' => r = .ok (.ret (.bool true)) ∧ OldK s₁.heap s'.heap ∧ s'.os = s₁.os ∧ AllBare s'.gens) s₁ := by
  have rv := vals_ints hi
  have lenV := hi.length
  -- from an abstract heap in which nothing but the script may be tracked
  have core : ∀ H : Hp, Only H → SqL K H a (ns.map V.int) → HOk P w H s₁.heap → (∀ b, H b ≠ none → b = a) → (H a ≠ none → K.lookup a = none) →
      codeAny (model P w) callerA (.call (.ref fa) ⟨[.ref a], []⟩) (fun r s' => r = .ok (.ret (.bool true)) ∧ OldK s₁.heap s'.heap ∧ s'.os = s₁.os ∧ AllBare s'.gens) s₁ := by
    intro H hO hS hok hA hK
    have base_of : ∀ {b : Addr} {o : Obj}, s₁.heap.get? b = some o → H b = none → (hidT s₁.heap H).get? b = some o := fun e n => hidT_get e n
    have noA : ∀ {b : Addr} {o : Obj} {es : Array DictEntry} {ep : Nat}, s₁.heap.get? b = some o → o.data = .dict es ep → H b = none := fun {b o es ep} e d => by
      cases q : H b with
      | none => rfl
      | some u =>
        have e' : b = a := hA b (by rw [q]; simp)
        subst e'
        rw [ha] at e; cases e
        have d' : Data.seq vs.toArray _ = Data.dict es ep := d
        cases d'
    have nsK : ∀ {b : Addr} {m : Str → Option Value}, s₁.heap.Ns b m → (hidT s₁.heap H).Ns b m := fun {b m} ⟨o, es, ep, e, d, r⟩ => ⟨o, es, ep, base_of e (noA e d), d, r⟩
    have hKb : K.In (hidT s₁.heap H) := fun b o e => base_of (KX b o e) (by
      cases q : H b with
      | none => rfl
      | some u =>
        have e' : b = a := hA b (by rw [q]; simp)
        subst e'
        rw [hK (by rw [q]; simp)] at e; cases e)
    have hM : Mod K mg (hidT s₁.heap H) := ⟨hKb, nsK hns, ⟨mb, nsK hb, hbb⟩, let ⟨mc, h1, h2⟩ := hlim; ⟨mc, nsK h1, h2⟩⟩
    have e0 : Env0 P w K mg (hidT s₁.heap H) callerA [] s₁ H := ⟨rfl, hM, fun b o e => of_hidT e, Nat.le_of_eq (hidT_size _ _), trivial, fun b hb => absurd (show b ∈ ([] : List Addr) from hb) (by simp), hok, .of_eq hg⟩
    refine codeAny_mono ((F _ hKb (nsK hns)).run callerA [] s₁ H ⟨[.ref a], []⟩ [.ref a] [.ref a] _ _ hr e0 (hbind s₁ (.ref a)) (.cons rfl .nil) (hsp H hO hS)) fun r s' h => ?_
    cases r with
    | error e => exact (hCX H e s' h).elim
    | ok fl =>
      cases fl with
      | next => exact False.elim h
      | brk => exact False.elim h
      | cont => exact False.elim h
      | ret u =>
        obtain ⟨v, H', os, bare, un, hok', r', q⟩ := h
        have q' : v = .bl true := q
        subst q'
        obtain rfl : u = Value.bool true := r'
        refine ⟨rfl, OldK.of_keep fun b o e => ?_, os, bare⟩
        cases q : H b with
        | none => exact un.keep b o e q (by intro z; exact absurd (show b ∈ ([] : List Addr) from z) (by simp)) (by simp)
        | some u =>
          rcases hO b with z | ⟨ob, xs, z⟩
          · rw [q] at z; cases z
          · have z2 := un.frzs b ob _ z
            obtain ⟨e1, _⟩ := hok b _ z
            obtain ⟨e2, _⟩ := hok' b _ z2
            rw [e] at e1; cases e1
            exact e2
  cases hk : K.lookup a with
  | some o =>
    -- the script is one of the module's own objects
    have e := KX a o hk
    rw [ha] at e
    cases e
    refine core (fun _ => none) (fun _ => .inl rfl) (.inr ⟨_, vs.toArray, _, hk, rfl, rfl, rfl, by rw [List.size_toArray, lenV]; exact hl, by simpa using rv⟩) (fun b u z => by have z' : (none : Option HO) = some u := z; cases z') (fun b z => absurd rfl z) fun z => absurd rfl z
  | none =>
    refine core (fun b => if b = a then some (.frz { cls := .type "list", data := .seq vs.toArray } (.lst (ns.map V.int))) else none) (fun b => ?_) (.inl (.inr ⟨{ cls := .type "list", data := .seq vs.toArray }, if_pos rfl⟩)) (fun b u z => ?_) (fun b z => ?_) fun _ => hk
    · by_cases hb : b = a
      · exact .inr ⟨_, _, if_pos hb⟩
      · exact .inl (if_neg hb)
    · by_cases hb : b = a
      · have z' := (if_pos hb).symm.trans z
        cases z'
        subst hb
        exact ⟨ha, by rw [List.length_map]; exact hl, vs, _, rv, ha⟩
      · have z' := (if_neg hb).symm.trans z
        cases z'
    · by_cases hb : b = a
      · exact hb
      · exact absurd (if_neg hb) z
end L2

namespace L2
open PySem PySem.Spec PyProof.Rows


/-- the goal that k_head leaves (case hc), from the law's promise. F gives the function object fd (K's own) once, then the promise over every base -/
theorem walk_of {l : PySem.W.OpenLaw} {n k : Nat} {q : Program} {loose : List Str} {XP : (Str → Option Value) → Heap → Prop} {YP : World → Heap → Prop} {d : DefRec} {K : Params → PySem.W.Frag} {CX : World → CXT} {sp : World → Sp} {x : Str}
    (hn : l.most = some n) (hn2 : n ≤ sizeLine) (hdf : d.params.defaults = []) (hr : Room k callerA)
    (hY : ∀ (w : World) (h : Heap), YP w h → (K w.params).In h)
    (F : ∀ (w : World) (mg : Str → Option Value) (fa : Addr) (h : Heap), (K w.params).In h → h.Ns mainGlobals mg → mg d.name = some (.ref fa) →
      ∃ fd : FuncData, (∀ (s : Shared) (u : Value), BindsTo s fd ⟨[u], []⟩ [(x, u)]) ∧
        ∀ base : Heap, (K w.params).In base → base.Ns mainGlobals mg → FnOk l.prog w (K w.params) mg base (CX w) k fa fd [x] (sp w))
    (hsp : ∀ (w : World) (H : Hp) (a : Addr) (ns : List Int), ns.length ≤ n → Only H → SqL (K w.params) H a (ns.map V.int) → sp w [.ref a] H (fun v _ => v = .bl true) fun _ _ _ => False)
    (hCX : ∀ (w : World) (H : Hp) (s : Shared) (e : Value) (s' : Shared), CX w [] H s (fun _ _ _ => False) e s' → False) :
    PySem.W.WalkO q loose XP YP l.row.toRowW d [] (fun f vs => PySem.call f vs) := by
  refine Att.attach_call hn hdf fun w s₀ s₁ mg mb fa o pm cd doc a vs ns G Y ho hd hcd hmg hobj hints hlen hg => ?_
  have KX := hY w _ Y
  obtain ⟨fd, hb, hF⟩ := F w mg fa _ KX G.T.g hmg
  exact law_call KX G.T.g G.T.b G.T.builtins G.T.nolimit hg hobj hints (Nat.le_trans hlen hn2) hr hF hb (fun H hO hS => hsp w H a ns hlen hO hS) fun H e s' => hCX w H s₁ e s'
end L2

/- THE LAST THEOREM (shape; LID, My.* are yours):
   My.Adr: a structure of the addresses that your layer names (classes, functions); My.Txt K t: a structure (Prop) of the equations over K;
   My.txt_mk : {K} {implicit addresses ..} (e1 : nsIn K mainGlobals "law" = some (some (.ref f))) (e2 : K.lookup f = some ⟨oc, od, .func (fnOf "law" "law" params body scope dV kV doc pm an cdv ct), sl⟩) (e3 : codeIn K cdv "law" = true) .. : ∃ t, My.Txt K t

set_option maxRecDepth 100000 in
set_option maxHeartbeats 0 in
theorem PySem.Challenge.cw_LID_holds : PySem.Challenge.rw_LID.Holds := by
  w_on; o_law; k_head; (case hw => w_witness2)
  k_fill
  refine L2.walk_of (l := PySem.Challenge.rw_LID) (n := 63) (k := 40) (x := "script") (CX := fun w => ..) (sp := fun _ => My.sp_law) rfl (by decide) rfl ⟨rfl, by decide, by decide⟩ (fun w h Y => PySem.W.kIn_of Y) ?F ?S ?C
  case F =>
    intro w mg fa h KX G hmg
    have T : ∃ t, My.Txt (L2.KOf KX) t := by
      dsimp only [L2.KOf]                          -- K must stand as «<heap const> w.params» for k_is
      refine' My.txt_mk ?e1 ?e2 ?e3 ..
      (case e1 => PySem.W.k_is)                    -- in the order: a name -> its address -> its object -> its parts
      (case e2 => PySem.W.k_is)
      ..
    obtain ⟨t, T⟩ := T
    have e0 := hmg.symm.trans (PySem.W.mg_of KX G T.law)
    cases e0                                       -- fa is the law's own address
    exact ⟨_, fun s u => .of_eq rfl, fun base kb nb => My.law_fn T kb nb⟩     -- if «.of_eq rfl» comes too early: refine' ⟨_, ?b, fun base kb nb => My.law_fn T kb nb⟩; exact fun s u => .of_eq rfl
  case S => exact fun w H a ns hl hO hS => ..
  case C => exact ..
(the tactic k_is has no namespace: write k_is) -/

/-! SHORT WORDS over the layer: a def of the text, its body, what a loop and a test want. -/
namespace L2
open PySem PySem.Spec PyProof.Rows

/-! ### the text by places -/
/-- the j-th statement of a class's body -/
def inClass (s : Stmt) (j : Nat) : Stmt := match s with
  | .ClassDef _ _ _ body _ _ _ _ _ _ _ => body.getD j (.Pass ⟨0, 0, 0, 0⟩)
  | _ => .Pass ⟨0, 0, 0, 0⟩
def defArgs (s : Stmt) : Arguments := match s with
  | .FunctionDef _ a _ _ _ _ _ _ _ _ => a
  | _ => { posonlyargs := [], args := [], vararg := none, kwonlyargs := [], kw_defaults := [], kwarg := none, defaults := [] }
def defBody (s : Stmt) : List Stmt := match s with
  | .FunctionDef _ _ b _ _ _ _ _ _ _ => b
  | _ => []
def defScope (s : Stmt) : Scope := match s with
  | .FunctionDef _ _ _ _ _ _ sc _ _ _ => sc
  | _ => { kind := .function, names := [], isGenerator := false, isCoroutine := false }

/-! ### no exception leaves a def -/
abbrev CX0 : CXT := fun _ _ _ _ _ _ => False
abbrev E0 : XK := fun _ _ _ => False
theorem pass0 {X : Cx} : Passes CX0 X E0 := fun _ _ _ _ _ _ _ h => h.elim

/-! ### a def (or method) of the text as it stands behind the top -/
structure Fun (K : PySem.W.Frag) (x qual : Str) (st : Stmt) (f : Addr) (fd : FuncData) : Prop where
  ex : ∃ (oc : Value) (od : Option Addr) (kV doc pm : Value) (an : Option Addr) (cdv ct : Value) (osl : Array (Option Value)),
    fd = PySem.W.fnOf x qual (defArgs st) (defBody st) (defScope st) .none kV doc pm an cdv ct ∧ K.lookup f = some ⟨oc, od, .func fd, osl⟩ ∧ PySem.W.codeIn K cdv qual = true
  kp : PySem.W.keepIn K (.ref f) = true
section
variable {P : Program} {w : World} {K : PySem.W.Frag} {mg : Str → Option Value} {base : Heap}
/-- THE RULE for a def: its body as a term of rules, and the reading of that term -/
theorem Fun.ok {x qual : Str} {st : Stmt} {f : Addr} {fd : FuncData} {N ps : List Str} {k : Nat} {sp : Sp} (F : Fun K x qual st f fd) (S : FnScope N ps (defScope st)) (len : ∀ vs H Q E, sp vs H Q E → vs.length = ps.length)
    (hbody : ∀ (cdv : Value) (A : Around) (outer : List Env) (s : Shared) (H : Hp) (vs : List V) (Q : VK) (E : XK), Room k (A.deeper (envOfC qual (defScope st) s.heap.objs.size f cdv)) → sp vs H Q E →
      ∃ t, PSs (cxOf CX0 P w K mg base N qual (defScope st) f cdv A outer s H E).nox (defBody st) t ∧ t { nx := fun _ H' => Q .non H', rt := Q } (start N vs) H) : FnOk P w K mg base CX0 (k + 1) f fd ps sp := by
  obtain ⟨oc, od, kV, doc, pm, an, cdv, ct, osl, rfl, lk, hcd⟩ := F.ex
  refine fn_of lk hcd S len fun A outer s H vs Q E hr hsp => ?_
  obtain ⟨t, h, q⟩ := hbody cdv A outer s H vs Q E hr hsp
  exact ⟨t, h.nox, q⟩
/-- how its arguments bind (no defaults): h is «fun _ _ _ _ _ _ us hl => match us, hl with | [_, _], _ => rfl», one _ a parameter -/
theorem Fun.binds {x qual : Str} {st : Stmt} {f : Addr} {fd : FuncData} {ps : List Str} (F : Fun K x qual st f fd)
    (h : ∀ (kV doc pm : Value) (an : Option Addr) (cdv ct : Value) (us : List Value), us.length = ps.length → bindArgs (PySem.W.fnOf x qual (defArgs st) (defBody st) (defScope st) .none kV doc pm an cdv ct) ⟨us, []⟩ = pure (ps.zip us)) : Binds K fd ps [] := by
  obtain ⟨oc, od, kV, doc, pm, an, cdv, ct, osl, rfl, lk, hcd⟩ := F.ex
  exact .all (h kV doc pm an cdv ct)
theorem fun_mk {x qual : Str} {st : Stmt} {f : Addr} {oc : Value} {od an : Option Addr} {osl : Array (Option Value)} {kV doc pm cdv ct : Value} (l : K.lookup f = some ⟨oc, od, .func (PySem.W.fnOf x qual (defArgs st) (defBody st) (defScope st) .none kV doc pm an cdv ct), osl⟩)
    (c : PySem.W.codeIn K cdv qual = true) (k : PySem.W.keepIn K (.ref f) = true) : Fun K x qual st f (PySem.W.fnOf x qual (defArgs st) (defBody st) (defScope st) .none kV doc pm an cdv ct) := ⟨⟨oc, od, kV, doc, pm, an, cdv, ct, osl, rfl, l, c⟩, k⟩
end

/-! ### expressions in short: the name that stands in the i-th slot -/
section
variable {X : Cx}
theorem pv (i : Nat) {x : Str} {pos : Pos} (hN : X.N[i]? = some x := by rfl) (hv : Vis X.env.scope x := by first | exact Or.inl rfl | exact Or.inr (Or.inl rfl) | exact Or.inr (Or.inr rfl)) (hd : (x == ("__debug__" : Str)) = false := by decide)
    (hcd : (x == ("__classdict__" : Str)) = false := by decide) : PE X (.Name x pos) (tVar i) := pe_var hN hv hd hcd
end

/-! ### tests -/
theorem iteF {A B : Prop} (h : B) : if false = true then A else B := by
  rw [if_neg Bool.false_ne_true]
  exact h
theorem iteT {A B : Prop} (h : A) : if true = true then A else B := by
  rw [if_pos rfl]
  exact h
theorem ite2 {c A B : Prop} [Decidable c] (h1 : c → A) (h2 : ¬ c → B) : if c then A else B := by
  by_cases h : c
  · rw [if_pos h]
    exact h1 h
  · rw [if_neg h]
    exact h2 h

/-! ### heaps -/
/-- all that was tracked is as it was -/
def Same (H H' : Hp) : Prop := ∀ b o, H b = some o → H' b = some o
theorem Same.refl (H : Hp) : Same H H := fun _ _ h => h
theorem Same.trans {H H1 H2 : Hp} (a : Same H H1) (b : Same H1 H2) : Same H H2 := fun c o h => b c o (a c o h)
theorem Same.free {H H' : Hp} (e : Same H H') {l : Addr} (h : H' l = Option.none) : H l = Option.none := by
  cases q : H l with
  | none => rfl
  | some o =>
    rw [e l o q] at h
    cases h

end L2
set_option maxHeartbeats 4000000
namespace LwM
theorem gcd_one_of_dvd {a b c : Int} (h : Int.gcd a b = 1) (d : c ∣ b) : Int.gcd a c = 1 := by
  have := Int.gcd_dvd_gcd_of_dvd_right a d
  rw [h] at this
  exact Nat.eq_one_of_dvd_one this
theorem gcd_one_of_dvd' {a b c : Int} (h : Int.gcd a b = 1) (d : c ∣ a) : Int.gcd c b = 1 := by
  rw [Int.gcd_comm] at h ⊢
  exact gcd_one_of_dvd h d
theorem add_low {t b o u : Int} (hb : 0 < b) (hu : 0 < u) (g1 : Int.gcd t b = 1) (g2 : Int.gcd o u = 1) :
    (t * (u / (Int.gcd b u : Int)) + o * (b / (Int.gcd b u : Int))) / (Int.gcd (t * (u / (Int.gcd b u : Int)) + o * (b / (Int.gcd b u : Int))) (Int.gcd b u) : Int) = (t * u + o * b) / (Int.gcd (t * u + o * b) (b * u) : Int) ∧
    (b / (Int.gcd b u : Int)) * (u / (Int.gcd (t * (u / (Int.gcd b u : Int)) + o * (b / (Int.gcd b u : Int))) (Int.gcd b u) : Int)) = (b * u) / (Int.gcd (t * u + o * b) (b * u) : Int) := by
  have sp : 0 < Int.gcd b u := Int.gcd_pos_of_ne_zero_left _ (by omega)
  have c1 : Int.gcd (b / (Int.gcd b u : Int)) (u / (Int.gcd b u : Int)) = 1 := Int.gcd_ediv_gcd_ediv_gcd sp
  have d1 : (Int.gcd b u : Int) ∣ b := Int.gcd_dvd_left ..
  have d2 : (Int.gcd b u : Int) ∣ u := Int.gcd_dvd_right ..
  have e1 : (Int.gcd b u : Int) * (b / (Int.gcd b u : Int)) = b := Int.mul_ediv_cancel' d1
  have e2 : (Int.gcd b u : Int) * (u / (Int.gcd b u : Int)) = u := Int.mul_ediv_cancel' d2
  have sp' : (0 : Int) < (Int.gcd b u : Int) := by omega
  generalize hs : (Int.gcd b u : Int) = s at *
  generalize hb' : b / s = b' at *
  generalize hu' : u / s = u' at *
  generalize hT : t * u' + o * b' = T at *
  have v1 : b' ∣ b := ⟨s, by rw [Int.mul_comm]; exact e1.symm⟩
  have v2 : u' ∣ u := ⟨s, by rw [Int.mul_comm]; exact e2.symm⟩
  have x1 : t * u + o * b = s * T := by
    rw [← hT, Int.mul_add, ← Int.mul_assoc, ← Int.mul_assoc, Int.mul_comm s t, Int.mul_comm s o, Int.mul_assoc, Int.mul_assoc, e1, e2]
  have x2 : b * u = s * (b' * u) := by rw [← Int.mul_assoc, e1]
  have x3 : b' * u = s * b' * u' := by rw [Int.mul_comm s b', Int.mul_assoc, e2]
  have y1 : Int.gcd T b' = 1 := by
    rw [← hT, Int.gcd_add_mul_right_left, Int.gcd_mul_right_left_of_gcd_eq_one (gcd_one_of_dvd g1 v1), Int.gcd_comm]
    exact c1
  have y2 : Int.gcd T u' = 1 := by
    rw [← hT, Int.add_comm, Int.gcd_add_mul_right_left, Int.gcd_mul_right_left_of_gcd_eq_one (gcd_one_of_dvd g2 v2)]
    exact c1
  have z : Int.gcd T (b' * u) = Int.gcd T s := by
    rw [x3, Int.gcd_mul_left_right_of_gcd_eq_one y2, Int.gcd_mul_left_right_of_gcd_eq_one y1]
  have g : (Int.gcd (t * u + o * b) (b * u) : Int) = s * (Int.gcd T s : Int) := by
    rw [x1, x2, Int.gcd_mul_left, z, Int.natCast_mul, Int.natAbs_of_nonneg (by omega)]
  rw [g]
  refine ⟨?_, ?_⟩
  · rw [x1, Int.mul_ediv_mul_of_pos _ _ sp']
  · rw [x2, Int.mul_ediv_mul_of_pos _ _ sp']
    exact (Int.mul_ediv_assoc _ (Int.dvd_trans (Int.gcd_dvd_right ..) d2)).symm
theorem mul_low {t b o u : Int} (hb : 0 < b) (hu : 0 < u) (g1 : Int.gcd t b = 1) (g2 : Int.gcd o u = 1) :
    (t / (Int.gcd t u : Int)) * (o / (Int.gcd o b : Int)) = (t * o) / (Int.gcd (t * o) (b * u) : Int) ∧
    (b / (Int.gcd o b : Int)) * (u / (Int.gcd t u : Int)) = (b * u) / (Int.gcd (t * o) (b * u) : Int) := by
  have fp : 0 < Int.gcd t u := Int.gcd_pos_of_ne_zero_right _ (by omega)
  have sp : 0 < Int.gcd o b := Int.gcd_pos_of_ne_zero_right _ (by omega)
  have c1 := Int.gcd_ediv_gcd_ediv_gcd fp
  have c2 := Int.gcd_ediv_gcd_ediv_gcd sp
  have e1 : (Int.gcd t u : Int) * (t / (Int.gcd t u : Int)) = t := Int.mul_ediv_cancel' (Int.gcd_dvd_left ..)
  have e2 : (Int.gcd t u : Int) * (u / (Int.gcd t u : Int)) = u := Int.mul_ediv_cancel' (Int.gcd_dvd_right ..)
  have e3 : (Int.gcd o b : Int) * (o / (Int.gcd o b : Int)) = o := Int.mul_ediv_cancel' (Int.gcd_dvd_left ..)
  have e4 : (Int.gcd o b : Int) * (b / (Int.gcd o b : Int)) = b := Int.mul_ediv_cancel' (Int.gcd_dvd_right ..)
  have fp' : (0 : Int) < (Int.gcd t u : Int) := by omega
  have sp' : (0 : Int) < (Int.gcd o b : Int) := by omega
  generalize (Int.gcd t u : Int) = f at *
  generalize (Int.gcd o b : Int) = s at *
  generalize t / f = t' at *
  generalize u / f = u' at *
  generalize o / s = o' at *
  generalize b / s = b' at *
  have v1 : t' ∣ t := ⟨f, by rw [Int.mul_comm]; exact e1.symm⟩
  have v2 : u' ∣ u := ⟨f, by rw [Int.mul_comm]; exact e2.symm⟩
  have v3 : o' ∣ o := ⟨s, by rw [Int.mul_comm]; exact e3.symm⟩
  have v4 : b' ∣ b := ⟨s, by rw [Int.mul_comm]; exact e4.symm⟩
  have x1 : t * o = (f * s) * (t' * o') := by
    rw [← e1, ← e3]; simp only [Int.mul_assoc, Int.mul_left_comm, Int.mul_comm]
  have x2 : b * u = (f * s) * (b' * u') := by
    rw [← e2, ← e4]; simp only [Int.mul_assoc, Int.mul_left_comm, Int.mul_comm]
  have n1 : Int.gcd (t' * o') b' = 1 := by
    rw [Int.gcd_mul_right_left_of_gcd_eq_one (gcd_one_of_dvd' (gcd_one_of_dvd g1 v4) v1)]
    exact c2
  have n2 : Int.gcd (t' * o') u' = 1 := by
    rw [Int.gcd_mul_right_left_of_gcd_eq_one c1]
    exact gcd_one_of_dvd' (gcd_one_of_dvd g2 v2) v3
  have n3 : Int.gcd (t' * o') (b' * u') = 1 := by
    rw [Int.gcd_mul_right_right_of_gcd_eq_one n1]
    exact n2
  have fs : (0 : Int) < f * s := Int.mul_pos fp' sp'
  have g : (Int.gcd (t * o) (b * u) : Int) = f * s := by
    rw [x1, x2, Int.gcd_mul_left, n3, Nat.mul_one, Int.natAbs_of_nonneg (by omega)]
  rw [g, x1, x2, Int.mul_ediv_cancel_left _ (by omega), Int.mul_ediv_cancel_left _ (by omega)]
  exact ⟨rfl, rfl⟩
end LwM

namespace LwM
theorem gcd_step (a b : Int) : Int.gcd b (a % b) = Int.gcd a b := by
  rw [Int.emod_def, Int.mul_comm b, Int.gcd_sub_mul_right_right, Int.gcd_comm]
theorem gcd_pos (a b : Int) (h : 0 < b) : (1 : Int) ≤ (Int.gcd a b : Int) := by
  have : 0 < Int.gcd a b := Int.gcd_pos_of_ne_zero_right _ (by omega)
  omega
theorem gcd_le (a b : Int) (h : 0 < b) : (Int.gcd a b : Int) ≤ b := Int.le_of_dvd h (Int.gcd_dvd_right a b)
theorem ediv_abs (t g : Int) (h : 1 ≤ g) : (t / g).natAbs ≤ t.natAbs := by
  rcases Int.lt_or_le t 0 with n | n
  · have h1 : t / g < 0 := Int.ediv_neg_of_neg_of_pos n (by omega)
    have h2 : t ≤ t / g := by
      rw [Int.le_ediv_iff_mul_le (by omega)]
      have := Int.mul_le_mul_of_nonpos_left (a := t) (b := g) (c := 1) (by omega) h
      omega
    omega
  · have h1 : 0 ≤ t / g := Int.ediv_nonneg n (by omega)
    have h2 : t / g ≤ t := Int.ediv_le_self g n
    omega
theorem log2_lt {n : Nat} {k : Nat} (hk : 0 < k) (h : n < 2 ^ k) : n.log2 < k := by
  by_cases e : n = 0
  · subst e
    simpa using hk
  · exact (Nat.log2_lt e).mpr h
end LwM

namespace Lw
open PySem PySem.Spec PyProof.Rows L2

/-! ### isinstance by kinds -/
inductive Kd where
  | non | bl | int | str | lst | tup
  deriving DecidableEq
inductive KdOf (H : Hp) : V → Kd → Prop where
  | non : KdOf H .non .non
  | bl (b : Bool) : KdOf H (.bl b) .bl
  | int (i : Int) : KdOf H (.int i) .int
  | str (x : Str) : KdOf H (.str x) .str
  | lst {a : Addr} {xs : List V} (e : H a = some (.lst xs)) : KdOf H (.ref a) .lst
  | tup {a : Addr} {xs : List V} (e : H a = some (.tup xs)) : KdOf H (.ref a) .tup
section
variable {X : Cx}

/-! ### == of two tuples of ints -/
theorem ints_get : ∀ {vs : List Value} {ns : List Int} {j : Nat} (_ : IntsAre vs ns) (h : j < vs.length), ∃ n t, ns[j]? = some n ∧ vs[j] = .int n t
  | _, _, _, .nil, h => absurd h (Nat.not_lt_zero _)
  | _, _, 0, .cons n t _, _ => ⟨n, t, rfl, rfl⟩
  | _, _, j + 1, .cons _ _ r, h => by
    obtain ⟨n, t, e1, e2⟩ := ints_get (j := j) r (by simpa using h)
    exact ⟨n, t, by simpa using e1, by simpa using e2⟩
theorem ints_len : ∀ {vs : List Value} {ns : List Int}, IntsAre vs ns → vs.length = ns.length
  | _, _, .nil => rfl
  | _, _, .cons _ _ r => by simp [ints_len r]

/-! ### //, ** with greater numbers -/
def CDivL (_ j : Int) : Prop := 0 < j ∧ j.natAbs < 2 ^ 8000
theorem op_fdivL : OpR X (binaryOp .FloorDiv) (rI CDivL fun i j => .int (i / j)) := opI fun i j _ _ _ _ _ hc q => by
  refine floordiv_int (by have := hc.1; omega) ?_ (.inl (PyProof.noPylong_of_log2 (Nat.lt_of_lt_of_le (LwM.log2_lt (by decide) hc.2) (by decide))))
  rw [Int.fdiv_eq_ediv_of_nonneg _ (Int.le_of_lt hc.1)]
  exact q
def CMulL (i j : Int) : Prop := i.natAbs < 2 ^ 100000 ∧ j.natAbs < 2 ^ 100000
theorem op_mulL : OpR X (binaryOp .Mult) (rI CMulL fun i j => .int (i * j)) := opI fun _ _ _ _ _ _ _ hc q => mul_int q (IntMulOk.of_bits (Nat.le_trans (PySem.intBits_le_iff.mpr hc.1) (by decide)) (Nat.le_trans (PySem.intBits_le_iff.mpr hc.2) (by decide)))
end

/-! ### tests, heaps -/
theorem iteP {c : Bool} {A B : Prop} (h : c = true) (a : A) : if c = true then A else B := by
  rw [if_pos h]
  exact a
theorem iteN {c : Bool} {A B : Prop} (h : c = false) (b : B) : if c = true then A else B := by
  subst h
  exact iteF b
/-- all that was tracked is as it was, but for one address -/
def But (p : Addr) (H H' : Hp) : Prop := ∀ c o, H c = some o → c ≠ p → H' c = some o
theorem But.refl (p : Addr) (H : Hp) : But p H H := fun _ _ h _ => h
theorem But.trans {p : Addr} {H H1 H2 : Hp} (a : But p H H1) (b : But p H1 H2) : But p H H2 := fun c o h n => b c o (a c o h n) n
theorem But.upd (p : Addr) (H : Hp) (o : HO) : But p H (upd H p o) := fun c _ h n => by
  rw [upd_ne n]
  exact h
theorem But.of {p : Addr} {H H' : Hp} (s : Same H H') : But p H H' := fun c o h _ => s c o h
theorem same_upd {H : Hp} {p : Addr} (o : HO) (n : H p = none) : Same H (upd H p o) := fun b q e => by
  rw [upd_ne (ne_of_none e n)]
  exact e
/-- a new object: only what stands and where it stands is kept in mind -/
theorem fresh {H : Hp} {o : HO} {Q : VK} (h : ∀ p H', H p = none → Same H H' → H' p = some o → Q (.ref p) H') : ∀ p, H p = none → Q (.ref p) (upd H p o) :=
  fun p n => h p _ n (same_upd o n) upd_same
/-! ### new objects, by what stands where -/
/-- a new object o at a free address; all else as it was -/
def New (H : Hp) (o : HO) (Q : VK) : Prop := ∀ p H', H p = none → Same H H' → H' p = some o → Q (.ref p) H'
theorem New.at {H : Hp} {o : HO} {Q : VK} (h : New H o Q) {p : Addr} (n : H p = none) : Q (.ref p) (upd H p o) := h p _ n (same_upd o n) upd_same
section
variable {X : Cx} {es : List Expr} {t : TA} {pos : Pos}
def tTupF (t : TA) : TE := fun σ H Q => t σ H fun xs H1 => xs.length ≤ sizeLine ∧ New H1 (.tup xs) Q
def tLstF (t : TA) : TE := fun σ H Q => t σ H fun xs H1 => xs.length ≤ sizeLine ∧ New H1 (.lst xs) Q
theorem pe_tupF {x1} (h : PA X es t) : PE X (.Tuple es x1 pos) (tTupF t) := by
  intro pins s σ H Q I hq
  refine wpAny_Tuple_spliced (thn (h pos pins s σ H _ I hq) fun us s1 ⟨xs, H1, I1, r, z, q⟩ => ⟨by rw [← r.length]; exact z, ?_⟩)
  have hf : H1 s1.heap.objs.size = none := I1.hok.fresh (Nat.le_refl _)
  refine ⟨.ref s1.heap.objs.size, upd H1 s1.heap.objs.size (.tup xs), I1.laid (t' := s1.toks) (fun b u e => Heap.get?_push_of_some _ e) (Nat.le_refl _) ?_, rfl, q.at hf⟩
  exact ⟨z, us, r, ⟨_, Heap.get?_push_size _ rfl, rfl, _, rfl⟩⟩
theorem pe_lstF (h : PA X es t) : PE X (.List es pos) (tLstF t) := by
  intro pins s σ H Q I hq
  refine wpAny_List_spliced (thn (h pos pins s σ H _ I hq) fun us s1 ⟨xs, H1, I1, r, z, q⟩ => ⟨by rw [← r.length]; exact z, ?_⟩)
  have hf : H1 s1.heap.objs.size = none := I1.hok.fresh (Nat.le_refl _)
  refine ⟨.ref s1.heap.objs.size, upd H1 s1.heap.objs.size (.lst xs), I1.laid (t' := s1.toks) (fun b u e => Heap.get?_push_of_some _ e) (Nat.le_refl _) ?_, rfl, q.at hf⟩
  exact ⟨z, us, 0, r, Heap.get?_push_size _ rfl⟩
theorem opr_of {f : Value → Value → Sem Value} {r r' : R2} (h : OpR X f r) (i : ∀ x y H Q, r' x y H Q → r x y H Q) : OpR X f r' :=
  fun pins s σ H x y v u Q I rx ry q => h pins s σ H x y v u Q I rx ry (i x y H Q q)
theorem callr_of {f : Value} {r r' : List V → Hp → VK → Prop} (h : CallR X f r) (i : ∀ xs H Q, r' xs H Q → r xs H Q) : CallR X f r' :=
  fun pins s σ H xs us Q I rv q => h pins s σ H xs us Q I rv (i xs H Q q)
theorem slr_of {r r' : V → Option Int → Option Int → Hp → VK → Prop} (h : SlR X r) (i : ∀ x a b H Q, r' x a b H Q → r x a b H Q) : SlR X r' :=
  fun pins s σ H x v vl vu lo hi sl Q I rx hs pl pu q => h pins s σ H x v vl vu lo hi sl Q I rx hs pl pu (i x lo hi H Q q)
def rListF (K : PySem.W.Frag) : List V → Hp → VK → Prop := fun xs H Q => ∃ p ys, xs = [.ref p] ∧ (SqL K H p ys ∨ SqT K H p ys) ∧ New H (.lst ys) Q
theorem call_listF : CallR X (.type "list") (rListF X.K) := callr_of call_list_of fun xs H Q ⟨p, ys, e, h, q⟩ => ⟨p, ys, e, h, fun l n => q.at n⟩
def rCatF : R2 := fun x y H Q => ∃ l b xs zs, x = .ref l ∧ y = .ref b ∧ H l = some (.lst xs) ∧ H b = some (.lst zs) ∧ xs.length + zs.length ≤ sizeLine ∧ New H (.lst (xs ++ zs)) Q
theorem op_catF : OpR X (binaryOp .Add) rCatF := opr_of op_cat fun x y H Q ⟨l, b, xs, zs, e1, e2, h1, h2, h3, q⟩ => ⟨l, b, xs, zs, e1, e2, h1, h2, h3, fun p n => q.at n⟩
def rSlLF (K : PySem.W.Frag) : V → Option Int → Option Int → Hp → VK → Prop := fun x lo hi H Q => ∃ a xs, x = .ref a ∧ SqL K H a xs ∧ New H (.lst (cutV xs lo hi)) Q
theorem sl_listF : SlR X (rSlLF X.K) := slr_of sl_list fun x a b H Q ⟨p, xs, e, h1, q⟩ => ⟨p, xs, e, h1, fun p n => q.at n⟩
end
end Lw

namespace Lw
open PySem PySem.Spec PyProof.Rows L2
/-! ### a list comprehension of one clause without a test, no name of the def's own within -/
section
variable {prog : Program} {w : World} {A : Around} {R : Result → Shared → Prop} {s : Shared}
theorem compLoop_any {elt target iter : Expr} {scope : Scope} {pos : Pos} {it acc : Value} {env : Env} (I : Nat → Shared → Prop)
    (turn : ∀ n s, I n s → wpAny (model prog w) A (pyNext it) (fun r s₁ => match r with
      | none => R (.ok .next) s₁
      | some v => wpAny (model prog w) A (letOwnedTupleGo target it v) (fun _ s₁' => wpAny (model prog w) A (assign target env v) (fun _ s₂ => wpAny (model prog w) A (eval elt env) (fun x s₃ =>
          wpAny (model prog w) A (call (.builtin "list.append") [acc, x]) (fun _ s₄ => ∃ m, m < n ∧ I m s₄) (notedBy (model prog w) A env fun e s' => R (.error e) s') s₃)
          (notedBy (model prog w) A env fun e s' => R (.error e) s') s₂) (notedBy (model prog w) A env fun e s' => R (.error e) s') s₁') (notedBy (model prog w) A env fun e s' => R (.error e) s') s₁) (notedBy (model prog w) A env fun e s' => R (.error e) s') s)
    (n : Nat) (h : I n s) :
    codeAny (model prog w) A (.compLoop (.ListComp elt [⟨target, iter, [], 0⟩] scope pos) 0 it acc env) R s := by
  refine codeAny_loop rfl I (fun n s hI => ?_) n h
  show wpAny _ _ ((compTurn (.ListComp elt [⟨target, iter, [], 0⟩] scope pos) 0 it acc env).onRaise (fun x => do noteFrame x env; theTreesLotGoes x)) _ _ s
  refine wpAny_noted ?_
  rw [compTurn_list1]
  refine wpAny_bind (wpAny_standAt (wpAny_bind (wpAny_mono (turn n s hI) (fun r s₁ h₁ => ?_) fun _ _ h' => h')))
  cases r with
  | none => exact wpAny_pure h₁
  | some v =>
    refine wpAny_bind (wpAny_mono h₁ (fun _ s₁' h₁' => ?_) fun _ _ h' => h')
    exact wpAny_bind (wpAny_mono h₁' (fun _ s₂ h₂ => wpAny_bind (wpAny_bind (wpAny_mono h₂ (fun x s₃ h₃ => wpAny_bind (wpAny_mono h₃
      (fun _ s₄ h₄ => wpAny_pure (wpAny_pure ⟨rfl, h₄⟩)) fun _ _ h' => h')) fun _ _ h' => h'))) fun _ _ h' => h')
end
/-- the context of a comprehension's block -/
def cxComp (X : Cx) (N : List Str) (scope : Scope) (C : Addr) (fp : List Addr) (s2 : Shared) (H2 : Hp) : Cx :=
  { X with N := N, s₀ := s2, H₀ := H2, env := compEnv scope C X.env, outer := X.stack, stack := X.stack, ex := fp, fn := fun _ => true, pn := [], xe := fun _ _ => False }
/-- the turns of a comprehension: the new list p and a word W (turn, measure, the list so far, heap) -/
def CompGo (n : Nat) (J : It) (g : TG) (te : TE) (Q : VK) (p : Addr) (H' : Hp) : Prop :=
  ∃ W : Nat → Nat → List V → Hp → Prop, (∃ m, W 0 m [] H') ∧ ∀ i m ys H2, W i m ys H2 → H2 p = some (.lst ys) ∧ ys.length < sizeLine ∧
    ((J.stop i H2 ∧ Q (.ref p) H2) ∨ (J.go i H2 ∧ ∀ x H3, J.yld i H2 x H3 → g x (List.replicate n none) H3 fun σ4 H4 => te σ4 H4 fun y H5 => H5 p = some (.lst ys) ∧ ∃ m', m' < m ∧ W (i + 1) m' (ys ++ [y]) (upd H5 p (.lst (ys ++ [y])))))
/-- reading: what is walked; then the turns -/
def tComp (n : Nat) (wi : TI) (g : TG) (te : TE) : TE := fun σ H Q => wi σ H fun J H1 => ∀ p H', H1 p = none → Same H1 H' → H' p = some (.lst []) → CompGo n J g te Q p H'
section
variable {X : Cx}
theorem cxComp_ok {pins : List (Addr × Obj)} {σ : L2.St} {H1 : Hp} {s2 : Shared} {N : List Str} {scope : Scope} {C : Addr} {fp : List Addr} (I : Inv X pins σ H1 s2) (hk : scope.kind = .function)
    (hn : ∀ x, scope.names.lookup x ≠ some .cell ∧ scope.names.lookup x ≠ some .free) (hC : s2.heap.objs.size ≤ C) (hf : ∀ b ∈ fp, FpOk X pins H1 b) (hlt : ∀ b ∈ fp, b < s2.heap.objs.size) : (cxComp X N scope C fp s2 H1).Ok where
  mod := I.ok.mod
  kind := hk
  glob := I.ok.glob
  blt := I.ok.blt
  above := hC
  inj := fun x y c h => nomatch h
  has := fun x h => h.elim (fun z => absurd z (hn x).1) (fun z => absurd z (hn x).2)
  cab := fun x c _ h => nomatch h
  hd := I.ok.hd
  frames := I.ok.frames
  stk := .inl rfl
  exf := fun b hb => ⟨Nat.ne_of_lt (Nat.lt_of_lt_of_le (hlt b hb) hC), fun x c h => nomatch h⟩
  bs := I.bs
  bsz := Nat.le_trans I.ok.bsz I.sz
  noex := fun b o e hb => by
    rcases (hf b hb).2.2.2.1 with z | z
    · exact I.ok.noex b o e z
    · exact absurd (Nat.lt_of_lt_of_le (Heap.lt_size e) (Nat.le_trans I.ok.bsz z)) (Nat.lt_irrefl _)
  exfs := fun b hb z => (List.mem_cons.mp (I.stkSub b z)).elim (hf b hb).2.1 (hf b hb).2.2.1
  funs := I.stack
  frf := I.stkFree
theorem pe_comp {N : List Str} {elt target iter : Expr} {scope : Scope} {pos : Pos} {wi : TI} {g : TG} {te : TE} (hc : X.calm = true)
    (hk : scope.kind = .function) (hn : ∀ x, scope.names.lookup x ≠ some .cell ∧ scope.names.lookup x ≠ some .free) (hfree : ∀ x ∈ scope.names, x.2 ≠ .free) (hcell : ∀ x ∈ scope.names, x.2 ≠ .cell) (hnames : ∀ x ∈ scope.names, x.2 = .local → scope.names.lookup x.1 = some .local)
    (hi : PI X target iter wi) (hg : ∀ C fp s2 H2, PG (cxComp X N scope C fp s2 H2) target g) (he : ∀ C fp s2 H2, PE (cxComp X N scope C fp s2 H2) elt te)
    (hs : ∀ x, foldedSetIterable iter X.env x = pure x := by intro _; rfl) : PE X (.ListComp elt [⟨target, iter, [], 0⟩] scope pos) (tComp N.length wi g te) := by
  intro pins s σ H Q I h
  refine wpAny_ListComp hfree hk hnames (thn (hi pins s σ H _ I h) fun v s1 h1 => thn h1 fun itv s2 h2 => ?_) hs
  obtain ⟨it, fp, tn, J, H1, e, I2, T, st2, f2, hR⟩ := h2
  subst e
  have hlt : ∀ b ∈ fp, b < s2.heap.objs.size := fun b hb => by
    obtain ⟨o, ho, _⟩ := T.obj 0 _ st2 b hb
    exact Heap.lt_size ho
  refine wpAny_newObj_type (wpAny_newFunctionEnv hcell (by intro y hy; simp at hy) (fun h₁ hns₁ hsb₁ => ?_) hk)
  dsimp only at hns₁ hsb₁ ⊢
  generalize hHH : s2.heap.push { cls := .type "list", dict := none, data := .seq ([] : List Value).toArray } = HH at hns₁ hsb₁ ⊢
  have hCe : HH.objs.size = s2.heap.objs.size + 1 := by rw [← hHH, Heap.size_push]
  have hDC : s2.heap.objs.size ≠ HH.objs.size := by rw [hCe]; exact Nat.ne_of_lt (Nat.lt_succ_self _)
  have hCle : s2.heap.objs.size ≤ HH.objs.size := by rw [hCe]; exact Nat.le_succ _
  have old : ∀ b o, s2.heap.get? b = some o → h₁.get? b = some o := fun b o e => hsb₁.extBut b o (by rw [hCe]; exact Nat.ne_of_lt (Nat.lt_succ_of_lt (Heap.lt_size e))) (Heap.get?_push_of_some _ (hHH ▸ Heap.get?_push_of_some _ e))
  have hD : h₁.get? s2.heap.objs.size = some { cls := .type "list", dict := none, data := .seq ([] : List Value).toArray } := hsb₁.extBut _ _ hDC (Heap.get?_push_of_some _ (hHH ▸ Heap.get?_push_size _ rfl))
  have nD : H1 s2.heap.objs.size = none := I2.hok.fresh (Nat.le_refl _)
  obtain ⟨W, ⟨m0, w0⟩, turn⟩ := hR s2.heap.objs.size _ nD (same_upd (.lst []) nD) upd_same
  have ok := cxComp_ok (N := N) (C := HH.objs.size) I2 hk hn hCle f2 hlt
  have I4 : Inv (cxComp X N scope HH.objs.size fp s2 H1) [] (List.replicate N.length none) (upd H1 s2.heap.objs.size (.lst [])) { s2 with heap := h₁, toks := s2.toks + ([] : List (Str × Value)).length } := by
    refine ⟨ok, rfl, I2.bare, Un.laid old (Nat.le_refl _) nD, ⟨_, hns₁, fun i x v _ e2 _ => ?_⟩, (fun x c z => nomatch z), ?_, (fun x c z => nomatch z), (fun p hp => nomatch hp), I2.hok.laid old (Nat.le_refl _) ?_, by rw [List.length_replicate]; rfl⟩
    · rw [List.getElem?_replicate] at e2
      split at e2 <;> cases e2
    · show (upd H1 s2.heap.objs.size (.lst [])) HH.objs.size = none
      rw [upd_ne (Ne.symm hDC)]
      exact I2.hok.fresh hCle
    · exact ⟨by show 0 ≤ sizeLine; decide, [], 0, .nil, hD⟩
  have stat : ∀ {H' : Hp}, (∀ b ∈ fp, H' b = none) → ∀ b ∈ fp, FpOk (cxComp X N scope HH.objs.size fp s2 H1) [] H' b := fun hn b hb =>
    ⟨hn b hb, (ok.exf b hb).1, ok.exfs b hb, .inl hb, (ok.exf b hb).2, fun p hp => nomatch hp⟩
  have st4 : tn 0 h₁ := T.keep _ _ _ st2 fun b _ o e => old b o e
  have fr4 : ∀ b ∈ fp, (upd H1 s2.heap.objs.size (.lst [])) b = none := fun b hb => by
    rw [upd_ne (Nat.ne_of_lt (hlt b hb))]
    exact (f2 b hb).1
  -- the loop
  have loop : codeAny (model X.prog X.w) X.A (.compLoop (.ListComp elt [⟨target, iter, [], 0⟩] scope pos) 0 (.ref it) (.ref s2.heap.objs.size) (compEnv scope HH.objs.size X.env))
      (fun r s' => ∃ m, s'.heap.Ns HH.objs.size m ∧ ∀ h', Heap.SameBut HH.objs.size s'.heap h' →
            match r with | .ok _ => EP X pins σ Q (.ref s2.heap.objs.size) { s' with heap := h' } | .error x => wpAny (model X.prog X.w) X.A (passOn "comprehension.variables-let-go" x (compEnv scope HH.objs.size X.env)) (EP X pins σ Q) X.xe { s' with heap := h' })
      { s2 with heap := h₁, toks := s2.toks + ([] : List (Str × Value)).length } := by
    refine compLoop_any (fun n s' => ∃ i ys H', Inv (cxComp X N scope HH.objs.size fp s2 H1) [] (List.replicate N.length none) H' s' ∧ tn i s'.heap ∧ (∀ b ∈ fp, H' b = none) ∧ W i n ys H') ?_ m0 ⟨0, [], _, I4, st4, fr4, w0⟩
    rintro n s3 ⟨i, ys, H3, I3, st3, fr3, w3⟩
    obtain ⟨hp3, hz3, hw⟩ := turn i n ys H3 w3
    rcases hw with ⟨stop, qn⟩ | ⟨go, step⟩
    · refine thn (T.done (cxComp X N scope HH.objs.size fp s2 H1) rfl rfl rfl hc i [] s3 _ H3 _ I3 (stat fr3) st3 stop) fun r s4 ⟨hr, I5⟩ => ?_
      subst hr
      obtain ⟨m, hm, _⟩ := id I5.loc
      refine ⟨m, hm, fun h' sb => ⟨.ref s2.heap.objs.size, H3, ?_, rfl, qn⟩⟩
      have k : ∀ b o, b ≠ HH.objs.size → s4.heap.get? b = some o → h'.get? b = some o := fun b o hb e => sb.extBut b o hb e
      have nb : ∀ b o, s2.heap.get? b = some o → b ≠ HH.objs.size := fun b o e => by rw [hCe]; exact Nat.ne_of_lt (Nat.lt_succ_of_lt (Heap.lt_size e))
      have U := I5.base
      have fC : H3 HH.objs.size = none := I5.free
      refine I2.call' (ch := fp) (s' := { s4 with heap := h' }) I5.os ⟨fun b o e n hb hx => k b o (nb b o e) (U.keep b o e n hb hx), fun b o e n hb hx => ?_, U.free, fun b o e hx => ?_, U.tups, U.frzs, U.tbls⟩ (fun b u e => ?_) I5.bare (fun b hb => ⟨(f2 b hb).2.2.2.1, (f2 b hb).2.1, (f2 b hb).2.2.2.2.1, (f2 b hb).2.2.2.2.2⟩)
      · obtain ⟨sl, q⟩ := U.slot b o e n hb hx
        exact ⟨sl, k b _ (nb b o e) q⟩
      · obtain ⟨o', q⟩ := U.there b o e hx
        exact ⟨o', k b _ (nb b o e) q⟩
      · refine (I5.hok b u e).stay (fun c v hcc q => k c v ?_ q) (fun _ q => q) fun _ _ q => q
        rcases hcc with z | z
        · rw [z]
          intro y
          rw [y, fC] at e
          cases e
        · intro y
          rw [y, fC] at z
          cases z
    · refine wpAny_mono (T.item (cxComp X N scope HH.objs.size fp s2 H1) rfl rfl rfl hc i [] s3 _ H3 (fun _ _ => False) I3 (stat fr3) st3 go) (fun r s4 ⟨u, hr, h4⟩ => ?_) fun _ _ z => z.elim
      subst hr
      refine wpAny_mono h4 (fun _ s5 ⟨x, H5, I5, r5, y5, st5, fr5⟩ => ?_) fun _ _ z => z.elim
      have I5' := I5.pinned (stat fr5) (T.obj _ _ st5)
      refine wpAny_mono (hg _ _ _ _ _ s5 _ H5 x u _ I5' r5 (step x H5 y5)) (fun _ s6 ⟨σ6, H6, I6, q6⟩ => ?_) fun _ _ z => z.elim
      refine wpAny_mono (he _ _ _ _ _ s6 σ6 H6 _ I6 q6) (fun y s7 ⟨yv, H7, I7, r7, q7⟩ => ?_) fun _ _ z => z.elim
      obtain ⟨e7, m', hm', w7⟩ := q7
      refine wpAny_mono (mt_append (X := cxComp X N scope HH.objs.size fp s2 H1) _ s7 σ6 H7 (.ref s2.heap.objs.size) [yv] (.ref s2.heap.objs.size) [y] (fun _ H8 => H8 = upd H7 s2.heap.objs.size (.lst (ys ++ [yv]))) I7 rfl (.cons r7 .nil) ⟨_, ys, yv, rfl, rfl, e7, hz3, rfl⟩) (fun _ s8 ⟨_, H8, I8, _, q8⟩ => ?_) fun _ _ z => z.elim
      subst q8
      refine ⟨m', hm', i + 1, _, _, (I8.unpinned).weak (by rw [List.length_replicate, I8.len]; rfl) (fun j v ev => ?_), T.keep _ _ _ st5 fun b hb o e => (I8.pin (b, o) (List.mem_append_right _ (List.mem_append_right _ (mem_pinsAt hb e)))).1, fun b hb => ?_, w7⟩
      · rw [List.getElem?_replicate] at ev
        split at ev <;> cases ev
      · obtain ⟨o, e, d⟩ := T.obj _ _ st5 b hb
        exact (I8.pin (b, o) (List.mem_append_right _ (List.mem_append_right _ (mem_pinsAt hb e)))).2.1
  exact codeAny_compStart_list loop (T.self _ 0 _ _ _ st4 loop)
end
end Lw
namespace Lw
open PySem PySem.Spec PyProof.Rows L2
/-! ### ==, != of data -/
mutual
inductive DecV (H : Hp) : V → PyData → Prop where
  | non : DecV H .non .none
  | bl (b : Bool) : DecV H (.bl b) (.bool b)
  | int (i : Int) : DecV H (.int i) (.int i)
  | str (x : Str) : DecV H (.str x) (.str x)
  | lst {a : Addr} {xs : List V} {ds : List PyData} (e : H a = some (.lst xs)) (h : DecVs H xs ds) : DecV H (.ref a) (.list ds)
  | tup {a : Addr} {xs : List V} {ds : List PyData} (e : H a = some (.tup xs)) (h : DecVs H xs ds) : DecV H (.ref a) (.tuple ds)
inductive DecVs (H : Hp) : List V → List PyData → Prop where
  | nil : DecVs H [] []
  | cons {x : V} {d : PyData} {xs : List V} {ds : List PyData} (h : DecV H x d) (t : DecVs H xs ds) : DecVs H (x :: xs) (d :: ds)
end
section
variable {X : Cx}
/-! ### all(..) of a list of truths -/
def rAll (K : PySem.W.Frag) : List V → Hp → VK → Prop := fun xs H Q => ∃ (a : Addr) (bs : List Bool), xs = [.ref a] ∧ SqL K H a (bs.map V.bl) ∧ Q (.bl (bs.all id)) H
theorem bls_get : ∀ {bs : List Bool} {us : List Value} {i : Nat} {v : Value}, Vals (bs.map V.bl) us → us[i]? = some v → v = .bool (bs.getD i true)
  | [], _, _, _, .nil, e => by simp at e
  | b :: _, _, 0, _, .cons r _, e => by
    cases r
    simp at e
    simp [← e]
  | b :: bs, _, i + 1, _, .cons _ t, e => by
    have := bls_get (i := i) t (by simpa using e)
    simpa using this
theorem all_range (bs : List Bool) : (List.range bs.length).all (fun i => bs.getD i true) = bs.all id := by
  induction bs with
  | nil => rfl
  | cons b r ih =>
    rw [List.length_cons, List.range_succ_eq_map, List.all_cons, List.all_map, List.all_cons, ← ih]
    rfl
theorem call_all (hc : X.calm = true) : CallR X (.builtin "all") (rAll X.K) := by
  intro pins s σ H xs us Q I r h
  obtain ⟨a, bs, rfl, hq, q⟩ := h
  obtain ⟨u, rfl, ru⟩ := vals1 r
  cases ru
  obtain ⟨its, rv, p, hz⟩ := I.list hq
  have hl := rv.length
  rw [List.length_map] at hl
  refine PySem.call_all_walk (wpAny_pyIter_list p.isList ?_)
  have ha : a < s.heap.objs.size := by
    obtain ⟨o, n, e, _⟩ := p
    exact Heap.lt_size e
  refine ⟨s.heap.objs.size, _, _, _, _, _, fun i => bs.getD i true, rfl, Walks.list (show X.A.in1.handled = none from I.ok.hd hc) s.heap.objs.size a (Nat.ne_of_lt ha) its.toArray, ⟨⟨_, Heap.get?_push_size _ rfl, rfl, rfl⟩, p.isList.at fun o e => Heap.get?_push_of_some _ e⟩, ?_, ?_⟩
  · intro i v s' Q' E' hv hq'
    obtain rfl := bls_get rv (by simpa using hv)
    exact wpAny_truthy_bool hq'
  · intro h' tk k
    rw [List.size_toArray, ← hl, all_range]
    refine ⟨.bl _, H, I.kept (t' := tk) (fun b o e => ?_), rfl, q⟩
    exact k b o (by simp; exact Nat.ne_of_lt (Heap.lt_size e)) (Heap.get?_push_of_some _ e)
theorem pe_compN {N : List Str} {elt target iter : Expr} {scope : Scope} {pos : Pos} {wi : TI} {g : TG} {te : TE} (hc : X.calm = true)
    (hk : scope.kind = .function) (hfree : ∀ x ∈ scope.names, x.2 ≠ .free) (hcell : ∀ x ∈ scope.names, x.2 ≠ .cell) (hnames : ∀ x ∈ scope.names, x.2 = .local → scope.names.lookup x.1 = some .local)
    (hi : PI X target iter wi) (hg : ∀ C fp s2 H2, PG (cxComp X N scope C fp s2 H2) target g) (he : ∀ C fp s2 H2, PE (cxComp X N scope C fp s2 H2) elt te)
    (hs : ∀ x, foldedSetIterable iter X.env x = pure x := by intro _; rfl) : PE X (.ListComp elt [⟨target, iter, [], 0⟩] scope pos) (tComp N.length wi g te) :=
  pe_comp hc hk (fun x => ⟨fun z => hcell _ (PySem.mem_of_lookup z) rfl, fun z => hfree _ (PySem.mem_of_lookup z) rfl⟩) hfree hcell hnames hi hg he hs
end
def CompW (xs : List V) (Pv : Nat → List V → Hp → Prop) (i m : Nat) (ys : List V) (H : Hp) : Prop := m = xs.length - i ∧ i ≤ xs.length ∧ ys.length = i ∧ Pv i ys H
theorem comp_next {xs : List V} {Pv : Nat → List V → Hp → Prop} {i m : Nat} {ys : List V} {x y : V} {H5 : Hp} {p : Addr} (hx : xs[i]? = some x) (hm : m = xs.length - i) (hl : ys.length = i) (e : H5 p = some (.lst ys)) (h : Pv (i + 1) (ys ++ [y]) (upd H5 p (.lst (ys ++ [y])))) :
    H5 p = some (.lst ys) ∧ ∃ m', m' < m ∧ CompW xs Pv (i + 1) m' (ys ++ [y]) (upd H5 p (.lst (ys ++ [y]))) := by
  have hi : i < xs.length := (List.getElem?_eq_some_iff.mp hx).1
  exact ⟨e, xs.length - (i + 1), by omega, rfl, by omega, by simp [hl], h⟩
section
end
end Lw

namespace Lw
open PySem PySem.Spec PyProof.Rows L2
/-! ### a list comprehension of one clause without a test, that reads names of its def (their cells) -/
def cxCompF (X : Cx) (N : List Str) (scope : Scope) (cl : List (Str × Addr)) (C : Addr) (fp : List Addr) (s2 : Shared) (H2 : Hp) : Cx :=
  { X with N := N, s₀ := s2, H₀ := H2, env := compEnvC scope cl C X.env, outer := X.stack, stack := X.stack, ex := fp, fn := fun _ => false, pn := [], xe := fun _ _ => False }
/-- what was known of a slot is known still -/
def Keep (σ τ : L2.St) : Prop := ∀ (i : Nat) (v : V), σ[i]? = some (some v) → τ[i]? = some (some v)
theorem keep1 {x : Option V} {r : L2.St} : Keep (none :: r) (x :: r) := fun i v h => by
  cases i with
  | zero => cases h
  | succ j => exact h
def CompGoF (σ0 : L2.St) (J : It) (g : TG) (te : TE) (Q : VK) (p : Addr) (H' : Hp) : Prop :=
  ∃ W : Nat → Nat → List V → Hp → Prop, (∃ m, W 0 m [] H') ∧ ∀ i m ys H2, W i m ys H2 → H2 p = some (.lst ys) ∧ ys.length < sizeLine ∧
    ((J.stop i H2 ∧ Q (.ref p) H2) ∨ (J.go i H2 ∧ ∀ x H3, J.yld i H2 x H3 → g x σ0 H3 fun σ4 H4 => Keep σ0 σ4 ∧ te σ4 H4 fun y H5 => H5 p = some (.lst ys) ∧ ∃ m', m' < m ∧ W (i + 1) m' (ys ++ [y]) (upd H5 p (.lst (ys ++ [y])))))
/-- own: how many names of its own (first in N); idx: the def's slots of the names that it reads -/
def tCompF (own : Nat) (idx : List Nat) (wi : TI) (g : TG) (te : TE) : TE := fun σ H Q => wi σ H fun J H1 => ∀ p H', H1 p = none → Same H1 H' → H' p = some (.lst []) →
  CompGoF (List.replicate own none ++ idx.map fun j => (σ[j]?).getD none) J g te Q p H'
section
variable {X : Cx}
theorem cxCompF_ok {pins : List (Addr × Obj)} {σ : L2.St} {H1 : Hp} {s2 : Shared} {N : List Str} {scope : Scope} {cl : List (Str × Addr)} {C : Addr} {fp : List Addr} (I : Inv X pins σ H1 s2) (hk : scope.kind = .function)
    (hsub : ∀ x c, cl.lookup x = some c → X.env.cells.lookup x = some c) (hhas : ∀ x, ((relabel scope X.env).names.lookup x = some .cell ∨ (relabel scope X.env).names.lookup x = some .free) → ∃ c, cl.lookup x = some c)
    (hC : s2.heap.objs.size ≤ C) (hf : ∀ b ∈ fp, FpOk X pins H1 b) (hlt : ∀ b ∈ fp, b < s2.heap.objs.size) : (cxCompF X N scope cl C fp s2 H1).Ok where
  mod := I.ok.mod
  kind := hk
  glob := I.ok.glob
  blt := I.ok.blt
  above := hC
  inj := fun x y c h1 h2 => I.ok.inj x y c (hsub x c h1) (hsub y c h2)
  has := hhas
  cab := fun x c h _ => by cases h
  hd := I.ok.hd
  frames := I.ok.frames
  stk := .inl rfl
  exf := fun b hb => ⟨Nat.ne_of_lt (Nat.lt_of_lt_of_le (hlt b hb) hC), fun x c h => (hf b hb).2.2.2.2.1 x c (hsub x c h)⟩
  bs := I.bs
  bsz := Nat.le_trans I.ok.bsz I.sz
  noex := fun b o e hb => by
    rcases (hf b hb).2.2.2.1 with z | z
    · exact I.ok.noex b o e z
    · exact absurd (Nat.lt_of_lt_of_le (Heap.lt_size e) (Nat.le_trans I.ok.bsz z)) (Nat.lt_irrefl _)
  exfs := fun b hb z => (List.mem_cons.mp (I.stkSub b z)).elim (hf b hb).2.1 (hf b hb).2.2.1
  funs := I.stack
  frf := I.stkFree
theorem pe_compF {own : Nat} {idx : List Nat} {N : List Str} {elt target iter : Expr} {scope : Scope} {cl : List (Str × Addr)} {pos : Pos} {wi : TI} {g : TG} {te : TE} (hc : X.calm = true)
    (hk : scope.kind = .function) (hclos : closureFor scope X.env = pure cl) (hcell : ∀ x ∈ scope.names, x.2 ≠ .cell) (hnames : ∀ x ∈ scope.names, x.2 = .local → scope.names.lookup x.1 = some .local)
    (hsub : ∀ x c, cl.lookup x = some c → X.env.cells.lookup x = some c) (hhas : ∀ x, ((relabel scope X.env).names.lookup x = some .cell ∨ (relabel scope X.env).names.lookup x = some .free) → ∃ c, cl.lookup x = some c)
    (hlen : N.length = own + idx.length)
    (hidx : ∀ (k j : Nat) (x : Str), idx[k]? = some j → N[own + k]? = some x → X.N[j]? = some x ∧ X.env.kindOf x = some .cell ∧ (relabel scope X.env).names.lookup x = some .cell ∧ X.env.scope.names.lookup x = some .cell)
    (hi : PI X target iter wi) (hg : ∀ C fp s2 H2, PG (cxCompF X N scope cl C fp s2 H2) target g) (he : ∀ C fp s2 H2, PE (cxCompF X N scope cl C fp s2 H2) elt te)
    (hs : ∀ x, foldedSetIterable iter X.env x = pure x := by intro _; rfl) : PE X (.ListComp elt [⟨target, iter, [], 0⟩] scope pos) (tCompF own idx wi g te) := by
  intro pins s σ H Q I h
  rw [eval_ListComp]
  refine wpAny_comprehension_free (use := none) rfl hs hclos hk hnames (thn (hi pins s σ H _ I h) fun v s1 h1 => thn h1 fun itv s2 h2 => ?_)
  obtain ⟨it, fp, tn, J, H1, e, I2, T, st2, f2, hR⟩ := h2
  subst e
  have hlt : ∀ b ∈ fp, b < s2.heap.objs.size := fun b hb => by
    obtain ⟨o, ho, _⟩ := T.obj 0 _ st2 b hb
    exact Heap.lt_size ho
  refine wpAny_newObj_type (wpAny_newFunctionEnv hcell (by intro y hy; simp at hy) (fun h₁ hns₁ hsb₁ => ?_) hk)
  dsimp only at hns₁ hsb₁ ⊢
  generalize hHH : s2.heap.push { cls := .type "list", dict := none, data := .seq ([] : List Value).toArray } = HH at hns₁ hsb₁ ⊢
  have hCe : HH.objs.size = s2.heap.objs.size + 1 := by rw [← hHH, Heap.size_push]
  have hDC : s2.heap.objs.size ≠ HH.objs.size := by rw [hCe]; exact Nat.ne_of_lt (Nat.lt_succ_self _)
  have hCle : s2.heap.objs.size ≤ HH.objs.size := by rw [hCe]; exact Nat.le_succ _
  have old : ∀ b o, s2.heap.get? b = some o → h₁.get? b = some o := fun b o e => hsb₁.extBut b o (by rw [hCe]; exact Nat.ne_of_lt (Nat.lt_succ_of_lt (Heap.lt_size e))) (Heap.get?_push_of_some _ (hHH ▸ Heap.get?_push_of_some _ e))
  have hD : h₁.get? s2.heap.objs.size = some { cls := .type "list", dict := none, data := .seq ([] : List Value).toArray } := hsb₁.extBut _ _ hDC (Heap.get?_push_of_some _ (hHH ▸ Heap.get?_push_size _ rfl))
  have nD : H1 s2.heap.objs.size = none := I2.hok.fresh (Nat.le_refl _)
  obtain ⟨W, ⟨m0, w0⟩, turn⟩ := hR s2.heap.objs.size _ nD (same_upd (.lst []) nD) upd_same
  generalize hσ : (List.replicate own none ++ idx.map fun j => (σ[j]?).getD none : L2.St) = σ0 at turn
  have lσ : σ0.length = N.length := by rw [← hσ, List.length_append, List.length_replicate, List.length_map, hlen]
  have ok := cxCompF_ok (N := N) (cl := cl) (C := HH.objs.size) I2 hk hsub hhas hCle f2 hlt
  have oldC : ∀ c v, s2.heap.IsCell c v → h₁.IsCell c v := fun c v ⟨o, ho, hd⟩ => ⟨o, old c o ho, hd⟩
  have I4 : Inv (cxCompF X N scope cl HH.objs.size fp s2 H1) [] σ0 (upd H1 s2.heap.objs.size (.lst [])) { s2 with heap := h₁, toks := s2.toks + ([] : List (Str × Value)).length } := by
    refine ⟨ok, rfl, I2.bare, Un.laid old (Nat.le_refl _) nD, ⟨_, hns₁, fun i x v e1 e2 _ => ?_⟩, (fun x c z => ?_), ?_, (fun x c z => ?_), (fun p hp => nomatch hp), I2.hok.laid old (Nat.le_refl _) ?_, lσ⟩
    · -- a name of the def's
      rw [← hσ] at e2
      by_cases hi' : i < own
      · rw [List.getElem?_append_left (by rw [List.length_replicate]; exact hi'), List.getElem?_replicate] at e2
        split at e2 <;> cases e2
      · obtain ⟨k, rfl⟩ : ∃ k, i = own + k := ⟨i - own, by omega⟩
        rw [List.getElem?_append_right (by rw [List.length_replicate]; omega), List.length_replicate, Nat.add_sub_cancel_left, List.getElem?_map] at e2
        cases ej : idx[k]? with
        | none => rw [ej] at e2; cases e2
        | some j =>
          rw [ej, Option.map_some] at e2
          have e2 := Option.some.inj e2
          obtain ⟨n1, n2, n3, n4⟩ := hidx k j x ej e1
          have e3 : σ[j]? = some (some v) := by
            cases q : σ[j]? with
            | none => rw [q] at e2; cases e2
            | some y => rw [q, Option.getD_some] at e2; rw [e2]
          obtain ⟨m, hm, hl⟩ := I2.loc
          obtain ⟨u, ru, lk⟩ := hl j x v n1 e3 (.inr (.inl n4))
          refine ⟨u, ru, ?_⟩
          rcases lk with ⟨kl, _⟩ | ⟨_, c, hcl, hic⟩
          · rw [n2] at kl; cases kl
          · obtain ⟨c', hc'⟩ := hhas x (.inl n3)
            have : c' = c := Option.some.inj ((hsub x c' hc').symm.trans hcl)
            subst this
            exact .inr ⟨.inl n3, c', hc', oldC _ _ hic⟩
    · obtain ⟨v, hv⟩ := I2.cell x c (hsub x c z)
      exact ⟨v, oldC _ _ hv⟩
    · show (upd H1 s2.heap.objs.size (.lst [])) HH.objs.size = none
      rw [upd_ne (Ne.symm hDC)]
      exact I2.hok.fresh hCle
    · obtain ⟨v, hv⟩ := I2.cell x c (hsub x c z)
      show (upd H1 s2.heap.objs.size (.lst [])) c = none
      rw [upd_ne (Nat.ne_of_lt hv.lt)]
      exact I2.freeC x c (hsub x c z)
    · exact ⟨by show 0 ≤ sizeLine; decide, [], 0, .nil, hD⟩
  have stat : ∀ {H' : Hp}, (∀ b ∈ fp, H' b = none) → ∀ b ∈ fp, FpOk (cxCompF X N scope cl HH.objs.size fp s2 H1) [] H' b := fun hn b hb =>
    ⟨hn b hb, (ok.exf b hb).1, ok.exfs b hb, .inl hb, (ok.exf b hb).2, fun p hp => nomatch hp⟩
  have st4 : tn 0 h₁ := T.keep _ _ _ st2 fun b _ o e => old b o e
  have fr4 : ∀ b ∈ fp, (upd H1 s2.heap.objs.size (.lst [])) b = none := fun b hb => by
    rw [upd_ne (Nat.ne_of_lt (hlt b hb))]
    exact (f2 b hb).1
  have loop : codeAny (model X.prog X.w) X.A (.compLoop (.ListComp elt [⟨target, iter, [], 0⟩] scope pos) 0 (.ref it) (.ref s2.heap.objs.size) (compEnvC scope cl HH.objs.size X.env))
      (compPost (model X.prog X.w) X.A X.xe none (EP X pins σ Q) (.ref s2.heap.objs.size) HH.objs.size) { s2 with heap := h₁, toks := s2.toks + ([] : List (Str × Value)).length } := by
    refine compLoop_any (fun n s' => ∃ i ys H', Inv (cxCompF X N scope cl HH.objs.size fp s2 H1) [] σ0 H' s' ∧ tn i s'.heap ∧ (∀ b ∈ fp, H' b = none) ∧ W i n ys H') ?_ m0 ⟨0, [], _, I4, st4, fr4, w0⟩
    rintro n s3 ⟨i, ys, H3, I3, st3, fr3, w3⟩
    obtain ⟨hp3, hz3, hw⟩ := turn i n ys H3 w3
    rcases hw with ⟨stop, qn⟩ | ⟨go, step⟩
    · refine thn (T.done (cxCompF X N scope cl HH.objs.size fp s2 H1) rfl rfl rfl hc i [] s3 _ H3 _ I3 (stat fr3) st3 stop) fun r s4 ⟨hr, I5⟩ => ?_
      subst hr
      obtain ⟨m, hm, _⟩ := id I5.loc
      refine ⟨m, hm, fun h' sb => ⟨.ref s2.heap.objs.size, H3, ?_, rfl, qn⟩⟩
      have k : ∀ b o, b ≠ HH.objs.size → s4.heap.get? b = some o → h'.get? b = some o := fun b o hb e => sb.extBut b o hb e
      have nb : ∀ b o, s2.heap.get? b = some o → b ≠ HH.objs.size := fun b o e => by rw [hCe]; exact Nat.ne_of_lt (Nat.lt_succ_of_lt (Heap.lt_size e))
      have U := I5.base
      have fC : H3 HH.objs.size = none := I5.free
      refine I2.call' (ch := fp) (s' := { s4 with heap := h' }) I5.os ⟨fun b o e n hb hx => k b o (nb b o e) (U.keep b o e n hb hx), fun b o e n hb hx => ?_, U.free, fun b o e hx => ?_, U.tups, U.frzs, U.tbls⟩ (fun b u e => ?_) I5.bare (fun b hb => ⟨(f2 b hb).2.2.2.1, (f2 b hb).2.1, (f2 b hb).2.2.2.2.1, (f2 b hb).2.2.2.2.2⟩)
      · obtain ⟨sl, q⟩ := U.slot b o e n hb hx
        exact ⟨sl, k b _ (nb b o e) q⟩
      · obtain ⟨o', q⟩ := U.there b o e hx
        exact ⟨o', k b _ (nb b o e) q⟩
      · refine (I5.hok b u e).stay (fun c v hcc q => k c v ?_ q) (fun _ q => q) fun _ _ q => q
        rcases hcc with z | z
        · rw [z]
          intro y
          rw [y, fC] at e
          cases e
        · intro y
          rw [y, fC] at z
          cases z
    · refine wpAny_mono (T.item (cxCompF X N scope cl HH.objs.size fp s2 H1) rfl rfl rfl hc i [] s3 _ H3 (fun _ _ => False) I3 (stat fr3) st3 go) (fun r s4 ⟨u, hr, h4⟩ => ?_) fun _ _ z => z.elim
      subst hr
      refine wpAny_mono h4 (fun _ s5 ⟨x, H5, I5, r5, y5, st5, fr5⟩ => ?_) fun _ _ z => z.elim
      have I5' := I5.pinned (stat fr5) (T.obj _ _ st5)
      refine wpAny_mono (hg _ _ _ _ _ s5 _ H5 x u _ I5' r5 (step x H5 y5)) (fun _ s6 ⟨σ6, H6, I6, kp6, q6⟩ => ?_) fun _ _ z => z.elim
      refine wpAny_mono (he _ _ _ _ _ s6 σ6 H6 _ I6 q6) (fun y s7 ⟨yv, H7, I7, r7, q7⟩ => ?_) fun _ _ z => z.elim
      obtain ⟨e7, m', hm', w7⟩ := q7
      refine wpAny_mono (mt_append (X := cxCompF X N scope cl HH.objs.size fp s2 H1) _ s7 σ6 H7 (.ref s2.heap.objs.size) [yv] (.ref s2.heap.objs.size) [y] (fun _ H8 => H8 = upd H7 s2.heap.objs.size (.lst (ys ++ [yv]))) I7 rfl (.cons r7 .nil) ⟨_, ys, yv, rfl, rfl, e7, hz3, rfl⟩) (fun _ s8 ⟨_, H8, I8, _, q8⟩ => ?_) fun _ _ z => z.elim
      subst q8
      refine ⟨m', hm', i + 1, _, _, (I8.unpinned).weak (by rw [lσ, I8.len]; rfl) kp6, T.keep _ _ _ st5 fun b hb o e => (I8.pin (b, o) (List.mem_append_right _ (List.mem_append_right _ (mem_pinsAt hb e)))).1, fun b hb => ?_, w7⟩
      obtain ⟨o, e, d⟩ := T.obj _ _ st5 b hb
      exact (I8.pin (b, o) (List.mem_append_right _ (List.mem_append_right _ (mem_pinsAt hb e)))).2.1
  exact codeAny_compStart_list loop (T.self _ 0 _ _ _ st4 loop)
/-- every name of another's cell has one: by a look at the names -/
def hasB (names : List (Str × NameKind)) (cl : List (Str × Addr)) : Bool := names.all fun y => match y.2 with
  | .cell => (cl.lookup y.1).isSome
  | .free => (cl.lookup y.1).isSome
  | _ => true
theorem has_of {names : List (Str × NameKind)} {cl : List (Str × Addr)} (h : hasB names cl = true) : ∀ x, (names.lookup x = some .cell ∨ names.lookup x = some .free) → ∃ c, cl.lookup x = some c := by
  intro x hx
  have all := List.all_eq_true.mp h
  rcases hx with hx | hx
  · have := all _ (PySem.mem_of_lookup hx)
    exact Option.isSome_iff_exists.mp this
  · have := all _ (PySem.mem_of_lookup hx)
    exact Option.isSome_iff_exists.mp this
theorem one_idx {X : Cx} {scope : Scope} {own j0 : Nat} {N : List Str} {x0 : Str} (h0 : N[own]? = some x0) (h : X.N[j0]? = some x0 ∧ X.env.kindOf x0 = some .cell ∧ (relabel scope X.env).names.lookup x0 = some .cell ∧ X.env.scope.names.lookup x0 = some .cell) :
    ∀ (k j : Nat) (x : Str), [j0][k]? = some j → N[own + k]? = some x → X.N[j]? = some x ∧ X.env.kindOf x = some .cell ∧ (relabel scope X.env).names.lookup x = some .cell ∧ X.env.scope.names.lookup x = some .cell := by
  intro k j x e1 e2
  match k, e1 with
  | 0, e1 =>
    cases e1
    rw [Nat.add_zero, h0] at e2
    cases e2
    exact h
  | k + 1, e1 => cases e1
end
/-- the turns over the items xs; close each turn by comp_next -/
theorem comp_by {J : It} {xs : List V} {σ0 : L2.St} {g : TG} {te : TE} {Q : VK} {p : Addr} {H' : Hp} (Pv : Nat → List V → Hp → Prop) (hz : xs.length < sizeLine) (h0 : Pv 0 [] H')
    (hgo : ∀ i ys H2, Pv i ys H2 → i < xs.length → J.go i H2 ∧ ∀ x H3, J.yld i H2 x H3 → H3 = H2 ∧ xs[i]? = some x) (hst : ∀ ys H2, Pv xs.length ys H2 → J.stop xs.length H2) (hl : ∀ i ys H2, Pv i ys H2 → H2 p = some (.lst ys))
    (hs : ∀ i m ys x H2, xs[i]? = some x → m = xs.length - i → ys.length = i → Pv i ys H2 → g x σ0 H2 fun σ4 H4 => Keep σ0 σ4 ∧ te σ4 H4 fun y H5 => H5 p = some (.lst ys) ∧ ∃ m', m' < m ∧ CompW xs Pv (i + 1) m' (ys ++ [y]) (upd H5 p (.lst (ys ++ [y]))))
    (hd : ∀ ys H2, ys.length = xs.length → Pv xs.length ys H2 → Q (.ref p) H2) : CompGoF σ0 J g te Q p H' := by
  unfold CompGoF
  refine ⟨CompW xs Pv, ⟨_, rfl, Nat.zero_le _, rfl, h0⟩, ?_⟩
  rintro i m ys H2 ⟨hm, hi, hy, hp⟩
  refine ⟨hl i ys H2 hp, by omega, ?_⟩
  by_cases hlt : i < xs.length
  · obtain ⟨g1, g2⟩ := hgo i ys H2 hp hlt
    refine .inr ⟨g1, fun x H3 y => ?_⟩
    obtain ⟨e3, z⟩ := g2 x H3 y
    subst e3
    exact hs i m ys x _ z hm hy hp
  · have ei : i = xs.length := by omega
    subst ei
    exact .inl ⟨hst ys H2 hp, hd ys H2 hy hp⟩
section
/-! ### sum(..) of a tuple of ints -/
theorem preSum_take (ns : List Int) : ∀ j, j ≤ ns.length → preSum (fun i => ns.getD i 0) j = (ns.take j).sum
  | 0, _ => by simp [preSum]
  | j + 1, h => by
    have hj : j < ns.length := h
    show preSum (fun i => ns.getD i 0) j + ns.getD j 0 = _
    rw [preSum_take ns j (by omega), List.take_succ_eq_append_getElem hj, List.sum_append, List.getD_eq_getElem?_getD, List.getElem?_eq_getElem hj]
    simp
theorem sum_bound {M : Int} : ∀ (ns : List Int), (∀ n ∈ ns, 0 ≤ n ∧ n ≤ M) → 0 ≤ ns.sum ∧ ns.sum ≤ ns.length * M
  | [], _ => by simp
  | n :: r, h => by
    have h1 := h n (by simp)
    have h2 := sum_bound r fun m hm => h m (by simp [hm])
    rw [List.sum_cons, List.length_cons, Int.natCast_succ, Int.add_mul]
    omega
def rSumT (K : PySem.W.Frag) : List V → Hp → VK → Prop := fun xs H Q => ∃ (a : Addr) (ns : List Int), xs = [.ref a] ∧ SqT K H a (ns.map V.int) ∧ (∀ n ∈ ns, 0 ≤ n ∧ n ≤ 2 ^ 40) ∧ ns.length ≤ 1000 ∧ Q (.int ns.sum) H
theorem call_sumT (hc : X.calm = true) : CallR X (.builtin "sum") (rSumT X.K) := by
  intro pins s σ H xs us Q I r h
  obtain ⟨a, ns, rfl, hq, hb, hn, q⟩ := h
  obtain ⟨u, rfl, ru⟩ := vals1 r
  cases ru
  obtain ⟨its, rv, p, hz⟩ := I.tuple hq
  have i1 : IntsAre its ns := intsAre_of rv
  have hl := ints_len i1
  have ha : a < s.heap.objs.size := by
    obtain ⟨o, e, _⟩ := p
    exact Heap.lt_size e
  refine PySem.call_sum_walk (wpAny_pyIter_tuple (t := a) (items := its.toArray) p ?_)
  refine ⟨s.heap.objs.size, _, _, _, _, _, fun i => ns.getD i 0, rfl, Walks.tuple (show X.A.in1.handled = none from I.ok.hd hc) s.heap.objs.size a (Nat.ne_of_lt ha) its.toArray, ⟨⟨_, Heap.get?_push_size _ rfl, rfl, rfl⟩, p.keeps fun b o e => Heap.get?_push_of_some _ e⟩, ?_, ?_, ?_, ?_⟩
  · intro b hb
    show b < (s.heap.push _).objs.size
    rw [Heap.size_push]
    simp only [List.mem_cons, List.not_mem_nil, or_false] at hb
    rcases hb with rfl | rfl
    · exact Nat.lt_succ_self _
    · exact Nat.lt_succ_of_lt ha
  · intro i v hv
    have hv' : its[i]? = some v := by simpa using hv
    obtain ⟨hi, e⟩ := List.getElem?_eq_some_iff.mp hv'
    obtain ⟨n, t, e1, e2⟩ := ints_get i1 hi
    exact ⟨t, by dsimp only; rw [← e, e2, List.getD_eq_getElem?_getD, e1]; rfl⟩
  · intro j hj
    have hj' : j < ns.length := by rw [← hl]; simpa using hj
    have b1 := hb ns[j] (List.getElem_mem hj')
    have b2 := sum_bound (ns.take (j + 1)) fun n hn' => hb n (List.mem_of_mem_take hn')
    have e1 : ns.getD j 0 = ns[j] := by rw [List.getD_eq_getElem?_getD, List.getElem?_eq_getElem hj']; rfl
    have l1 : (ns.take (j + 1)).length ≤ 1000 := by rw [List.length_take]; omega
    dsimp only
    rw [preSum_take ns (j + 1) hj', e1]
    unfold InLong
    refine ⟨⟨by omega, by omega⟩, ⟨by omega, ?_⟩⟩
    have : ((ns.take (j + 1)).length : Int) * 2 ^ 40 ≤ 1000 * 2 ^ 40 := Int.mul_le_mul_of_nonneg_right (by omega) (by decide)
    omega
  · intro h' tk t' k
    have e : preSum (fun i => ns.getD i 0) its.toArray.size = ns.sum := by
      rw [List.size_toArray, hl, preSum_take ns _ (Nat.le_refl _), List.take_length]
    rw [e]
    refine ⟨.int ns.sum, H, I.kept (t' := tk) (fun b o q => ?_), ⟨t', rfl⟩, q⟩
    exact k b o (by simp; exact Nat.ne_of_lt (Heap.lt_size q)) (Heap.get?_push_of_some _ q)
end
end Lw

namespace LwT
open PySem PySem.Spec PyProof.Rows L2 Lw
/-! ### <, >=, != of two tuples of ints -/
/-- by the first place where they differ; at the end of one by their lengths -/
def lexI (f : Int → Int → Bool) (g : Nat → Nat → Bool) : List Int → List Int → Bool
  | x :: xs, y :: ys => if x = y then lexI f g xs ys else f x y
  | xs, ys => g xs.length ys.length
abbrev lexLt : List Int → List Int → Bool := lexI (fun i j => decide (i < j)) (fun m n => decide (m < n))
abbrev lexNe : List Int → List Int → Bool := lexI (fun _ _ => true) (fun m n => m != n)
abbrev lexGe : List Int → List Int → Bool := lexI (fun i j => decide (j ≤ i)) (fun m n => decide (n ≤ m))
theorem lexI_nil_left {f g} {ys : List Int} : lexI f g [] ys = g 0 ys.length := by cases ys <;> rfl
theorem lexI_nil_right {f g} {xs : List Int} : lexI f g xs [] = g xs.length 0 := by cases xs <;> rfl
theorem lexGe_eq : ∀ (xs ys : List Int), lexGe xs ys = !lexLt xs ys
  | [], ys => by
    show lexI _ _ _ _ = !lexI _ _ _ _
    rw [lexI_nil_left, lexI_nil_left]
    cases ys <;> simp
  | x :: xs, [] => by
    show lexI _ _ _ _ = !lexI _ _ _ _
    rw [lexI_nil_right, lexI_nil_right]
    simp
  | x :: xs, y :: ys => by
    show (if x = y then lexGe xs ys else _) = !(if x = y then lexLt xs ys else _)
    by_cases h : x = y
    · rw [if_pos h, if_pos h]
      exact lexGe_eq xs ys
    · rw [if_neg h, if_neg h]
      by_cases h2 : x < y
      · simp [h2, show ¬ y ≤ x by omega]
      · simp [h2, show y ≤ x by omega]
theorem lexNe_eq : ∀ (xs ys : List Int), lexI (fun _ _ => true) (fun m n => m != n) xs ys = !decide (xs = ys)
  | [], ys => by
    rw [lexI_nil_left]
    cases ys <;> simp
  | x :: xs, [] => by
    rw [lexI_nil_right]
    simp
  | x :: xs, y :: ys => by
    show (if x = y then lexI _ _ xs ys else true) = _
    by_cases h : x = y
    · rw [if_pos h, lexNe_eq xs ys]
      simp [h]
    · rw [if_neg h]
      simp [h]
theorem lex_end {f : Int → Int → Bool} {g : Nat → Nat → Bool} {xs ys : List Int} {i : Nat} (h : min xs.length ys.length ≤ i) : lexI f g (xs.drop i) (ys.drop i) = g (xs.length - i) (ys.length - i) := by
  by_cases hx : xs.length ≤ i
  · rw [List.drop_of_length_le hx, lexI_nil_left, List.length_drop]
    rw [show xs.length - i = 0 by omega]
  · have hy : ys.length ≤ i := by omega
    rw [List.drop_of_length_le hy, lexI_nil_right, List.length_drop]
    rw [show ys.length - i = 0 by omega]
theorem drop_ints {vs : List Value} {ns : List Int} (r : IntsAre vs ns) {i : Nat} (h : i < vs.length) : ∃ n t, vs[i] = .int n t ∧ ns.drop i = n :: ns.drop (i + 1) := by
  obtain ⟨n, t, e1, e2⟩ := ints_get r h
  refine ⟨n, t, e2, ?_⟩
  obtain ⟨hi, e⟩ := List.getElem?_eq_some_iff.mp e1
  rw [List.drop_eq_getElem_cons hi, e]
section
variable {l b : Addr} {as bs : List Value} {xs ys : List Int} {n n2 : Nat} {dd dd2 : Option Addr} {sl sl2 : Array (Option Value)}
theorem tuple_lt (ra : IntsAre as xs) (rb : IntsAre bs ys) :
    Meets (Builtin.«tuple.__lt__» ⟨[.ref l, .ref b], []⟩)
      (fun _ R s => s.heap.get? l = some { cls := .type "tuple", dict := dd, data := .seq as.toArray n, slots := sl } ∧ s.heap.get? b = some { cls := .type "tuple", dict := dd2, data := .seq bs.toArray n2, slots := sl2 } ∧
        R (.ok (.ret (.bool (lexLt xs ys)))) s) :=
  .of_wp fun prog w A R s h => by
    obtain ⟨hp, g, d, tk, os⟩ := s
    obtain ⟨hl, hb, h⟩ := h
    have f2 := AutoSeq1.sub_tuple_tuple
    have la := ints_len ra
    have lb := ints_len rb
    have hZ : (as.zip bs).length = min as.length bs.length := by simp
    wp_walk using wpAny_loadPart' hl, wpAny_loadPart' hb, wpAny_forIn_list _ (fun rest b s' => b.1 = none ∧ s' = ⟨hp, g, d, tk, os⟩ ∧ ∃ i, i ≤ (as.zip bs).length ∧ rest = (as.zip bs).drop i ∧
      R (.ok (.ret (.bool (lexLt (xs.drop i) (ys.drop i))))) ⟨hp, g, d, tk, os⟩) _
    case turn =>
      rintro ⟨y, x⟩ rest b s' ⟨hb', rfl, i, hi, hz, hR⟩
      have hlt : i < (as.zip bs).length := by
        rcases Nat.lt_or_ge i (as.zip bs).length with h' | h'
        · exact h'
        · rw [List.drop_of_length_le h'] at hz; cases hz
      have h1 : i < as.length := by omega
      have h2 : i < bs.length := by omega
      rw [List.drop_eq_getElem_cons hlt] at hz
      injection hz with hyx hrest
      obtain ⟨p, t1, e1, d1⟩ := drop_ints ra h1
      obtain ⟨q, t2, e2, d2⟩ := drop_ints rb h2
      have hy : y = .int p t1 := by have := congrArg Prod.fst hyx; rw [← e1]; simpa using this
      have hx : x = .int q t2 := by have := congrArg Prod.snd hyx; rw [← e2]; simpa using this
      subst hy hx
      rw [d1, d2] at hR
      have hR : R (.ok (.ret (.bool (if p = q then lexLt (xs.drop (i + 1)) (ys.drop (i + 1)) else decide (p < q))))) ⟨hp, g, d, tk, os⟩ := hR
      refine wpAny_bind (SeqAt.EqAt.int_int _ _ _ _ prog w _ _ ?_)
      by_cases hpq : p = q
      · rw [if_pos hpq] at hR
        have e : (p == q) = true := by simp [hpq]
        rw [e]
        wp_walk
        exact ⟨rfl, rfl, i + 1, hlt, hrest, hR⟩
      · rw [if_neg hpq] at hR
        have e : (p == q) = false := by simp [hpq]
        rw [e]
        simp only [Bool.not_false, if_true]
        refine wpAny_bind (wpAny_rule ?_)
        refine wpAny_bind (lt_int (a := p) (b := q) ?_)
        wp_walk
        exact ⟨_, rfl, hR⟩
    case fin =>
      rintro ⟨b1, b2⟩ s' ⟨hb', rfl, i, hi, hz, hR⟩
      simp only at hb'
      subst hb'
      have hge : min as.length bs.length ≤ i := by
        rcases Nat.lt_or_ge i (as.zip bs).length with h' | h'
        · rw [List.drop_eq_getElem_cons h'] at hz; cases hz
        · exact hZ ▸ h'
      have e : lexLt (xs.drop i) (ys.drop i) = decide (xs.length - i < ys.length - i) := lex_end (by rw [la, lb] at hge; exact hge)
      have e2 : decide (xs.length - i < ys.length - i) = decide (as.length < bs.length) := by
        rw [hZ] at hi
        by_cases q : as.length < bs.length
        · rw [decide_eq_true q, decide_eq_true (by omega)]
        · rw [decide_eq_false q, decide_eq_false (by omega)]
      rw [e, e2] at hR
      wp_walk
      exact ⟨_, rfl, by simpa [Builtin.Tuple.tupleCompareSizes] using hR⟩
    case h =>
      exact ⟨rfl, rfl, 0, Nat.zero_le _, rfl, by simpa using h⟩
theorem tuple_ge (ra : IntsAre as xs) (rb : IntsAre bs ys) :
    Meets (Builtin.«tuple.__ge__» ⟨[.ref l, .ref b], []⟩)
      (fun _ R s => s.heap.get? l = some { cls := .type "tuple", dict := dd, data := .seq as.toArray n, slots := sl } ∧ s.heap.get? b = some { cls := .type "tuple", dict := dd2, data := .seq bs.toArray n2, slots := sl2 } ∧
        R (.ok (.ret (.bool (lexGe xs ys)))) s) :=
  .of_wp fun prog w A R s h => by
    obtain ⟨hp, g, d, tk, os⟩ := s
    obtain ⟨hl, hb, h⟩ := h
    have f2 := AutoSeq1.sub_tuple_tuple
    have la := ints_len ra
    have lb := ints_len rb
    have hZ : (as.zip bs).length = min as.length bs.length := by simp
    wp_walk using wpAny_loadPart' hl, wpAny_loadPart' hb, wpAny_forIn_list _ (fun rest b s' => b.1 = none ∧ s' = ⟨hp, g, d, tk, os⟩ ∧ ∃ i, i ≤ (as.zip bs).length ∧ rest = (as.zip bs).drop i ∧
      R (.ok (.ret (.bool (lexGe (xs.drop i) (ys.drop i))))) ⟨hp, g, d, tk, os⟩) _
    case turn =>
      rintro ⟨y, x⟩ rest b s' ⟨hb', rfl, i, hi, hz, hR⟩
      have hlt : i < (as.zip bs).length := by
        rcases Nat.lt_or_ge i (as.zip bs).length with h' | h'
        · exact h'
        · rw [List.drop_of_length_le h'] at hz; cases hz
      have h1 : i < as.length := by omega
      have h2 : i < bs.length := by omega
      rw [List.drop_eq_getElem_cons hlt] at hz
      injection hz with hyx hrest
      obtain ⟨p, t1, e1, d1⟩ := drop_ints ra h1
      obtain ⟨q, t2, e2, d2⟩ := drop_ints rb h2
      have hy : y = .int p t1 := by have := congrArg Prod.fst hyx; rw [← e1]; simpa using this
      have hx : x = .int q t2 := by have := congrArg Prod.snd hyx; rw [← e2]; simpa using this
      subst hy hx
      rw [d1, d2] at hR
      have hR : R (.ok (.ret (.bool (if p = q then lexGe (xs.drop (i + 1)) (ys.drop (i + 1)) else decide (q ≤ p))))) ⟨hp, g, d, tk, os⟩ := hR
      refine wpAny_bind (SeqAt.EqAt.int_int _ _ _ _ prog w _ _ ?_)
      by_cases hpq : p = q
      · rw [if_pos hpq] at hR
        have e : (p == q) = true := by simp [hpq]
        rw [e]
        wp_walk
        exact ⟨rfl, rfl, i + 1, hlt, hrest, hR⟩
      · rw [if_neg hpq] at hR
        have e : (p == q) = false := by simp [hpq]
        rw [e]
        simp only [Bool.not_false, if_true]
        refine wpAny_bind (wpAny_rule ?_)
        refine wpAny_bind (ge_int (a := p) (b := q) ?_)
        wp_walk
        exact ⟨_, rfl, hR⟩
    case fin =>
      rintro ⟨b1, b2⟩ s' ⟨hb', rfl, i, hi, hz, hR⟩
      simp only at hb'
      subst hb'
      have hge : min as.length bs.length ≤ i := by
        rcases Nat.lt_or_ge i (as.zip bs).length with h' | h'
        · rw [List.drop_eq_getElem_cons h'] at hz; cases hz
        · exact hZ ▸ h'
      have e : lexGe (xs.drop i) (ys.drop i) = decide (ys.length - i ≤ xs.length - i) := lex_end (by rw [la, lb] at hge; exact hge)
      have e2 : decide (ys.length - i ≤ xs.length - i) = decide (bs.length ≤ as.length) := by
        rw [hZ] at hi
        by_cases q : bs.length ≤ as.length
        · rw [decide_eq_true q, decide_eq_true (by omega)]
        · rw [decide_eq_false q, decide_eq_false (by omega)]
      rw [e, e2] at hR
      wp_walk
      exact ⟨_, rfl, by simpa [Builtin.Tuple.tupleCompareSizes] using hR⟩
    case h =>
      exact ⟨rfl, rfl, 0, Nat.zero_le _, rfl, by simpa using h⟩
theorem tuple_ne (ra : IntsAre as xs) (rb : IntsAre bs ys) :
    Meets (Builtin.«tuple.__ne__» ⟨[.ref l, .ref b], []⟩)
      (fun _ R s => s.heap.get? l = some { cls := .type "tuple", dict := dd, data := .seq as.toArray n, slots := sl } ∧ s.heap.get? b = some { cls := .type "tuple", dict := dd2, data := .seq bs.toArray n2, slots := sl2 } ∧
        R (.ok (.ret (.bool (lexNe xs ys)))) s) :=
  .of_wp fun prog w A R s h => by
    obtain ⟨hp, g, d, tk, os⟩ := s
    obtain ⟨hl, hb, h⟩ := h
    have f2 := AutoSeq1.sub_tuple_tuple
    have la := ints_len ra
    have lb := ints_len rb
    have hZ : (as.zip bs).length = min as.length bs.length := by simp
    wp_walk using wpAny_loadPart' hl, wpAny_loadPart' hb, wpAny_forIn_list _ (fun rest b s' => b.1 = none ∧ s' = ⟨hp, g, d, tk, os⟩ ∧ ∃ i, i ≤ (as.zip bs).length ∧ rest = (as.zip bs).drop i ∧
      R (.ok (.ret (.bool (lexNe (xs.drop i) (ys.drop i))))) ⟨hp, g, d, tk, os⟩) _
    case turn =>
      rintro ⟨y, x⟩ rest b s' ⟨hb', rfl, i, hi, hz, hR⟩
      have hlt : i < (as.zip bs).length := by
        rcases Nat.lt_or_ge i (as.zip bs).length with h' | h'
        · exact h'
        · rw [List.drop_of_length_le h'] at hz; cases hz
      have h1 : i < as.length := by omega
      have h2 : i < bs.length := by omega
      rw [List.drop_eq_getElem_cons hlt] at hz
      injection hz with hyx hrest
      obtain ⟨p, t1, e1, d1⟩ := drop_ints ra h1
      obtain ⟨q, t2, e2, d2⟩ := drop_ints rb h2
      have hy : y = .int p t1 := by have := congrArg Prod.fst hyx; rw [← e1]; simpa using this
      have hx : x = .int q t2 := by have := congrArg Prod.snd hyx; rw [← e2]; simpa using this
      subst hy hx
      rw [d1, d2] at hR
      have hR : R (.ok (.ret (.bool (if p = q then lexNe (xs.drop (i + 1)) (ys.drop (i + 1)) else true)))) ⟨hp, g, d, tk, os⟩ := hR
      refine wpAny_bind (SeqAt.EqAt.int_int _ _ _ _ prog w _ _ ?_)
      by_cases hpq : p = q
      · rw [if_pos hpq] at hR
        have e : (p == q) = true := by simp [hpq]
        rw [e]
        wp_walk
        exact ⟨rfl, rfl, i + 1, hlt, hrest, hR⟩
      · rw [if_neg hpq] at hR
        have e : (p == q) = false := by simp [hpq]
        rw [e]
        wp_walk
        exact ⟨_, rfl, hR⟩
    case fin =>
      rintro ⟨b1, b2⟩ s' ⟨hb', rfl, i, hi, hz, hR⟩
      simp only at hb'
      subst hb'
      have hge : min as.length bs.length ≤ i := by
        rcases Nat.lt_or_ge i (as.zip bs).length with h' | h'
        · rw [List.drop_eq_getElem_cons h'] at hz; cases hz
        · exact hZ ▸ h'
      have e : lexNe (xs.drop i) (ys.drop i) = (xs.length - i != ys.length - i) := lex_end (by rw [la, lb] at hge; exact hge)
      have e2 : (xs.length - i != ys.length - i) = (as.length != bs.length) := by
        rw [hZ] at hi
        by_cases q : as.length = bs.length
        · have q2 : xs.length - i = ys.length - i := by omega
          rw [bne, bne, q2, q, beq_self_eq_true, beq_self_eq_true]
        · have q2 : ¬ xs.length - i = ys.length - i := by omega
          rw [bne, bne, beq_eq_false_iff_ne.mpr q2, beq_eq_false_iff_ne.mpr q]
      rw [e, e2] at hR
      wp_walk
      exact ⟨_, rfl, by simpa [Builtin.Tuple.tupleCompareSizes] using hR⟩
    case h =>
      exact ⟨rfl, rfl, 0, Nat.zero_le _, rfl, by simpa using h⟩
end
section
variable {X : Cx}
def rOrdT (K : PySem.W.Frag) (f : List Int → List Int → Bool) : R2 := fun x y H Q => ∃ (a b : Addr) (ns ms : List Int), x = .ref a ∧ y = .ref b ∧ SqT K H a (ns.map V.int) ∧ SqT K H b (ms.map V.int) ∧ Q (.bl (f ns ms)) H
theorem op_ltT (hu : X.A.units < cLine) : OpR X (compareOp .Lt) (rOrdT X.K lexLt) := by
  intro pins s σ H x y v u Q I rx ry h
  obtain ⟨a, b, ns, ms, rfl, rfl, ha, hb, q⟩ := h
  cases rx
  cases ry
  obtain ⟨its, r1, p1, _⟩ := I.tuple ha
  obtain ⟨its2, r2, p2, _⟩ := I.tuple hb
  obtain ⟨⟨cls, dd, data, sl⟩, ho, hc, n, hd⟩ := id p1
  obtain ⟨⟨cls2, dd2, data2, sl2⟩, ho2, hc2, n2, hd2⟩ := id p2
  simp only at hc hd hc2 hd2
  subst hc hd hc2 hd2
  exact richCompare_meets_room (op := .Lt) ⟨_, ho, rfl⟩ ⟨_, ho2, rfl⟩ PySem.F.slot_tuple_lt PySem.F.entry_tuple_lt (PySem.F.args_tuple_lt_2 _ _) (tuple_lt (intsAre_of r1) (intsAre_of r2)) ⟨ho, ho2, show Value.bool _ ≠ Value.notImplemented ∧ _ from ⟨(fun z => nomatch z), ⟨.bl _, H, I, rfl, q⟩⟩⟩ hu
theorem op_geT (hu : X.A.units < cLine) : OpR X (compareOp .GtE) (rOrdT X.K lexGe) := by
  intro pins s σ H x y v u Q I rx ry h
  obtain ⟨a, b, ns, ms, rfl, rfl, ha, hb, q⟩ := h
  cases rx
  cases ry
  obtain ⟨its, r1, p1, _⟩ := I.tuple ha
  obtain ⟨its2, r2, p2, _⟩ := I.tuple hb
  obtain ⟨⟨cls, dd, data, sl⟩, ho, hc, n, hd⟩ := id p1
  obtain ⟨⟨cls2, dd2, data2, sl2⟩, ho2, hc2, n2, hd2⟩ := id p2
  simp only at hc hd hc2 hd2
  subst hc hd hc2 hd2
  exact richCompare_meets_room (op := .GtE) ⟨_, ho, rfl⟩ ⟨_, ho2, rfl⟩ PySem.F.slot_tuple_ge PySem.F.entry_tuple_ge (PySem.F.args_tuple_ge_2 _ _) (tuple_ge (intsAre_of r1) (intsAre_of r2)) ⟨ho, ho2, show Value.bool _ ≠ Value.notImplemented ∧ _ from ⟨(fun z => nomatch z), ⟨.bl _, H, I, rfl, q⟩⟩⟩ hu
theorem op_neT (hu : X.A.units < cLine) : OpR X (compareOp .NotEq) (rOrdT X.K lexNe) := by
  intro pins s σ H x y v u Q I rx ry h
  obtain ⟨a, b, ns, ms, rfl, rfl, ha, hb, q⟩ := h
  cases rx
  cases ry
  obtain ⟨its, r1, p1, _⟩ := I.tuple ha
  obtain ⟨its2, r2, p2, _⟩ := I.tuple hb
  obtain ⟨⟨cls, dd, data, sl⟩, ho, hc, n, hd⟩ := id p1
  obtain ⟨⟨cls2, dd2, data2, sl2⟩, ho2, hc2, n2, hd2⟩ := id p2
  simp only at hc hd hc2 hd2
  subst hc hd hc2 hd2
  exact richCompare_meets_room (op := .NotEq) ⟨_, ho, rfl⟩ ⟨_, ho2, rfl⟩ PySem.F.slot_tuple_ne PySem.F.entry_tuple_ne (PySem.F.args_tuple_ne_2 _ _) (tuple_ne (intsAre_of r1) (intsAre_of r2)) ⟨ho, ho2, show Value.bool _ ≠ Value.notImplemented ∧ _ from ⟨(fun z => nomatch z), ⟨.bl _, H, I, rfl, q⟩⟩⟩ hu
end
end LwT

namespace L2
open PySem PySem.Spec PyProof.Rows

/-! ### lists of pairs as tables -/
section
variable {κ : Type} [DecidableEq κ]
def valV (kvs : List (κ × V)) (k : κ) : Option V := (kvs.find? fun kv => decide (kv.1 = k)).map (·.2)
/-- in its place, or at the end -/
def putK (kvs : List (κ × V)) (k : κ) (v : V) : List (κ × V) :=
  if (kvs.any fun kv => decide (kv.1 = k)) = true then kvs.map (fun kv => if kv.1 = k then (kv.1, v) else kv) else kvs ++ [(k, v)]
def dropK (kvs : List (κ × V)) (k : κ) : List (κ × V) := kvs.filter fun kv => decide (kv.1 ≠ k)

theorem valV_pos {p : κ × V} {r : List (κ × V)} {k : κ} (e : p.1 = k) : valV (p :: r) k = some p.2 := by simp [valV, List.find?_cons, e]
theorem valV_neg {p : κ × V} {r : List (κ × V)} {k : κ} (e : ¬ p.1 = k) : valV (p :: r) k = valV r k := by simp [valV, List.find?_cons, e]
theorem valV_any (k : κ) : ∀ kvs : List (κ × V), (kvs.any fun kv => decide (kv.1 = k)) = (valV kvs k).isSome
  | [] => rfl
  | p :: r => by
    rw [List.any_cons]
    by_cases e : p.1 = k
    · simp only [valV_pos e, decide_eq_true e, Bool.true_or, Option.isSome_some]
    · rw [valV_neg e, decide_eq_false e, Bool.false_or]; exact valV_any k r
theorem length_putK (kvs : List (κ × V)) (k : κ) (v : V) : (putK kvs k v).length ≤ kvs.length + 1 := by
  unfold putK
  split
  · rw [List.length_map]; omega
  · rw [List.length_append, List.length_cons, List.length_nil]; omega

theorem RelO.isSome_eq {o : Option V} {u : Option Value} (r : RelO o u) : o.isSome = u.isSome := by
  cases o with
  | none => cases u with
    | none => rfl
    | some _ => exact (show False from r).elim
  | some _ => cases u with
    | none => exact (show False from r).elim
    | some _ => rfl
theorem RelO.getD {o : Option V} {u : Option Value} {d : V} {d' : Value} (r : RelO o u) (rd : RelV d d') : RelV (o.getD d) (u.getD d') := by
  cases o with
  | none => cases u with
    | none => exact rd
    | some _ => exact (show False from r).elim
  | some _ => cases u with
    | none => exact (show False from r).elim
    | some _ => exact r

/-- raw tables of the same keys -/
theorem KV.val {kvs : List (κ × V)} {vs : List (κ × Value)} (r : KV kvs vs) (k : κ) : RelO (valV kvs k) (valueAt vs k) := by
  unfold KV at r
  induction r with
  | nil => exact True.intro
  | @cons p q ps qs h t ih =>
    obtain ⟨h1, h2⟩ := h
    by_cases e : p.1 = k
    · have e' : q.1 = k := h1.symm.trans e
      have b : valueAt (q :: qs) k = some q.2 := by simp [valueAt, List.find?_cons, e']
      rw [valV_pos e, b]; exact h2
    · have e' : ¬ q.1 = k := fun z => e (h1.trans z)
      have b : valueAt (q :: qs) k = valueAt qs k := by simp [valueAt, List.find?_cons, e']
      rw [valV_neg e, b]; exact ih
theorem KV.any {kvs : List (κ × V)} {vs : List (κ × Value)} (r : KV kvs vs) (k : κ) : (kvs.any fun kv => decide (kv.1 = k)) = vs.any fun kv => decide (kv.1 = k) := by
  unfold KV at r
  induction r with
  | nil => rfl
  | cons h t ih => rw [List.any_cons, List.any_cons, ih, h.1]
theorem KV.repl {kvs : List (κ × V)} {vs : List (κ × Value)} (r : KV kvs vs) (k : κ) {y : V} {u : Value} (ry : RelV y u) :
    KV (kvs.map fun kv => if kv.1 = k then (kv.1, y) else kv) (vs.map fun kv => if kv.1 = k then (kv.1, u) else kv) := by
  unfold KV at r ⊢
  induction r with
  | nil => exact .nil
  | @cons p q ps qs h t ih =>
    rw [List.map_cons, List.map_cons]
    refine .cons ?_ ih
    obtain ⟨h1, h2⟩ := h
    by_cases e : p.1 = k
    · rw [if_pos e, if_pos (h1.symm.trans e)]; exact ⟨h1, ry⟩
    · rw [if_neg e, if_neg (fun z => e (h1.trans z))]; exact ⟨h1, h2⟩
theorem KV.put {kvs : List (κ × V)} {vs : List (κ × Value)} (r : KV kvs vs) (k : κ) {y : V} {u : Value} (ry : RelV y u) : KV (putK kvs k y) (stored vs k u) := by
  unfold putK stored
  rw [r.any k]
  by_cases e : (vs.any fun kv => decide (kv.1 = k)) = true
  · rw [if_pos e, if_pos e]; exact r.repl k ry
  · rw [if_neg e, if_neg e]; exact Paired.snoc r ⟨rfl, ry⟩
theorem KV.length {kvs : List (κ × V)} {vs : List (κ × Value)} (r : KV kvs vs) : kvs.length = vs.length := Paired.length r
theorem dropK_le (kvs : List (κ × V)) (k : κ) : (dropK kvs k).length ≤ kvs.length := List.length_filter_le _ _
end


/-! ### a tracked dict, its keys ints and texts or tuples of these -/
theorem kV_is {P : Program} {w : World} {k : Key} {u : Value} (r : RelV (kV k) u) : (mixKind P w).is k u = true := by
  cases k with
  | inl i => obtain ⟨t, e⟩ := (show ∃ t, u = Value.int i t from r); subst e; exact mixKind_int P w i t
  | inr x => obtain ⟨t, e⟩ := (show ∃ t, u = Value.str x t from r); subst e; exact mixKind_str P w x t
theorem items_are {P : Program} {w : World} : ∀ {ks : List Key} {us : List Value}, Vals (ks.map kV) us → ItemsAre (mixKind P w) ks us
  | [], _, r => by rw [List.map_nil] at r; cases r; exact .nil
  | k :: ks, _, r => by
    rw [List.map_cons] at r
    cases r with
    | cons h t => exact .cons (kV_is h) (items_are t)

/-- raw entries of a dict with tuple keys -/
abbrev KT (H : Hp) : List (List Key × V) → List (List Key × Addr × Value) → Prop := Paired fun p q => p.1 = q.1 ∧ H q.2.1 = some (.tup (p.1.map kV)) ∧ RelV p.2 q.2.2
theorem KT.val {H : Hp} {kvs : List (List Key × V)} {xs : List (List Key × Addr × Value)} (r : KT H kvs xs) (k : List Key) : RelO (valV kvs k) ((atKey xs k).map (·.2)) := by
  induction r with
  | nil => exact True.intro
  | @cons p q ps qs h t ih =>
    obtain ⟨h1, _, h2⟩ := h
    by_cases e : p.1 = k
    · have e' : q.1 = k := h1.symm.trans e
      have b : atKey (q :: qs) k = some q.2 := by simp [atKey, List.find?_cons, e']
      rw [valV_pos e, b]; exact h2
    · have e' : ¬ q.1 = k := fun z => e (h1.trans z)
      have b : atKey (q :: qs) k = atKey qs k := by simp [atKey, List.find?_cons, e']
      rw [valV_neg e, b]; exact ih
theorem KT.repl {H : Hp} {kvs : List (List Key × V)} {xs : List (List Key × Addr × Value)} (r : KT H kvs xs) (k : List Key) {y : V} {u : Value} (ry : RelV y u) :
    KT H (kvs.map fun kv => if kv.1 = k then (kv.1, y) else kv) (xs.map (putAt k u)) := by
  induction r with
  | nil => exact .nil
  | @cons p q ps qs h t ih =>
    rw [List.map_cons, List.map_cons]
    refine .cons ?_ ih
    obtain ⟨h1, h2, h3⟩ := h
    unfold putAt
    by_cases e : p.1 = k
    · rw [if_pos e, if_pos (h1.symm.trans e)]; exact ⟨h1, h2, ry⟩
    · rw [if_neg e, if_neg (fun z => e (h1.trans z))]; exact ⟨h1, h2, h3⟩
theorem KT.put {H : Hp} {kvs : List (List Key × V)} {xs : List (List Key × Addr × Value)} (r : KT H kvs xs) (k : List Key) {b : Addr} {y : V} {u : Value} (hb : H b = some (.tup (k.map kV))) (ry : RelV y u) :
    KT H (putK kvs k y) (storedH xs k b u) := by
  have e : (kvs.any fun kv => decide (kv.1 = k)) = (atKey xs k).isSome := by
    rw [valV_any, (r.val k).isSome_eq, Option.isSome_map]
  unfold putK storedH
  rw [e]
  by_cases q : (atKey xs k).isSome = true
  · rw [if_pos q, if_pos q]; exact r.repl k ry
  · rw [if_neg q, if_neg q]; exact Paired.snoc r ⟨rfl, hb, ry⟩
theorem KT.keeps {H H' : Hp} {kvs : List (List Key × V)} {xs : List (List Key × Addr × Value)} (r : KT H kvs xs) (ht : ∀ b ys, H b = some (.tup ys) → H' b = some (.tup ys)) : KT H' kvs xs :=
  Paired.mapP r fun _ _ z => ⟨z.1, ht _ _ z.2.1, z.2.2⟩

section
variable {P : Program} {w : World} {H : Hp} {h : Heap} {a : Addr}
theorem rd_of {u : HO} (ok : HOk P w H h) (e : Rd H a u) : ObjOk P w H h a u := e.ok ok
theorem dk_rd {kvs : List (Key × V)} (ok : HOk P w H h) (e : Rd H a (.dK kvs)) : kvs.length ≤ sizeLine ∧ (a == sysModules) = false ∧ ∃ vs, KV kvs vs ∧ h.DictOf (mixKind P w) a vs :=
  show ObjOk P w H h a (.dK kvs) from rd_of ok e
theorem dk_of {kvs : List (Key × V)} (ok : HOk P w H h) (e : H a = some (.dK kvs)) : kvs.length ≤ sizeLine ∧ (a == sysModules) = false ∧ ∃ vs, KV kvs vs ∧ h.DictOf (mixKind P w) a vs := dk_rd ok (.inl e)
/-- a tracked tuple of ints and texts is a key -/
theorem key_of {ks : List Key} (ok : HOk P w H h) (e : H a = some (.tup (ks.map kV))) : (tupleKind (mixKind P w)).is h ks a := by
  obtain ⟨_, its, r, o, h1, h2, n, h3⟩ := (show ObjOk P w H h a (.tup (ks.map kV)) from ok a _ e)
  exact ⟨o, its.toArray, n, h1, h2, h3, by simpa using items_are r⟩
theorem dt_rd {kvs : List (List Key × V)} (ok : HOk P w H h) (e : Rd H a (.dT kvs)) : kvs.length ≤ sizeLine ∧ (a == sysModules) = false ∧
    ∃ xs, KT H kvs xs ∧ h.DictOfH (tupleKind (mixKind P w)) a xs := by
  obtain ⟨z, y, xs, r, o, es, ep, h1, h2, h3, h4, h5⟩ := (show ObjOk P w H h a (.dT kvs) from rd_of ok e)
  refine ⟨z, y, xs, r, o, es, ep, h1, h2, h3, h4, fun x hx => ?_, h5⟩
  have all : ∀ {l : List (List Key × V)} {m : List (List Key × Addr × Value)}, KT H l m → ∀ x ∈ m, (tupleKind (mixKind P w)).is h x.1 x.2.1 := by
    intro l m q
    induction q with
    | nil => intro x hx; exact nomatch hx
    | @cons p q ps qs hq t ih =>
      intro x hx
      rcases List.mem_cons.mp hx with e | hx
      · subst e
        exact key_of ok (by rw [← hq.1]; exact hq.2.1)
      · exact ih x hx
  exact all r x hx
theorem dt_of {kvs : List (List Key × V)} (ok : HOk P w H h) (e : H a = some (.dT kvs)) : kvs.length ≤ sizeLine ∧ (a == sysModules) = false ∧
    ∃ xs, KT H kvs xs ∧ h.DictOfH (tupleKind (mixKind P w)) a xs := dt_rd ok (.inl e)
end

/-- what the dict at a holds at the key y -/
def DGet (H : Hp) (a : Addr) (y : V) (r : Option V) : Prop :=
  (∃ kvs k, Rd H a (.dK kvs) ∧ y = kV k ∧ r = valV kvs k) ∨ ∃ kvs k b, Rd H a (.dT kvs) ∧ y = .ref b ∧ H b = some (.tup (k.map kV)) ∧ r = valV kvs k
/-- the heap behind a[y] = v -/
def DPut (H : Hp) (a : Addr) (y v : V) (H' : Hp) : Prop :=
  (∃ kvs k, H a = some (.dK kvs) ∧ y = kV k ∧ kvs.length < sizeLine ∧ H' = upd H a (.dK (putK kvs k v))) ∨
  ∃ kvs k b, H a = some (.dT kvs) ∧ y = .ref b ∧ H b = some (.tup (k.map kV)) ∧ kvs.length < sizeLine ∧ H' = upd H a (.dT (putK kvs k v))
theorem DGet.t {H : Hp} {a b : Addr} {kvs : List (List Key × V)} {k : List Key} (e : H a = some (.dT kvs)) (eb : H b = some (.tup (k.map kV))) : DGet H a (.ref b) (valV kvs k) := .inr ⟨kvs, k, b, .inl e, rfl, eb, rfl⟩
theorem DPut.t {H : Hp} {a b : Addr} {kvs : List (List Key × V)} {k : List Key} {v : V} (e : H a = some (.dT kvs)) (eb : H b = some (.tup (k.map kV))) (hl : kvs.length < sizeLine) :
    DPut H a (.ref b) v (upd H a (.dT (putK kvs k v))) := .inr ⟨kvs, k, b, e, rfl, eb, hl, rfl⟩


section
variable {X : Cx} {pins : List (Addr × Obj)} {σ : St} {H : Hp} {s : Shared} {a : Addr} {y v : V} {u r : Value} {o : Option V} {A : Around} {E : Value → Shared → Prop}

theorem Inv.big (I : Inv X pins σ H s) : sysModules < s.heap.objs.size := by
  have h : mainGlobals < s.heap.objs.size := (I.mod.glob.keeps I.bk).lt
  exact Nat.lt_trans (by decide) h

/-- d[y], there -/
theorem d_getItem {Q : Value → Shared → Prop} (hu : A.units + 1 < cLine) (I : Inv X pins σ H s) (g : DGet H a y (some v)) (ry : RelV y u) (h : ∀ w' s', Inv X pins σ H s' → RelV v w' → Q w' s') :
    wpAny (model X.prog X.w) A (getItem (.ref a) u) Q E s := by
  rcases g with ⟨kvs, k, e, ey, l⟩ | ⟨kvs, k, b, e, ey, eb, l⟩
  · subst ey
    obtain ⟨z, hd, vs, rel, dd⟩ := dk_rd I.hok e
    obtain ⟨w', hw, rw'⟩ := RelO.some_of (v := v) (o := valueAt vs k) (by rw [l]; exact rel.val k)
    exact wpAny_getItem_of (kV_is ry) dd.mapOf hw (h w' _ (I.tok _) rw')
  · subst ey
    cases (show u = Value.ref b from ry)
    obtain ⟨z, hd, xs, rel, dd⟩ := dt_rd I.hok e
    obtain ⟨w', hw, rw'⟩ := RelO.some_of (v := v) (o := (atKey xs k).map (·.2)) (by rw [l]; exact rel.val k)
    obtain ⟨p, hp, hp2⟩ := Option.map_eq_some_iff.mp hw
    refine wpAny_getItem_heap (tupleKind_room_in1 hu) (key_of I.hok eb) dd hp ?_
    rw [hp2]
    exact h w' _ (I.tok _) rw'
/-- y in d -/
theorem d_in {Q : Value → Shared → Prop} (hu : A.units + 1 < cLine) (I : Inv X pins σ H s) (g : DGet H a y o) (ry : RelV y u) (h : ∀ s', Inv X pins σ H s' → Q (.bool o.isSome) s') :
    wpAny (model X.prog X.w) A (compareOp .In u (.ref a)) Q E s := by
  rcases g with ⟨kvs, k, e, ey, l⟩ | ⟨kvs, k, b, e, ey, eb, l⟩
  · subst ey
    obtain ⟨z, hd, vs, rel, dd⟩ := dk_rd I.hok e
    refine wpAny_in_of (kV_is ry) hd dd.mapOf ?_
    rw [← (rel.val k).isSome_eq, ← l]
    exact h _ (I.tok _)
  · subst ey
    cases (show u = Value.ref b from ry)
    obtain ⟨z, hd, xs, rel, dd⟩ := dt_rd I.hok e
    refine wpAny_in_heap (tupleKind_room_in1 hu) (key_of I.hok eb) hd dd ?_
    have q := (rel.val k).isSome_eq
    rw [Option.isSome_map] at q
    rw [← q, ← l]
    exact h _ (I.tok _)
/-- a dict's object is replaced -/
theorem d_write {h' : Heap} {t' : Nat} {ob : HO} (I : Inv X pins σ H s) (mu : Mut (H a)) (hs : Heap.SameBut a s.heap h') (he : ∃ q, h'.get? a = some q) (new : ObjOk X.prog X.w (upd H a ob) h' a ob) :
    Inv X pins σ (upd H a ob) { s with heap := h', toks := t' } :=
  I.write (x := a) (e := a) mu (.inl rfl) (fun b q hb z => (hs.2 b hb).trans z) he new
theorem dk_new {P : Program} {w : World} {H' : Hp} {h' : Heap} {kvs : List (Key × V)} {vs : List (Key × Value)} (z : kvs.length ≤ sizeLine) (hd : (a == sysModules) = false) (rel : KV kvs vs) (dd : h'.DictOf (mixKind P w) a vs) :
    ObjOk P w H' h' a (.dK kvs) := ⟨z, hd, vs, rel, dd⟩
/-- d[y] = v -/
theorem d_setItem {H' : Hp} {Q : Unit → Shared → Prop} (hu : A.units + 1 < cLine) (I : Inv X pins σ H s) (g : DPut H a y v H') (ry : RelV y u) (rv : RelV v r) (h : ∀ s', Inv X pins σ H' s' → Q () s') :
    wpAny (model X.prog X.w) A (setItem (.ref a) u r) Q E s := by
  rcases g with ⟨kvs, k, e, ey, l, eH⟩ | ⟨kvs, k, b, e, ey, eb, l, eH⟩
  · subst ey eH
    obtain ⟨z, hd, vs, rel, dd⟩ := dk_of I.hok e
    have hz : vs.length ≤ sizeLine := by rw [← rel.length]; exact z
    have hl : (putK kvs k v).length ≤ sizeLine := by have := length_putK kvs k v; omega
    refine wpAny_setItem_pairs (hsz := hz) (kV_is ry) dd fun h' dd' hs => h _ ?_
    have he : ∃ q, h'.get? a = some q := let ⟨q, _, _, hq, _⟩ := dd'; ⟨q, hq⟩
    exact d_write I (by rw [e]; exact True.intro) hs he (dk_new hl hd (rel.put k rv) dd')
  · subst ey eH
    cases (show u = Value.ref b from ry)
    obtain ⟨z, hd, xs, rel, dd⟩ := dt_of I.hok e
    have hz : xs.length ≤ sizeLine := by rw [← Paired.length rel]; exact z
    have hl : (putK kvs k v).length ≤ sizeLine := by have := length_putK kvs k v; omega
    refine wpAny_setItem_heap (hsz := hz) (tupleKind_room_in1 hu) (key_of I.hok eb) dd fun h' dd' hs => h _ ?_
    obtain ⟨q, es, ep, hq, h2, h3, h4, _, h5⟩ := dd'
    refine d_write I (by rw [e]; exact True.intro) hs ⟨q, hq⟩ ⟨hl, hd, _, (rel.put k eb rv).keeps fun c ys ec => ?_, q, es, ep, hq, h2, h3, h4, h5⟩
    rw [upd_ne (ne_of ec e (fun z => nomatch z))]
    exact ec
end

section
variable {X : Cx} {pins : List (Addr × Obj)} {σ : St} {H : Hp} {s : Shared} {a : Addr} {kvs : List (Key × V)} {k : Key} {u : Value} {A : Around} {E : Value → Shared → Prop}
end


/-! ### readings and rules -/
/-- the element of a subscription, not a slice -/
def NoSl (i : Expr) : Prop := ∀ ov iv, subscripted i false ov iv = operate [ov, iv] (getItem ov iv)
theorem subD_of {prog : Program} {w : World} {A : Around} {E : Value → Shared → Prop} {s : Shared} {env : Env} {value slice : Expr} {pos : Pos} {T id : String} {Q : Value → Shared → Prop}
    (hl : typeLookup (.type T) "__getitem__" = pure (some (.builtin id))) (hs : NoSl slice)
    (h : wpAny (model prog w) A (eval value env) (fun o s₁ => wpAny (model prog w) A (eval slice env) (fun i s₂ => s₂.TypeIs o T ∧ wpAny (model prog w) A (getItem o i) Q E s₂) E s₁) E s) :
    wpAny (model prog w) A (eval (.Subscript value slice pos) env) Q E s := by
  refine Subscript_ (wpAny_mono h (fun o s₁ h₁ => wpAny_mono h₁ (fun i s₂ h₂ => ?_) fun _ _ x => x) fun _ _ x => x)
  obtain ⟨hT, h₂⟩ := h₂
  unfold subscriptTail
  refine wpAny_bind ?_
  rw [getitemInPython_of_ne hT.not_modules]
  refine wpAny_bind (wpAny_specialOf hT hl ?_)
  have fin : wpAny (model prog w) A (subscripted slice false o i) (fun r s₃ => wpAny (model prog w) A (letTemporaryGo value o r >>= fun _ => pure r) Q E s₃) E s₂ := by
    rw [hs o i]
    exact wpAny_operating (wpAny_mono h₂ (fun r s₃ h₃ => wpAny_bind (wpAny_letTemporaryGo (wpAny_pure h₃))) fun _ _ x => x)
  first
    | exact wpAny_pure (wpAny_bind fin)
    | exact wpAny_bind (wpAny_pure (wpAny_bind fin))
    | exact wpAny_bind fin

theorem dict_typeIs {X : Cx} {pins : List (Addr × Obj)} {σ : St} {H : Hp} {s : Shared} {a : Addr} {y : V} {o : Option V} (I : Inv X pins σ H s) (g : DGet H a y o) : s.TypeIs (.ref a) "dict" := by
  rcases g with ⟨kvs, k, e, _, _⟩ | ⟨kvs, k, b, e, _, _, _⟩
  · obtain ⟨_, _, vs, _, dd⟩ := dk_rd I.hok e
    exact dd.typeIs
  · obtain ⟨_, _, xs, _, dd⟩ := dt_rd I.hok e
    exact dd.typeIs

/-- d[y] -/
def tDGet (td ty : TE) : TE := fun σ H Q => td σ H fun x H1 => ty σ H1 fun y H2 => ∃ a v, x = .ref a ∧ DGet H2 a y (some v) ∧ Q v H2
/-- y in d, y not in d -/
def tDIn (ty td : TE) : TE := fun σ H Q => ty σ H fun y H1 => td σ H1 fun x H2 => ∃ a o, x = .ref a ∧ DGet H2 a y o ∧ Q (.bl o.isSome) H2
/-- d[y] = v -/
def sDPut (td ty tv : TE) : TS := fun D σ H => tv σ H fun v H1 => td σ H1 fun x H2 => ty σ H2 fun y H3 => ∃ a H4, x = .ref a ∧ DPut H3 a y v H4 ∧ D.nx σ H4

section
variable {X : Cx} {o i e value : Expr} {pos pos' tpos : Pos} {td ty tv : TE}
theorem pe_dget (hu : X.A.units + 1 < cLine) (ho : PE X o td) (hi : PE X i ty) (hs : NoSl i) : PE X (.Subscript o i pos) (tDGet td ty) := by
  intro pins s σ H Q I h
  refine subD_of PySem.F.slot_dict_getitem.lookup hs (thn (ho pins s σ H _ I h) fun u s1 ⟨x, H1, I1, rx, q1⟩ => thn (hi pins s1 σ H1 _ I1 q1) fun iv s2 ⟨y, H2, I2, ry, a, v, ex, g, q2⟩ => ?_)
  subst ex
  obtain rfl : u = Value.ref a := rx
  exact ⟨dict_typeIs I2 g, d_getItem hu I2 g ry fun w' s3 I3 rw' => ⟨v, H2, I3, rw', q2⟩⟩
theorem pc_din (hu : X.A.units + 1 < cLine) (hi : PE X i ty) (ho : PE X o td) : PC X .In i o (tDIn ty td) := by
  intro pins s σ H Q I h
  refine thn (hi pins s σ H _ I h) fun iv s1 ⟨y, H1, I1, ry, q1⟩ => thn (ho pins s1 σ H1 _ I1 q1) fun u s2 ⟨x, H2, I2, rx, a, ov, ex, g, q2⟩ => ?_
  subst ex
  obtain rfl : u = Value.ref a := rx
  exact d_in hu I2 g ry fun s3 I3 => ⟨.bl ov.isSome, H2, I3, rfl, q2⟩
theorem ps_dput (hu : X.A.units + 1 < cLine) (ho : PE X o td) (hi : PE X i ty) (hv : PE X value tv) (hs : swapsWith value (some (.Subscript o i pos')) pos.line X.env = pure false) :
    PS X (.Assign [.Subscript o i pos'] value pos) (sDPut td ty tv) := by
  intro pins s σ H D I h
  refine wpAny_Assign_Subscript (thn (hv pins s σ H _ I h) fun r s1 ⟨v, H1, I1, rv, q1⟩ => thn (ho pins s1 σ H1 _ I1 q1) fun u s2 ⟨x, H2, I2, rx, q2⟩ => thn (hi pins s2 σ H2 _ I2 q2) fun iv s3 ⟨y, H3, I3, ry, a, H4, ex, g, q3⟩ => ?_) hs
  subst ex
  obtain rfl : u = Value.ref a := rx
  exact d_setItem hu I3 g ry rv fun s4 I4 => ⟨σ, H4, I4, q3⟩
end


/-! ### displays -/
theorem dt_empty {P : Program} {w : World} {H : Hp} (h : Heap) (hb : sysModules < h.objs.size) : ObjOk P w H (h.push { cls := .type "dict", data := .dict #[] }) h.objs.size (.dT []) :=
  ⟨Nat.zero_le _, beq_eq_false_iff_ne.mpr (Ne.symm (Nat.ne_of_lt hb)), [], .nil, _, #[], 0, Heap.get?_push_size _ rfl, ⟨rfl, rfl, rfl⟩, rfl, rfl, List.nodup_nil⟩
def tDNewT : TE := fun _ H Q => ∀ p, H p = none → Q (.ref p) (upd H p (.dT []))
section
variable {X : Cx} {pos : Pos}
theorem pe_dnewT : PE X (.Dict [] [] pos) tDNewT := fun pins s σ H Q I h =>
  wpAny_Dict_empty ⟨.ref s.heap.objs.size, _, I.laid (a := s.heap.objs.size) (o := .dT []) (t' := s.toks) (fun _ _ q => Heap.get?_push_of_some _ q) (Nat.le_refl _) (dt_empty s.heap I.big), rfl, h _ (I.hok.fresh (Nat.le_refl _))⟩
end




/-! ### methods -/
/-- a method call o.m(e) of a built-in, with one argument: what must be seen of the text -/
structure M1 (X : Cx) (o : Expr) (m : Str) (apos : Pos) (e : Expr) (cpos : Pos) : Prop where
  base : attributeBase o m X.env (eval o X.env) = eval o X.env
  few : ((backTo cpos (starEach [e] X.env)).all (fun x => !x.1) && (backToKw cpos (keywordEach [] X.env)).all (fun x => x.1.isSome)
    && decide (([e] : List Expr).length + ([] : List Keyword).length + (if ([] : List Keyword).isEmpty then 0 else 1) < 30)) = true
  line : (apos.endLine == cpos.line) = true
  trees : backTo cpos (starEach [e] X.env) = [(false, eval e X.env)]
structure M2 (X : Cx) (o : Expr) (m : Str) (apos : Pos) (e f : Expr) (cpos : Pos) : Prop where
  base : attributeBase o m X.env (eval o X.env) = eval o X.env
  few : ((backTo cpos (starEach [e, f] X.env)).all (fun x => !x.1) && (backToKw cpos (keywordEach [] X.env)).all (fun x => x.1.isSome)
    && decide (([e, f] : List Expr).length + ([] : List Keyword).length + (if ([] : List Keyword).isEmpty then 0 else 1) < 30)) = true
  line : (apos.endLine == cpos.line) = true
  trees : backTo cpos (starEach [e, f] X.env) = [(false, eval e X.env), (false, eval f X.env)]

/-- a is a dict, whatever its keys -/
def IsD (H : Hp) (a : Addr) : Prop := (∃ kvs, Rd H a (.dK kvs)) ∨ ∃ kvs, Rd H a (.dT kvs)
theorem isD_at {X : Cx} {pins : List (Addr × Obj)} {σ : St} {H : Hp} {s : Shared} {a : Addr} (I : Inv X pins σ H s) (d : IsD H a) :
    s.TypeIs (.ref a) "dict" ∧ (∀ b, Value.ref a = .ref b → ∃ ob, s.heap.get? b = some ob ∧ ob.dict = none) ∧ (a == sysModules) = false := by
  rcases d with ⟨kvs, e⟩ | ⟨kvs, e⟩
  · obtain ⟨_, hd, vs, _, dd⟩ := dk_rd I.hok e
    refine ⟨dd.typeIs, fun b q => ?_, hd⟩
    cases q
    obtain ⟨ob, _, _, h1, h2, _⟩ := dd
    exact ⟨ob, h1, h2.2.1⟩
  · obtain ⟨_, hd, xs, _, dd⟩ := dt_rd I.hok e
    refine ⟨dd.typeIs, fun b q => ?_, hd⟩
    cases q
    obtain ⟨ob, _, _, h1, h2, _⟩ := dd
    exact ⟨ob, h1, h2.2.1⟩

section
variable {X : Cx} {pins : List (Addr × Obj)} {σ : St} {H : Hp} {s : Shared} {a : Addr} {y d : V} {u r : Value} {o : Option V} {A : Around} {E : Value → Shared → Prop}
/-- d.get(y, x) -/
theorem d_get2 {Q : Value → Shared → Prop} (hu : A.units + 1 < cLine) (I : Inv X pins σ H s) (g : DGet H a y o) (ry : RelV y u) (rd : RelV d r) (h : ∀ w' s', Inv X pins σ H s' → RelV (o.getD d) w' → Q w' s') :
    wpAny (model X.prog X.w) A (call (.builtin "dict.get") [.ref a, u, r]) Q E s := by
  rcases g with ⟨kvs, k, e, ey, l⟩ | ⟨kvs, k, b, e, ey, eb, l⟩
  · subst ey
    obtain ⟨z, hd, vs, rel, dd⟩ := dk_rd I.hok e
    refine call_meetsIn PySem.F.slot_dict_get dd.typeIs PySem.F.entry_dict_get (PySem.F.args_dict_get_3 _ _ _) (meets_dict_get_default (mixKind X.prog X.w) a (kV_is ry) hd r) ⟨_, dd.mapOf, h _ _ (I.tok _) ?_⟩
    rw [l]
    exact (rel.val k).getD rd
  · subst ey
    cases (show u = Value.ref b from ry)
    obtain ⟨z, hd, xs, rel, dd⟩ := dt_rd I.hok e
    refine call_meetsIn PySem.F.slot_dict_get dd.typeIs PySem.F.entry_dict_get (PySem.F.args_dict_get_3 _ _ _) (meetsH_dict_get_default (tupleKind (mixKind X.prog X.w)) a b hd r) ⟨tupleKind_room_in1 hu, k, xs, key_of I.hok eb, dd, h _ _ (I.tok _) ?_⟩
    rw [l]
    exact (rel.val k).getD rd
end

def tDGet2 (td ty tx : TE) : TE := fun σ H Q => td σ H fun x H1 => ∃ a, x = .ref a ∧ IsD H1 a ∧ ty σ H1 fun y H2 => tx σ H2 fun z H3 => ∃ o, DGet H3 a y o ∧ Q (o.getD z) H3
section
variable {X : Cx} {o e f : Expr} {apos cpos : Pos} {td ty tx : TE}
theorem pe_dget2 (hu : X.A.units + 1 < cLine) (ho : PE X o td) (he : PE X e ty) (hf : PE X f tx) (m : M2 X o "get" apos e f cpos) : PE X (.Call (.Attribute o "get" apos) [e, f] [] cpos) (tDGet2 td ty tx) := by
  intro pins s σ H Q I h
  refine wpAny_Call_method m.base m.few m.line PySem.F.plainAttrs_dict PySem.F.slot_dict_get PySem.F.type_dict_get (thn (ho pins s σ H _ I h) fun u s1 ⟨x, H1, I1, rx, a, ex, d, q1⟩ => ?_)
  subst ex
  obtain rfl : u = Value.ref a := rx
  obtain ⟨t1, t2, _⟩ := isD_at I1 d
  refine ⟨t1, t2, ?_⟩
  rw [m.trees]
  refine Calls.callWith_builtin rfl (Calls.evalArgs_plain (Calls.spliced_cons (thn (he pins s1 σ H1 _ I1 q1) fun iv s2 ⟨y, H2, I2, ry, q2⟩ =>
    Calls.spliced_cons (thn (hf pins s2 σ H2 _ I2 q2) fun fv s3 ⟨z, H3, I3, rz, ov, g, q3⟩ => Calls.spliced_nil ?_))))
  exact d_get2 hu I3 g ry rz fun w' s4 I4 rw' => ⟨_, H3, I4, rw', q3⟩
end

/-! ### dict(d): a copy -/
section
variable {X : Cx} {pins : List (Addr × Obj)} {σ : St} {H : Hp} {s : Shared} {a : Addr} {kvs : List (Key × V)} {A : Around} {E : Value → Shared → Prop}
end


section
variable {X : Cx} {pins : List (Addr × Obj)} {σ : St} {H : Hp} {s : Shared} {a : Addr} {y : V} {u : Value} {A : Around} {E : Value → Shared → Prop}
end
end L2
namespace L2
open PySem PySem.Spec PyProof.Rows
section
variable {X : Cx}
end
end L2
namespace L2
open PySem PySem.Spec PyProof.Rows

/-! ### a dict's pairs: keys that differ -/
section
variable {κ : Type} [DecidableEq κ]
end
end L2

namespace LwD
open PySem PySem.Spec PyProof.Rows L2
/-! ### d.pop(k), the key a tuple, there -/
theorem KTdrop {H : Hp} {kvs : List (List Key × V)} {xs : List (List Key × Addr × Value)} (r : KT H kvs xs) (k : List Key) : KT H (dropK kvs k) (xs.filter fun x => decide (x.1 ≠ k)) := by
  induction r with
  | nil => exact .nil
  | @cons p q ps qs h t ih =>
    unfold dropK at ih ⊢
    rw [List.filter_cons, List.filter_cons]
    by_cases e : p.1 = k
    · rw [if_neg (by simp [e]), if_neg (by rw [h.1] at e; simp [e])]
      exact ih
    · rw [if_pos (by simp [e]), if_pos (by rw [h.1] at e; simp [e])]
      exact .cons h ih
theorem map_erase {α β : Type} (f : α → β) : ∀ (xs : List α) (j : Nat), (xs.map f).eraseIdx j = (xs.eraseIdx j).map f
  | [], _ => rfl
  | _ :: _, 0 => rfl
  | x :: r, j + 1 => by rw [List.map_cons, List.eraseIdx_cons_succ, List.eraseIdx_cons_succ, List.map_cons, map_erase f r j]
theorem erase_filter {K : Type} [DecidableEq K] {k : K} : ∀ {xs : List (K × Addr × Value)} {j : Nat} {p : Addr × Value}, (xs.map (·.1)).Nodup → xs[j]? = some (k, p) → xs.eraseIdx j = xs.filter fun x => decide (x.1 ≠ k)
  | [], _, _, _, e => by simp at e
  | x :: r, 0, p, hn, e => by
    simp only [List.getElem?_cons_zero, Option.some.injEq] at e
    subst e
    rw [List.map_cons, List.nodup_cons] at hn
    rw [List.eraseIdx_zero, List.tail_cons, List.filter_cons, if_neg (by simp)]
    symm
    rw [List.filter_eq_self]
    intro y hy
    have : y.1 ≠ k := fun z => hn.1 (List.mem_map.mpr ⟨y, hy, z⟩)
    simp [this]
  | x :: r, j + 1, p, hn, e => by
    rw [List.map_cons, List.nodup_cons] at hn
    have e' : r[j]? = some (k, p) := by simpa using e
    have hx : x.1 ≠ k := fun z => hn.1 (z ▸ List.mem_map.mpr ⟨(k, p), List.mem_of_getElem? e', rfl⟩)
    rw [List.eraseIdx_cons_succ, List.filter_cons, if_pos (by simp [hx]), erase_filter hn.2 e']
section
variable {prog : Program} {w : World} {K : Type} [DecidableEq K] {knd : HeapKind prog w K} {A : Around} {E : Value → Shared → Prop} {s : Shared}
theorem takeOut_heap {d a : Addr} {xs : List (K × Addr × Value)} {k : K} {p : Addr × Value} {Q : Option DictEntry → Shared → Prop} (hu : knd.room A) (hkey : knd.is s.heap k a) (hm : s.heap.DictOfH knd d xs) (hz : xs.length ≤ sizeLine) (hp : atKey xs k = some p)
    (hs : ∀ h', h'.DictOfH knd d (xs.filter fun x => decide (x.1 ≠ k)) → Heap.SameBut d s.heap h' → Q (some (entryOfKey knd (k, p))) { s with heap := h', toks := s.toks + knd.draws k }) :
    wpAny (model prog w) A (Builtin.Dict.takeOut d (.ref a)) Q E s := by
  obtain ⟨o, es, ep, ho, hc, hd, he, his, hn⟩ := hm
  have hes : es.size ≤ sizeLine := by rw [size_of_entries he]; exact hz
  unfold Builtin.Dict.takeOut
  try with_reducible refine wpAny_holding ?_
  refine wpAny_bind (knd.pyHash hu hkey (wpAny_bind (wpAny_dictFind_heap (s := { s with toks := s.toks + knd.draws k }) hu hkey ho hd he his hn ?_ ?_)))
  · intro hno
    rw [atKey_none_of_get hno] at hp
    cases hp
  · intro j p' hj
    rw [atKey_of_get hn hj] at hp
    cases hp
    refine wpAny_bind (wpAny_dictEntries (s := { s with toks := s.toks + knd.draws k }) ho hd ?_)
    rw [entry_at he j, hj]
    refine wpAny_bind (wpAny_updateDictKeys (hz := hes) (s := { s with toks := s.toks + knd.draws k }) ho hd (wpAny_pure (hs _ ⟨_, _, ep + 1, Heap.get?_update_self _ ho (Obj.isFreed_of_dict (Obj.data_mapDictKeys hd _)), hc.mapDictKeys _, Obj.data_mapDictKeys hd _, ?_, ?_, ?_⟩ (Heap.SameBut.update ..))))
    · rw [← erase_filter hn hj]
      obtain ⟨l⟩ := es
      simp only at he
      subst he
      show ((List.map (entryOfKey knd) xs).toArray.eraseIdxIfInBounds j).toList = _
      rw [List.eraseIdxIfInBounds_toArray]
      exact map_erase _ xs j
    · intro x hx
      exact knd.keeps (his x (List.mem_filter.mp hx).1) ho hd (Heap.SameBut.update ..)
    · exact hn.sublist (List.filter_sublist.map _)
theorem meets_popT {d a : Addr} {k : K} :
    MeetsIn prog w (Builtin.«dict.pop» ⟨[.ref d, .ref a], []⟩) (fun A R s => ∃ xs p, knd.room A.in1 ∧ knd.is s.heap k a ∧ s.heap.DictOfH knd d xs ∧ xs.length ≤ sizeLine ∧ atKey xs k = some p ∧
      ∀ h', h'.DictOfH knd d (xs.filter fun x => decide (x.1 ≠ k)) → Heap.SameBut d s.heap h' → R (.ok (.ret p.2)) { s with heap := h', toks := s.toks + knd.draws k }) :=
  .of_wp fun A R s ⟨xs, p, hu, hkey, hm, hz, hp, h⟩ => by
    unfold Builtin.«dict.pop»
    refine wpAny_bind ?_
    unfold Builtin.Dict.keyAndDefault
    refine wpAny_bind (wpAny_notOrdered_dict hm.typeIs ?_)
    show wpAny _ _ (pure (d, Value.ref a, none)) _ _ s
    refine wpAny_pure ?_
    obtain ⟨o, es, ep, ho, hc, hd, he, his, hn⟩ := id hm
    have ne : es.isEmpty = false := by
      have e1 := size_of_entries he
      have e2 : xs ≠ [] := fun z => by subst z; cases hp
      have e3 : 0 < xs.length := List.length_pos_iff.mpr e2
      rw [Array.isEmpty_eq_false_iff_exists_mem]
      exact ⟨es[0]'(by omega), Array.getElem_mem _⟩
    have go : wpAny (model prog w) A.in1 (Builtin.Dict.takeOut d (.ref a)) (fun old s' => old = some (entryOfKey knd (k, p)) ∧ R (.ok (.ret p.2)) s') (fun _ _ => False) s :=
      takeOut_heap hu hkey hm hz hp fun h' hm' hs' => ⟨rfl, h h' hm' hs'⟩
    have kp : (keyPart (Value.ref a)).isSome = false := rfl
    simp only [kp, Bool.false_eq_true, if_false]
    refine wpAny_bind (wpAny_dictEntries ho hd ?_)
    rw [ne]
    refine wpAny_bind (wpAny_pure ?_)
    simp only [Bool.false_eq_true, if_false]
    refine wpAny_bind (wpAny_mono go (fun old s' ⟨e1, hR⟩ => ?_) fun _ _ z => z.elim)
    subst e1
    simp only [Option.isNone_some, Bool.false_eq_true, if_false]
    exact wpAny_bind (wpAny_letGo (wpAny_pure ⟨p.2, rfl, hR⟩))
end
section
variable {X : Cx} {pins : List (Addr × Obj)} {σ : L2.St} {H : Hp} {s : Shared} {a b : Addr} {kvs : List (List Key × V)} {k : List Key} {E : Value → Shared → Prop}
theorem d_popT {v : V} {Q : Value → Shared → Prop} (hu : X.A.units + 1 < cLine) (I : Inv X pins σ H s) (e : H a = some (.dT kvs)) (eb : H b = some (.tup (k.map kV))) (l : valV kvs k = some v)
    (h : ∀ w' s', Inv X pins σ (upd H a (.dT (dropK kvs k))) s' → RelV v w' → Q w' s') : wpAny (model X.prog X.w) X.A (call (.builtin "dict.pop") [.ref a, .ref b]) Q E s := by
  obtain ⟨z, hd, xs, rel, dd⟩ := dt_of I.hok e
  have hz : xs.length ≤ sizeLine := by rw [← Paired.length rel]; exact z
  have rv := rel.val k
  rw [l] at rv
  cases hp : atKey xs k with
  | none => rw [hp] at rv; exact rv.elim
  | some p =>
    rw [hp] at rv
    refine call_meetsIn PySem.F.slot_dict_pop dd.typeIs PySem.F.entry_dict_pop (PySem.F.args_dict_pop_2 _ _) (meets_popT (knd := tupleKind (mixKind X.prog X.w)) (k := k)) ⟨xs, p, tupleKind_room_in1 hu, key_of I.hok eb, dd, hz, hp, fun h' dd' hs => h p.2 _ ?_ rv⟩
    obtain ⟨q, es, ep, hq, h2, h3, h4, _, h5⟩ := dd'
    have hl : (dropK kvs k).length ≤ sizeLine := Nat.le_trans (dropK_le kvs k) z
    refine d_write I (by rw [e]; exact True.intro) hs ⟨q, hq⟩ ⟨hl, hd, _, (KTdrop rel k).keeps fun c ys ec => ?_, q, es, ep, hq, h2, h3, h4, h5⟩
    rw [upd_ne (ne_of ec e (fun z => nomatch z))]
    exact ec
variable {o e : Expr} {td ty : TE} {apos cpos : Pos}
def tDPopT (td ty : TE) : TE := fun σ H Q => td σ H fun x H1 => ∃ a, x = .ref a ∧ IsD H1 a ∧ ty σ H1 fun y H2 => ∃ kvs k v b, H2 a = some (.dT kvs) ∧ y = .ref b ∧ H2 b = some (.tup (k.map kV)) ∧ valV kvs k = some v ∧ Q v (upd H2 a (.dT (dropK kvs k)))
theorem pe_dpopT (hu : X.A.units + 1 < cLine) (ho : PE X o td) (he : PE X e ty) (m : M1 X o "pop" apos e cpos) : PE X (.Call (.Attribute o "pop" apos) [e] [] cpos) (tDPopT td ty) := by
  intro pins s σ H Q I h
  refine wpAny_Call_method m.base m.few m.line PySem.F.plainAttrs_dict PySem.F.slot_dict_pop PySem.F.type_dict_pop (thn (ho pins s σ H _ I h) fun u s1 ⟨x, H1, I1, rx, a, ex, d, q1⟩ => ?_)
  subst ex
  obtain rfl : u = Value.ref a := rx
  obtain ⟨t1, t2, _⟩ := isD_at I1 d
  refine ⟨t1, t2, ?_⟩
  rw [m.trees]
  refine Calls.callWith_builtin rfl (Calls.evalArgs_plain (Calls.spliced_cons (thn (he pins s1 σ H1 _ I1 q1) fun iv s2 ⟨y, H2, I2, ry, kvs, k, v, b, ea, ey, eb, l, q2⟩ => Calls.spliced_nil ?_)))
  subst ey
  cases ry
  exact d_popT hu I2 ea eb l fun w' s3 I3 rw' => ⟨v, _, I3, rw', q2⟩
end
end LwD

namespace LwD
open PySem PySem.Spec PyProof.Rows L2
/-! ### the keys of a dict, by its bare entries -/
def Raw (h : Heap) (d : Addr) (es : Array DictEntry) (ep : Nat) : Prop := ∃ o, h.get? d = some o ∧ o.ExactDict ∧ o.data = .dict es ep
theorem Raw.lt {h : Heap} {d : Addr} {es : Array DictEntry} {ep : Nat} (r : Raw h d es ep) : d < h.objs.size := let ⟨_, e, _⟩ := r; Heap.lt_size e
theorem Raw.keep {h h' : Heap} {d : Addr} {es : Array DictEntry} {ep : Nat} (r : Raw h d es ep) (k : ∀ o, h.get? d = some o → h'.get? d = some o) : Raw h' d es ep := let ⟨o, e, x⟩ := r; ⟨o, k o e, x⟩
theorem Raw.ty {s : Shared} {d : Addr} {es : Array DictEntry} {ep : Nat} (r : Raw s.heap d es ep) : s.TypeIs (.ref d) "dict" := let ⟨o, e, c, _⟩ := r; ⟨o, e, c.1⟩
section
variable {prog : Program} {w : World} {A : Around} {E : Value → Shared → Prop} {s : Shared} {d it : Addr} {es : Array DictEntry} {ep i : Nat}
theorem raw_iter {Q : Value → Shared → Prop} (lo : (d == sysModules) = false) (r : Raw s.heap d es ep)
    (q : Q (.ref s.heap.objs.size) { s with heap := s.heap.push { cls := .type "dict_keyiterator", data := .fields #[.ref d, .int 0 0, .int es.size 0, .int ep 0] } }) : wpAny (model prog w) A (pyIter (.ref d)) Q E s := by
  have ty := r.ty
  obtain ⟨o, ho, hc, hdat⟩ := r
  refine wpAny_pyIter_slot ty PySem.F.slot_dict_iter (wpAny_call_entry PySem.F.slot_dict_iter ty PySem.F.entry_dict_iter ?_ (PySem.F.args_dict_iter_1 _))
  unfold Builtin.«dict.__iter__»
  refine wpAny_bind (show wpAny _ _ (Builtin.Dict.dictSlotNone _ _) _ _ s from ?_)
  unfold Builtin.Dict.dictSlotNone
  refine wpAny_bind (wpAny_notOrdered_dict ty (show wpAny _ _ (pure (Value.ref d)) _ _ s from wpAny_pure ?_))
  show wpAny _ _ (Builtin.Dict.showsAll d >>= _) _ _ s
  unfold Builtin.Dict.showsAll
  rw [if_neg (by rw [lo]; exact Bool.false_ne_true)]
  refine wpAny_bind (wpAny_pure (wpAny_bind (wpAny_dictEntries ho hdat (wpAny_bind (wpAny_dictEpoch ho hdat ?_)))))
  refine wpAny_bind (wpAny_newObj_type (wpAny_pure ⟨_, rfl, "dict_keyiterator", _, ⟨_, Heap.get?_push_size _ rfl, rfl⟩, PySem.F.slot_dict_keyiterator_next.lookup, ?_⟩))
  simpa [rawInt] using q
theorem raw_next {Q : Option Value → Shared → Prop} (k : s.heap.IsKeyIter it d i es.size ep) (r : Raw s.heap d es ep) (hi : i < es.size)
    (q : ∀ h', h'.IsKeyIter it d (i + 1) es.size ep → Heap.SameBut it s.heap h' → Q (some es[i].key) { s with heap := h' }) : wpAny (model prog w) A (pyNext (.ref it)) Q E s := by
  have ty := k.typeIs
  obtain ⟨o, ho, hc, hd⟩ := id k
  obtain ⟨od, hod, hcd, hdd⟩ := id r
  have own : Builtin.Dict_items.ownsTuple "dict_keyiterator" = false := by decide
  unfold pyNext
  refine wpAny_bind (wpAny_attempt (wpAny_callSpecial?_slot (name := Str.ofString "__next__") ty PySem.F.slot_dict_keyiterator_next (wpAny_call_entry PySem.F.slot_dict_keyiterator_next ty PySem.F.entry_dict_keyiterator_next ?_ (PySem.F.args_dict_keyiterator_next_1 _))))
  refine wpAny_bind (wpAny_pure (wpAny_bind (wpAny_bind ?_)))
  first | refine wpAny_bind (wpAny_typeNameOfWhole_keyiter ty (wpAny_pure (wpAny_bind (wpAny_fieldsOf ho hd ?_)))) | refine wpAny_bind (wpAny_typeNameOf_keyiter ty (wpAny_pure (wpAny_bind (wpAny_fieldsOf ho hd ?_))))
  simp only [own, Bool.false_eq_true, if_false]
  show wpAny _ _ (if (Value.ref d == Value.none) = true then _ else _) _ _ s
  rw [if_neg (show ¬ ((Value.ref d == Value.none) = true) from Bool.false_ne_true)]
  refine wpAny_bind (wpAny_pure (wpAny_bind (wpAny_dictEntries hod hdd ?_)))
  rw [if_neg (by simp)]
  refine wpAny_bind (wpAny_pure (wpAny_bind (wpAny_dictEpoch hod hdd ?_)))
  rw [if_neg (by simp)]
  refine wpAny_pure ?_
  simp only [show ¬ ((i : Int) < 0) from by omega, if_false, Int.toNat_natCast, Array.getElem?_eq_getElem hi]
  refine wpAny_bind ?_
  first | refine wpAny_bind (wpAny_typeNameOfWhole_keyiter ty (wpAny_pure (wpAny_bind (wpAny_isOneOf_keyiter ty ?_)))) | refine wpAny_bind (wpAny_typeNameOf_keyiter ty (wpAny_pure (wpAny_bind (wpAny_isOneOf_keyiter ty ?_))))
  show wpAny _ _ (setField (.ref it) 1 (rawInt ((i : Int) + 1)) >>= _) _ _ s
  have k' : (s.heap.update it (Obj.mapFields (·.setIfInBounds 1 (rawInt ((i : Int) + 1))))).IsKeyIter it d (i + 1) es.size ep :=
    ⟨_, Heap.get?_update_self _ ho (Obj.isFreed_of_fields (Obj.data_mapFields hd _)), (Obj.cls_mapFields ..).trans hc, by rw [Obj.data_mapFields hd]; simp [rawInt]⟩
  refine wpAny_bind (wpAny_setField ho hd (by simp) (wpAny_bind (wpAny_holding ?_)))
  refine wpAny_bind (wpAny_isOneOf_keyiter (s := { s with heap := s.heap.update it (Obj.mapFields (·.setIfInBounds 1 (rawInt ((i : Int) + 1)))) }) k'.typeIs ?_)
  show wpAny _ _ (pure es[i].key) _ _ _
  exact wpAny_pure (wpAny_pure ⟨_, rfl, wpAny_pure (q _ k' (Heap.SameBut.update ..))⟩)
theorem raw_end {Q : Option Value → Shared → Prop} (hh : A.handled = none) (k : s.heap.IsKeyIter it d es.size es.size ep) (r : Raw s.heap d es ep) (q : ∀ h', Heap.ExtBut it s.heap h' → Q none { s with heap := h' }) : wpAny (model prog w) A (pyNext (.ref it)) Q E s := by
  have ty := k.typeIs
  obtain ⟨o, ho, hc, hd⟩ := id k
  obtain ⟨od, hod, hcd, hdd⟩ := id r
  have own : Builtin.Dict_items.ownsTuple "dict_keyiterator" = false := by decide
  unfold pyNext
  refine wpAny_bind (wpAny_attempt (wpAny_callSpecial?_slot (name := Str.ofString "__next__") ty PySem.F.slot_dict_keyiterator_next (wpAny_call_entry PySem.F.slot_dict_keyiterator_next ty PySem.F.entry_dict_keyiterator_next ?_ (PySem.F.args_dict_keyiterator_next_1 _))))
  refine wpAny_bind (wpAny_pure (wpAny_bind (wpAny_bind ?_)))
  first | refine wpAny_bind (wpAny_typeNameOfWhole_keyiter ty (wpAny_pure (wpAny_bind (wpAny_fieldsOf ho hd ?_)))) | refine wpAny_bind (wpAny_typeNameOf_keyiter ty (wpAny_pure (wpAny_bind (wpAny_fieldsOf ho hd ?_))))
  simp only [own, Bool.false_eq_true, if_false]
  show wpAny _ _ (if (Value.ref d == Value.none) = true then _ else _) _ _ s
  rw [if_neg (show ¬ ((Value.ref d == Value.none) = true) from Bool.false_ne_true)]
  refine wpAny_bind (wpAny_pure (wpAny_bind (wpAny_dictEntries hod hdd ?_)))
  rw [if_neg (by simp)]
  refine wpAny_bind (wpAny_pure (wpAny_bind (wpAny_dictEpoch hod hdd ?_)))
  rw [if_neg (by simp)]
  refine wpAny_pure ?_
  simp only [show ¬ ((es.size : Int) < 0) from by omega, if_false, Int.toNat_natCast, Array.getElem?_eq_none (Nat.le_refl es.size)]
  refine wpAny_bind ?_
  first | refine wpAny_bind (wpAny_typeNameOfWhole_keyiter ty (wpAny_pure ?_)) | refine wpAny_bind (wpAny_typeNameOf_keyiter ty (wpAny_pure ?_))
  show wpAny _ _ (setField (.ref it) 0 .none >>= _) _ _ s
  refine wpAny_bind (wpAny_setField ho hd (by simp) (show wpAny _ _ (newExc (.type "StopIteration") [] >>= _) _ _ _ from wpAny_bind ?_))
  simp only [newExc, newTuple]
  refine wpAny_bind (wpAny_newObj_type (wpAny_bind (m := firstArgMember _ _) (wpAny_of_eq (a := Value.none) (by first | rfl | (simp only [firstArgMember]; rfl)) (wpAny_newObj_type ?_ (by size_fits)))) (by size_fits))
  simp only [raiseNew]
  refine wpAny_bind (wpAny_handled ?_)
  rw [show A.in1.handled = none from hh]
  refine wpAny_bind (wpAny_pure (wpAny_throw ?_))
  refine wpAny_bind (wpAny_isInstance (b := true) (T := "StopIteration") ⟨_, Heap.get?_push_size _ rfl, rfl⟩ isSubtype_stop ?_)
  exact wpAny_pure (q _ (((Heap.SameBut.update ..).extBut.push _).push _))
theorem raw_walks (hh : A.handled = none) (hne : d ≠ it) : Walks prog w A it [it, d] [it] es.size (fun i v => ∃ h : i < es.size, v = es[i].key) (fun i h => h.IsKeyIter it d i es.size ep ∧ Raw h d es ep) where
  sub := fun b hb => by simp at hb; simp [hb]
  frame := fun _ _ _ st hk => ⟨st.1.at fun o e => hk it (by simp) o e, st.2.keep fun o e => hk d (by simp) o e⟩
  item := fun i s Q E hi st hQ => raw_next st.1 st.2 hi fun h' k' hs' => hQ _ h' s.toks ⟨hi, rfl⟩ ⟨k', st.2.keep fun o e => hs'.extBut d o hne e⟩ fun b o hb e => hs'.extBut b o (fun h => hb (by simp [h])) e
  done := fun s Q E st hQ => raw_end hh st.1 st.2 fun h' he' => hQ h' s.toks fun b o hb e => he' b o (fun h => hb (by simp [h])) e
  self := fun _ _ _ _ st hQ => wpAny_pyIter_keyiter st.1 hQ
theorem raw_src (lo : (d == sysModules) = false) : PySem.W.KdlSrc prog w "dict" d d es.size (fun i v => ∃ h : i < es.size, v = es[i].key) (fun h => Raw h d es ep) where
  type := fun _ hm => hm.ty
  there := fun _ hm => ⟨hm.lt, hm.lt⟩
  keep := fun _ _ hm hk => hm.keep fun o e => hk d (.inl rfl) o e
  notList := by decide
  notTuple := by decide
  hint := fun _ _ _ _ hm hq => PySem.W.kdl_hint_dict hm.ty hq
  iter := fun _ _ hh hm => ⟨_, _, (fun _ _ hq => raw_iter lo hm hq), raw_walks hh (Nat.ne_of_lt hm.lt), ⟨⟨_, Heap.get?_push_size _ rfl, rfl, rfl⟩, hm.keep fun o e => Heap.get?_push_of_some _ e⟩⟩
end
end LwD

namespace LwD
open PySem PySem.W PySem.Spec PyProof.Rows
/-! ### what a sort does whatever the comparisons say -/
/-- p: the places 0 .. n - 1 in some order -/
def Pm (n : Nat) (p : Array Nat) : Prop := p.toList.Perm (List.range n)
theorem Pm.size {n : Nat} {p : Array Nat} (h : Pm n p) : p.size = n := by have := h.length_eq; simpa using this
theorem Pm.lt {n : Nat} {p : Array Nat} (h : Pm n p) {i : Nat} (hn : 0 < n) : p.getD i 0 < n := by
  by_cases hi : i < p.size
  · have : p.getD i 0 ∈ p.toList := by simp [Array.getD, hi]
    exact List.mem_range.mp (h.mem_iff.mp this)
  · simp [Array.getD, hi, hn]
theorem Pm.rev {n : Nat} {p : Array Nat} (h : Pm n p) (i j : Nat) : Pm n (kas_rev p i j) := (Array.perm_iff_toList_perm.mp (mirror_perm p i j _)).trans h
theorem Pm.bub {n : Nat} {p : Array Nat} (h : Pm n p) (i j : Nat) : Pm n (bubble p i j) := (Array.perm_iff_toList_perm.mp (bubble_perm p i j)).trans h
/-! ### two tuples of ints, as a sort compares them -/
section
variable {prog : Program} {w : World} {A : Around} {E : Value → Shared → Prop} {s : Shared}
end
end LwD

namespace LwD
open PySem PySem.Spec PyProof.Rows L2 Lw
theorem ns_uniq {h : Heap} {a : Addr} {m m' : Str → Option Value} (x : h.Ns a m) (y : h.Ns a m') : m = m' := by
  obtain ⟨o, es, ep, ho, hd, hk, hm⟩ := x
  obtain ⟨o', es', ep', ho', hd', hk', hm'⟩ := y
  rw [ho] at ho'
  cases ho'
  rw [hd] at hd'
  cases hd'
  funext z
  rw [← hm z, ← hm' z]
theorem obj_some {P : Program} {w : World} {H : Hp} {h : Heap} {a : Addr} {o : HO} (x : ObjOk P w H h a o) : ∃ q, h.get? a = some q := by
  cases o with
  | lst xs => obtain ⟨_, _, _, _, e⟩ := x; exact ⟨_, e⟩
  | tup xs => obtain ⟨_, _, _, q, e, _⟩ := x; exact ⟨_, e⟩
  | dK kvs => obtain ⟨_, _, _, _, o, _, _, e, _⟩ := x; exact ⟨_, e⟩
  | dT kvs => obtain ⟨_, _, _, _, o, _, _, e, _⟩ := x; exact ⟨_, e⟩
  | set S n => obtain ⟨o, _, _, _, e, _⟩ := x; exact ⟨_, e⟩
  | ins C dx fs => obtain ⟨_, _, _, e, _⟩ := x; exact ⟨_, e⟩
  | own y => exact x
  | xd fs => obtain ⟨_, ⟨_, _, _, e, _⟩, _⟩ := x; exact ⟨_, e⟩
  | rng lo hi => obtain ⟨_, _, _, e⟩ := x; exact ⟨_, e⟩
  | frz ob u => exact ⟨_, x.1⟩
  | tbl ps => exact ⟨_, x⟩
  | met f y => exact ⟨_, x⟩
  | ext φ => exact x.2.1
section
variable {X : Cx} {pins : List (Addr × Obj)} {σ : L2.St} {H : Hp} {s : Shared}
/-- behind a rule of the library that made one thing at D: it is tracked, all else is as it was -/
theorem new_by_news {D : Addr} {o : Obj} {ho : HO} {h3 : Heap} {m : Str → Option Value} {tk : Nat} (I : Inv X pins σ H s) (F : Fr X.base X.env.locals s.heap m) (F3 : Fr X.base X.env.locals h3 m) (N3 : News X.base X.env.locals h3 ((D, o) :: allNews X.base s.heap X.env.locals))
    (lt : ∀ q ∈ allNews X.base s.heap X.env.locals, q.1 < D) (new : h3.get? D = some o → ObjOk X.prog X.w (upd H D ho) h3 D ho) : H D = none ∧ Inv X pins σ (upd H D ho) { s with heap := h3, toks := tk } := by
  have n1 := N3 (D, o) (List.mem_cons_self ..)
  have dn : s.heap.get? D = none := by
    cases q : s.heap.get? D with
    | none => rfl
    | some u => exact absurd (lt _ (mem_allNews n1.2.1 n1.2.2 q)) (Nat.lt_irrefl _)
  have Hn : H D = none := by
    cases q : H D with
    | none => rfl
    | some u =>
      obtain ⟨z, e⟩ := obj_some (I.hok D u q)
      rw [dn] at e
      cases e
  have kp : ∀ b u, b ≠ X.env.locals → s.heap.get? b = some u → h3.get? b = some u := fun b u hb e => by
    cases q : X.base.get? b with
    | some z =>
      have y := I.bk b z q
      rw [e] at y
      cases y
      exact F3.keep b _ q
    | none => exact (N3 (b, u) (List.mem_cons_of_mem _ (mem_allNews hb q e))).1
  have ne : ∀ b u, s.heap.get? b = some u → b ≠ D := fun b u e z => by rw [z, dn] at e; cases e
  have thr : ∀ b u, s.heap.get? b = some u → ∃ u', h3.get? b = some u' := fun b u e => by
    by_cases hb : b = X.env.locals
    · obtain ⟨u', _, _, e', _⟩ := F3.ns
      exact ⟨u', by rw [hb]; exact e'⟩
    · exact ⟨u, kp b u hb e⟩
  refine ⟨Hn, I.step (g' := s.gens) (d' := s.drawn) (ch := []) (fun _ z => nomatch z) (fun b u hb _ _ e _ => kp b u hb e) (fun b u hb _ _ e _ => ⟨u.slots, kp b u hb e⟩) (fun b u _ e n => ?_) (fun b u _ e => thr b u e) (fun b xs e => ?_) (fun b u v e => ?_) (fun b ps e => ?_) (fun m' hm => ?_) (fun b u e => ?_) I.bare⟩
  · rw [upd_ne (ne b u e)]
    exact n
  · rw [upd_ne (ne_of_none e Hn)]
    exact e
  · rw [upd_ne (ne_of_none e Hn)]
    exact e
  · exact ⟨#[], by rw [upd_ne (ne_of_none e Hn), e]; simp⟩
  · rw [ns_uniq hm F.ns]
    exact F3.ns
  · by_cases hb : b = D
    · subst hb
      rw [upd_same] at e
      cases e
      exact new n1.1
    · rw [upd_ne hb] at e
      refine (I.hok b u e).stay (fun c v hc q => kp c v (fun z => ?_) q) (fun c q => by rw [upd_ne (ne_of_none q Hn)]; exact q) fun c xs q => by rw [upd_ne (ne_of_none q Hn)]; exact q
      rcases hc with y | y
      · rw [← y, z, I.free] at e
        cases e
      · rw [z, I.free] at y
        cases y
end
/-! ### sorted(d), the keys tuples of ints -/
section
variable {prog : Program} {w : World} {A : Around} {E : Value → Shared → Prop} {s : Shared}
/-- fewer than two -/
theorem sort_small {a : Addr} {vs : List Value} {n : Nat} {Q : Value → Shared → Prop} (ho : s.heap.get? a = some (seqObj "list" vs.toArray n)) (h2 : vs.length < 2) (q : Q .none { s with heap := sortedHeap s.heap a vs vs.toArray }) : wpAny (model prog w) A (call (.builtin "list.sort") [.ref a]) Q E s := by
  refine wpAny_call_entry slot_list_sort ⟨_, ho, rfl⟩ entry_list_sort ?_ (args_list_sort _)
  rw [list_sort_plain]
  have ha : a < s.heap.objs.size := Heap.lt_size ho
  obtain ⟨e1, ho1⟩ : ∃ e1, (s.heap.update a (Obj.mapSeq fun _ => #[])).get? a = some (seqObj "list" #[] e1) := ⟨_, get?_update_seq ho (fun _ => #[])⟩
  have ho6 : (((s.heap.update a (Obj.mapSeq fun _ => #[])).push (seqObj "tuple" vs.toArray 0)).push (seqObj "list" #[] 0)).get? a = some (seqObj "list" #[] e1) := Heap.get?_push_of_some _ (Heap.get?_push_of_some _ ho1)
  have hz : vs.toArray.size < 2 := by simpa using h2
  refine wpAny_bind (listItems_at ho rfl (wpAny_bind (listUpdate_at ho rfl (wpAny_bind (seqEpoch_at ho1 rfl (wpAny_bind (wpAny_newTuple (wpAny_bind (wpAny_newList (wpAny_holding ?_))))))))))
  show wpAny (model prog w) _ _ _ E { s with heap := ((s.heap.update a (Obj.mapSeq fun _ => #[])).push (seqObj "tuple" vs.toArray 0)).push (seqObj "list" #[] 0) }
  dsimp only
  rw [if_pos hz, if_pos hz]
  refine wpAny_bind (wpAny_pure ?_)
  rw [StateT.run_pure]
  refine wpAny_bind (wpAny_pure ?_)
  dsimp only
  have hm : (arrOf (SortSt.mk' general' (vs.toArray.zip vs.toArray) #[] 7 none)).map (·.2) = vs.toArray := by
    show (vs.toArray.zip vs.toArray).map (·.2) = vs.toArray
    apply Array.ext'
    simp [List.map_snd_zip]
  refine wpAny_bind (seqEpoch_at ho6 rfl (wpAny_bind (listUpdate_at ho6 rfl ?_ (hsz2 := by rw [hm, sizeLine_eq]; omega))))
  rw [hm]
  simp only [bne_self_eq_false, Bool.false_eq_true, if_false]
  exact wpAny_pure ⟨_, rfl, q⟩
end
end LwD

namespace LwD
open PySem PySem.Spec PyProof.Rows L2 Lw
/-- the key of ints -/
abbrev ik (ns : List Int) : List Key := ns.map Sum.inl
theorem ik_map (ns : List Int) : (ik ns).map kV = ns.map V.int := by
  unfold ik
  rw [List.map_map]
  rfl
section
variable {X : Cx}
end
end LwD

namespace LwD
open PySem PySem.Spec PyProof.Rows L2 Lw
/-! ### sorted(d), d keyed by tuples of ints: what comes out is a permutation of the dict's keys -/
theorem KTgetI {H : Hp} {kvs : List (List Key × V)} {xs : List (List Key × Addr × Value)} (r : KT H kvs xs) : ∀ {j : Nat} {q : List Key × Addr × Value}, xs[j]? = some q → ∃ v, kvs[j]? = some (q.1, v) ∧ H q.2.1 = some (.tup (q.1.map kV)) := by
  induction r with
  | nil => intro j q e; simp at e
  | @cons p q' ps qs h t ih =>
    intro j q e
    cases j with
    | zero =>
      simp only [List.getElem?_cons_zero, Option.some.injEq] at e
      subst e
      exact ⟨p.2, by rw [← h.1]; rfl, by rw [← h.1]; exact h.2.1⟩
    | succ j =>
      simp only [List.getElem?_cons_succ] at e ⊢
      exact ih e
/-- the keys of these pairs, as they stand -/
def Keyed (H : Hp) (ys : List V) (zs : List (List Key × V)) : Prop := ys.length = zs.length ∧ ∀ (i : Nat) (y : V) (p : List Key × V), ys[i]? = some y → zs[i]? = some p → ∃ (b : Addr) (ns : List Int), y = .ref b ∧ H b = some (.tup (ns.map V.int)) ∧ p.1 = ik ns
theorem getD_range {α : Type} (l : List α) (d : α) : (List.range l.length).map (fun i => l.getD i d) = l := by
  apply List.ext_getElem
  · simp
  · intro i h1 h2
    simp at h1
    simp [h1]
end LwD

/-! zip(t, u) of two tuples: as the iterator of a loop or of a comprehension -/
namespace L2
open PySem PySem.Spec PyProof.Rows
section
variable {prog : Program} {w : World} {A : Around} {E : Value → Shared → Prop} {s : Shared}
theorem nextT {it t : Addr} {k : Nat} {its : Array Value} {v : Value} {Q : Value → Shared → Prop} (st : s.heap.IsTupleIter it t k) (tu : s.heap.IsTuple t its) (hv : its[k]? = some v)
    (q : ∀ g, g.IsTupleIter it t (k + 1) → Heap.SameBut it s.heap g → Q v { s with heap := g }) : wpAny (model prog w) A (Builtin.SmallTypes.nextOf (.ref it)) Q E s := by
  obtain ⟨oi, gi, ci, di⟩ := id st; obtain ⟨ot, gt, _, nt, dt⟩ := tu
  unfold Builtin.SmallTypes.nextOf
  refine wpAny_bind (wpAny_callSpecial?_slot (name := Str.ofString "__next__") st.typeIs F.slot_tuple_iterator_next (wpAny_call_entry F.slot_tuple_iterator_next st.typeIs F.entry_tuple_iterator_next ?_ (F.args_tuple_iterator_next_1 _)))
  show wpAny _ _ (field (.ref it) 0 >>= _) _ _ _
  refine wpAny_bind (wpAny_field gi di (x := .ref t) rfl ?_)
  show wpAny _ _ (if (Value.ref t == Value.none) = true then _ else _) _ _ _
  rw [if_neg (show ¬ (Value.ref t == Value.none) = true from Bool.false_ne_true)]
  show wpAny _ _ (field (.ref it) 1 >>= _) _ _ _
  refine wpAny_bind (wpAny_field gi di (x := .int k 0) rfl ?_)
  show wpAny _ _ (seqItems? (.ref t) >>= _) _ _ _
  refine wpAny_bind (wpAny_seqItems gt dt ?_)
  simp only [Int.toNat_natCast, hv]
  refine wpAny_bind (wpAny_setField gi di (by simp) (wpAny_pure ⟨v, rfl, wpAny_pure (q _ ⟨_, Heap.get?_update_self _ gi (Obj.isFreed_of_fields (Obj.data_mapFields di _)), (Obj.cls_mapFields ..).trans ci, by rw [Obj.data_mapFields di]; simp [rawInt]⟩ (Heap.SameBut.update ..))⟩))
theorem nextT_end {it t : Addr} {k : Nat} {its : Array Value} {Q : Value → Shared → Prop} (hh : A.handled = none) (st : s.heap.IsTupleIter it t k) (tu : s.heap.IsTuple t its) (hv : its[k]? = none)
    (q : ∀ g e, Heap.ExtBut it s.heap g → (∃ o, g.get? e = some o ∧ o.cls = .type "StopIteration") → E (.ref e) { s with heap := g }) : wpAny (model prog w) A (Builtin.SmallTypes.nextOf (.ref it)) Q E s := by
  obtain ⟨oi, gi, ci, di⟩ := id st; obtain ⟨ot, gt, _, nt, dt⟩ := tu
  unfold Builtin.SmallTypes.nextOf
  refine wpAny_bind (wpAny_callSpecial?_slot (name := Str.ofString "__next__") st.typeIs F.slot_tuple_iterator_next (wpAny_call_entry F.slot_tuple_iterator_next st.typeIs F.entry_tuple_iterator_next ?_ (F.args_tuple_iterator_next_1 _)))
  show wpAny _ _ (field (.ref it) 0 >>= _) _ _ _
  refine wpAny_bind (wpAny_field gi di (x := .ref t) rfl ?_)
  show wpAny _ _ (if (Value.ref t == Value.none) = true then _ else _) _ _ _
  rw [if_neg (show ¬ (Value.ref t == Value.none) = true from Bool.false_ne_true)]
  show wpAny _ _ (field (.ref it) 1 >>= _) _ _ _
  refine wpAny_bind (wpAny_field gi di (x := .int k 0) rfl ?_)
  show wpAny _ _ (seqItems? (.ref t) >>= _) _ _ _
  refine wpAny_bind (wpAny_seqItems gt dt ?_)
  simp only [Int.toNat_natCast, hv]
  refine wpAny_bind (wpAny_rule (wpAny_bind (wpAny_setField gi di (by simp) ?_)))
  show wpAny _ _ (newExc (.type "StopIteration") [] >>= _) _ _ _
  refine wpAny_bind ?_
  simp only [newExc, newTuple]
  refine wpAny_bind (wpAny_newObj_type ?_ (by size_fits))
  refine wpAny_bind (m := firstArgMember _ _) (wpAny_of_eq (a := Value.none) (by first | rfl | (simp only [firstArgMember]; rfl)) ?_)
  refine wpAny_newObj_type ?_ (by size_fits)
  simp only [raiseNew]
  refine wpAny_bind (wpAny_handled ?_)
  first | rw [show A.in1.handled = none from hh] | rw [hh]
  exact wpAny_bind (wpAny_pure (wpAny_throw (q _ _ (((Heap.SameBut.update ..).extBut.push _).push _) ⟨_, Heap.get?_push_size _ rfl, rfl⟩)))
/-- the zip's five records as they stand ahead of a turn -/
structure ZT (z TI TO i1 i2 l1 l2 : Addr) (k : Nat) (h : Heap) : Prop where
  zz : IsZip h z TI TO .none
  ti : IsPair h TI (.ref i1) (.ref i2)
  to : ∃ a b, IsPair h TO a b
  one : h.IsTupleIter i1 l1 k
  two : h.IsTupleIter i2 l2 k
theorem IsTupleIter.as {h h' : Heap} {a t : Addr} {k : Nat} (x : h.IsTupleIter a t k) (f : ∀ o, h.get? a = some o → h'.get? a = some o) : h'.IsTupleIter a t k := let ⟨o, ho, r⟩ := x; ⟨o, f o ho, r⟩
variable {z TI TO i1 i2 l1 l2 : Addr} {k : Nat} {xs ys : Array Value}
/-- the two places of the pair filled -/
theorem zipT_item {x y : Value} {Q : Option Value → Shared → Prop} (D : ZipApart z TI TO i1 i2 l1 l2) (Z : ZT z TI TO i1 i2 l1 l2 k s.heap) (t1 : s.heap.IsTuple l1 xs) (t2 : s.heap.IsTuple l2 ys) (hx : xs[k]? = some x) (hy : ys[k]? = some y)
    (q : ∀ g, IsZip g z TI TO (rawInt s.heap.objs.size) → IsPair g TO x y → g.IsTupleIter i1 l1 (k + 1) → g.IsTupleIter i2 l2 (k + 1) → IsPair g s.heap.objs.size x y →
      (∀ c o, c ∉ [z, TO, i1, i2] → s.heap.get? c = some o → g.get? c = some o) → Q (some (.ref s.heap.objs.size)) { s with heap := g }) : wpAny (model prog w) A (pyNext (.ref z)) Q E s := by
  obtain ⟨hz, hti, ⟨a, b, hto⟩, s1, s2⟩ := Z
  have T : s.TypeIs (.ref z) "zip" := ⟨_, hz, rfl⟩
  unfold pyNext
  refine wpAny_bind (wpAny_attempt (wpAny_callSpecial?_slot (name := Str.ofString "__next__") T F.slot_zip_next (wpAny_call_entry F.slot_zip_next T F.entry_zip_next ?_ (F.args_zip_next_1 _))))
  show wpAny _ _ (field (.ref z) 2 >>= _) _ _ _
  refine wpAny_bind (wpAny_field hz rfl (x := .bool false) rfl ?_)
  show wpAny _ _ (field (.ref z) 3 >>= _) _ _ _
  refine wpAny_bind (wpAny_field hz rfl (x := .ref TI) rfl (wpAny_bind (wpAny_seqItems hti rfl ?_)))
  show wpAny _ _ (Builtin.SmallTypes.ownedTupleIsFree (.ref z) >>= _) _ _ _
  refine wpAny_bind ?_
  unfold Builtin.SmallTypes.ownedTupleIsFree
  refine wpAny_bind (wpAny_field hz rfl (x := .none) rfl (wpAny_pure ?_))
  simp only [if_true]
  refine wpAny_bind (wpAny_rule (wpAny_bind (wpAny_field hz rfl (x := .ref TO) rfl (wpAny_bind (wpAny_setField_rec hz (by simp) fun g1 z1 b1 => ?_)))))
  replace z1 : IsZip g1 z TI TO .ellipsis := z1
  refine wpAny_bind ?_
  simp only [List.zipIdx_cons, List.zipIdx_nil, List.forIn_cons, List.forIn_nil]
  refine wpAny_bind (wpAny_bind (wpAny_onRaise ?_))
  show wpAny _ _ (Builtin.SmallTypes.nextOf (.ref i1) >>= _) _ _ _
  refine wpAny_bind (nextT (s1.extBut b1.extBut D.i1z) (t1.extBut b1.extBut D.l1z) hx fun g2 n2 b2 => wpAny_pure ?_)
  have o2 : IsPair g2 TO a b := b2.extBut _ _ D.TOi1 (b1.extBut _ _ D.TOz hto)
  refine wpAny_bind (wpAny_seqItems o2 rfl (wpAny_bind (wpAny_updateSeq_pair o2 fun g3 o3 b3 => ?_)))
  replace o3 : IsPair g3 TO x b := o3
  refine wpAny_bind (wpAny_letGo (wpAny_pure (wpAny_bind (wpAny_bind (wpAny_onRaise ?_)))))
  show wpAny _ _ (Builtin.SmallTypes.nextOf (.ref i2) >>= _) _ _ _
  refine wpAny_bind (nextT (((s2.extBut b1.extBut D.i2z).extBut b2.extBut D.i12.symm).extBut b3.extBut D.TOi2.symm) (((t2.extBut b1.extBut D.l2z).extBut b2.extBut D.l2i1).extBut b3.extBut D.l2TO) hy fun g4 n4 b4 => wpAny_pure ?_)
  have o4 : IsPair g4 TO x b := b4.extBut _ _ D.TOi2 o3
  refine wpAny_bind (wpAny_seqItems o4 rfl (wpAny_bind (wpAny_updateSeq_pair o4 fun g5 o5 b5 => ?_)))
  replace o5 : IsPair g5 TO x y := o5
  refine wpAny_bind (wpAny_letGo (wpAny_pure (wpAny_pure (wpAny_bind (wpAny_seqItems o5 rfl (wpAny_bind (wpAny_newTuple ?_)))))))
  have sz : g5.objs.size = s.heap.objs.size := by rw [b5.1, b4.1, b3.1, b2.1, b1.1]
  have z5 : IsZip g5 z TI TO .ellipsis := b5.extBut _ _ D.TOz.symm (b4.extBut _ _ D.i2z.symm (b3.extBut _ _ D.TOz.symm (b2.extBut _ _ D.i1z.symm z1)))
  have k5 : ∀ c o, c ∉ [z, TO, i1, i2] → s.heap.get? c = some o → g5.get? c = some o := fun c o hc e => by
    simp only [List.mem_cons, not_or] at hc
    exact b5.extBut _ _ hc.2.1 (b4.extBut _ _ hc.2.2.2.1 (b3.extBut _ _ hc.2.1 (b2.extBut _ _ hc.2.2.1 (b1.extBut _ _ hc.1 e))))
  have n5 : g5.IsTupleIter i1 l1 (k + 1) := ((n2.extBut b3.extBut D.TOi1.symm).extBut b4.extBut D.i12).extBut b5.extBut D.TOi1.symm
  have m5 : g5.IsTupleIter i2 l2 (k + 1) := n4.extBut b5.extBut D.TOi2.symm
  have zl : z < g5.objs.size := Heap.lt_size z5
  show wpAny _ _ (Builtin.SmallTypes.ownedTupleHandOut (.ref z) (.ref g5.objs.size) >>= _) _ _ _
  refine wpAny_bind ?_
  unfold Builtin.SmallTypes.ownedTupleHandOut
  have z6 : IsZip (g5.push { cls := .type "tuple", data := .seq #[x, y] }) z TI TO .ellipsis := Heap.get?_push_of_some _ z5
  refine wpAny_bind (wpAny_setField_rec z6 (by simp) fun g7 z7 b7 => ?_)
  replace z7 : IsZip g7 z TI TO (rawInt g5.objs.size) := z7
  refine wpAny_setField_rec z7 (by simp) fun g8 z8 b8 => ?_
  replace z8 : IsZip g8 z TI TO (rawInt g5.objs.size) := z8
  have up : ∀ c o, c ≠ z → g5.get? c = some o → g8.get? c = some o := fun c o cz e => b8.extBut _ _ cz (b7.extBut _ _ cz (Heap.get?_push_of_some _ e))
  have nu : IsPair g8 g5.objs.size x y := b8.extBut _ _ (Nat.ne_of_gt zl) (b7.extBut _ _ (Nat.ne_of_gt zl) (Heap.get?_push_size _ rfl))
  rw [sz] at z8 nu
  refine wpAny_pure ⟨_, rfl, wpAny_pure ?_⟩
  show Q (some (.ref g5.objs.size)) _
  rw [sz]
  exact q g8 z8 (up _ _ D.TOz o5) (IsTupleIter.as n5 fun o e => up _ o D.i1z e) (IsTupleIter.as m5 fun o e => up _ o D.i2z e) nu fun c o hc e => up c o (fun h => hc (by simp [h])) (k5 c o hc e)
theorem zipT_end {Q : Option Value → Shared → Prop} (hh : A.handled = none) (D : ZipApart z TI TO i1 i2 l1 l2) (Z : ZT z TI TO i1 i2 l1 l2 k s.heap) (t1 : s.heap.IsTuple l1 xs) (t2 : s.heap.IsTuple l2 ys) (he : xs[k]? = none ∨ ys[k]? = none)
    (q : ∀ g, (∀ c o, c ∉ [z, TO, i1, i2] → s.heap.get? c = some o → g.get? c = some o) → Q none { s with heap := g }) : wpAny (model prog w) A (pyNext (.ref z)) Q E s := by
  obtain ⟨hz, hti, ⟨a, b, hto⟩, s1, s2⟩ := Z
  have T : s.TypeIs (.ref z) "zip" := ⟨_, hz, rfl⟩
  unfold pyNext
  refine wpAny_bind (wpAny_attempt (wpAny_callSpecial?_slot (name := Str.ofString "__next__") T F.slot_zip_next (wpAny_call_entry F.slot_zip_next T F.entry_zip_next ?_ (F.args_zip_next_1 _))))
  have fin : ∀ g (e : Addr), (∀ c o, c ∉ [z, TO, i1, i2] → s.heap.get? c = some o → g.get? c = some o) → (∃ o, g.get? e = some o ∧ o.cls = .type "StopIteration") →
      wpAny (model prog w) A (do if (← isInstance (.ref e) (.type "StopIteration")) then pure none else throw (.ref e)) Q E { s with heap := g } := fun g e hk ⟨o, ho, hc⟩ =>
    wpAny_bind (wpAny_isInstance (T := "StopIteration") (b := true) ⟨o, ho, hc⟩ isSubtype_stop (wpAny_pure (q _ hk)))
  show wpAny _ _ (field (.ref z) 2 >>= _) _ _ _
  refine wpAny_bind (wpAny_field hz rfl (x := .bool false) rfl ?_)
  show wpAny _ _ (field (.ref z) 3 >>= _) _ _ _
  refine wpAny_bind (wpAny_field hz rfl (x := .ref TI) rfl (wpAny_bind (wpAny_seqItems hti rfl ?_)))
  show wpAny _ _ (Builtin.SmallTypes.ownedTupleIsFree (.ref z) >>= _) _ _ _
  refine wpAny_bind ?_
  unfold Builtin.SmallTypes.ownedTupleIsFree
  refine wpAny_bind (wpAny_field hz rfl (x := .none) rfl (wpAny_pure ?_))
  simp only [if_true]
  refine wpAny_bind (wpAny_rule (wpAny_bind (wpAny_field hz rfl (x := .ref TO) rfl (wpAny_bind (wpAny_setField_rec hz (by simp) fun g1 z1 b1 => ?_)))))
  replace z1 : IsZip g1 z TI TO .ellipsis := z1
  refine wpAny_bind ?_
  simp only [List.zipIdx_cons, List.zipIdx_nil, List.forIn_cons, List.forIn_nil]
  refine wpAny_bind (wpAny_bind (wpAny_onRaise ?_))
  show wpAny _ _ (Builtin.SmallTypes.nextOf (.ref i1) >>= _) _ _ _
  cases hx : xs[k]? with
  | none =>
    refine wpAny_bind (nextT_end hh (s1.extBut b1.extBut D.i1z) (t1.extBut b1.extBut D.l1z) hx fun g2 e b2 ⟨oe, he, ce⟩ => ?_)
    have z2 : IsZip g2 z TI TO .ellipsis := b2 _ _ D.i1z.symm z1
    have ez : e ≠ z := fun h => by subst h; rw [z2] at he; cases he; simp at ce
    refine wpAny_setField_rec z2 (by simp) fun g3 _ b3 => fin g3 e (fun c o hc h => ?_) ⟨oe, b3.extBut _ _ ez he, ce⟩
    simp only [List.mem_cons, not_or] at hc
    exact b3.extBut _ _ hc.1 (b2 _ _ hc.2.2.1 (b1.extBut _ _ hc.1 h))
  | some x =>
    have hy : ys[k]? = none := he.resolve_left (by rw [hx]; simp)
    refine wpAny_bind (nextT (s1.extBut b1.extBut D.i1z) (t1.extBut b1.extBut D.l1z) hx fun g2 n2 b2 => wpAny_pure ?_)
    have o2 : IsPair g2 TO a b := b2.extBut _ _ D.TOi1 (b1.extBut _ _ D.TOz hto)
    refine wpAny_bind (wpAny_seqItems o2 rfl (wpAny_bind (wpAny_updateSeq_pair o2 fun g3 o3 b3 => ?_)))
    refine wpAny_bind (wpAny_letGo (wpAny_pure (wpAny_bind (wpAny_bind (wpAny_onRaise ?_)))))
    show wpAny _ _ (Builtin.SmallTypes.nextOf (.ref i2) >>= _) _ _ _
    refine wpAny_bind (nextT_end hh (((s2.extBut b1.extBut D.i2z).extBut b2.extBut D.i12.symm).extBut b3.extBut D.TOi2.symm) (((t2.extBut b1.extBut D.l2z).extBut b2.extBut D.l2i1).extBut b3.extBut D.l2TO) hy fun g4 e b4 ⟨oe, he, ce⟩ => ?_)
    have z4 : IsZip g4 z TI TO .ellipsis := b4 _ _ D.i2z.symm (b3.extBut _ _ D.TOz.symm (b2.extBut _ _ D.i1z.symm z1))
    have ez : e ≠ z := fun h => by subst h; rw [z4] at he; cases he; simp at ce
    refine wpAny_setField_rec z4 (by simp) fun g5 _ b5 => fin g5 e (fun c o hc h => ?_) ⟨oe, b5.extBut _ _ ez he, ce⟩
    simp only [List.mem_cons, not_or] at hc
    exact b5.extBut _ _ hc.1 (b4 _ _ hc.2.2.2.1 (b3.extBut _ _ hc.2.1 (b2.extBut _ _ hc.2.2.1 (b1.extBut _ _ hc.1 h))))
theorem meets_zipT (a b : Addr) (xs ys : Array Value) :
    Meets (Builtin.«zip.__new__» ⟨[.type "zip", .ref a, .ref b], []⟩) (fun _ R s => s.heap.IsTuple a xs ∧ s.heap.IsTuple b ys ∧
      ∀ g, (∀ c o, s.heap.get? c = some o → g.get? c = some o) → ZT (s.heap.objs.size + 4) (s.heap.objs.size + 2) (s.heap.objs.size + 3) s.heap.objs.size (s.heap.objs.size + 1) a b 0 g → R (.ok (.ret (.ref (s.heap.objs.size + 4)))) { s with heap := g }) :=
  .of_wp fun prog w A R s h => by
    obtain ⟨hp, gs, d, tk, os⟩ := s; obtain ⟨t1, t2, h⟩ := h
    have hsub := sub_zip
    have T1 : Heap.IsTuple (Shared.heap ⟨hp, gs, d, tk, os⟩) a xs := t1
    have T2 : Heap.IsTuple (Shared.heap ⟨hp.push { cls := .type "tuple_iterator", data := .fields #[.ref a, .int 0 0] }, gs, d, tk, os⟩) b ys := Heap.IsTuple.push t2 _
    wp_walk using wpAny_pyIter_tuple T1, wpAny_pyIter_tuple T2
    have e1 := fun o => Heap.size_push hp (o := o)
    refine ⟨_, rfl, ?_⟩
    simp only [Heap.size_push] at h ⊢
    refine h _ (fun c o e => Heap.get?_push_of_some _ (Heap.get?_push_of_some _ (Heap.get?_push_of_some _ (Heap.get?_push_of_some _ (Heap.get?_push_of_some _ e))))) ⟨?_, ?_, ?_, ?_, ?_⟩
    · have e := Heap.get?_push_size (((((hp.push { cls := .type "tuple_iterator", data := .fields #[.ref a, .int 0 0] }).push { cls := .type "tuple_iterator", data := .fields #[.ref b, .int 0 0] }).push { cls := .type "tuple", data := .seq #[.ref hp.objs.size, .ref (hp.objs.size + 1)] })).push { cls := .type "tuple", data := .seq #[.none, .none] }) (o := { cls := .type "zip", data := .fields #[.none, .bool false, .bool false, .ref (hp.objs.size + 2), .ref (hp.objs.size + 3)] }) rfl
      simp only [Heap.size_push] at e
      exact e
    · have e := Heap.get?_push_size ((hp.push { cls := .type "tuple_iterator", data := .fields #[.ref a, .int 0 0] }).push { cls := .type "tuple_iterator", data := .fields #[.ref b, .int 0 0] }) (o := { cls := .type "tuple", data := .seq #[.ref hp.objs.size, .ref (hp.objs.size + 1)] }) rfl
      simp only [Heap.size_push] at e
      exact Heap.get?_push_of_some _ (Heap.get?_push_of_some _ e)
    · have e := Heap.get?_push_size ((((hp.push { cls := .type "tuple_iterator", data := .fields #[.ref a, .int 0 0] }).push { cls := .type "tuple_iterator", data := .fields #[.ref b, .int 0 0] }).push { cls := .type "tuple", data := .seq #[.ref hp.objs.size, .ref (hp.objs.size + 1)] })) (o := { cls := .type "tuple", data := .seq #[.none, .none] }) rfl
      simp only [Heap.size_push] at e
      exact ⟨_, _, Heap.get?_push_of_some _ e⟩
    · have e := Heap.get?_push_size hp (o := { cls := .type "tuple_iterator", data := .fields #[.ref a, .int 0 0] }) rfl
      exact ⟨_, Heap.get?_push_of_some _ (Heap.get?_push_of_some _ (Heap.get?_push_of_some _ (Heap.get?_push_of_some _ e))), rfl, rfl⟩
    · have e := Heap.get?_push_size (hp.push { cls := .type "tuple_iterator", data := .fields #[.ref a, .int 0 0] }) (o := { cls := .type "tuple_iterator", data := .fields #[.ref b, .int 0 0] }) rfl
      simp only [Heap.size_push] at e
      exact ⟨_, Heap.get?_push_of_some _ (Heap.get?_push_of_some _ (Heap.get?_push_of_some _ e)), rfl, rfl⟩
theorem call_zipT {a b : Addr} {xs ys : Array Value} {Q : Value → Shared → Prop} (t1 : s.heap.IsTuple a xs) (t2 : s.heap.IsTuple b ys)
    (q : ∀ g, (∀ c o, s.heap.get? c = some o → g.get? c = some o) → ZT (s.heap.objs.size + 4) (s.heap.objs.size + 2) (s.heap.objs.size + 3) s.heap.objs.size (s.heap.objs.size + 1) a b 0 g → Q (.ref (s.heap.objs.size + 4)) { s with heap := g }) :
    wpAny (model prog w) A (call (.type "zip") [.ref a, .ref b]) Q E s :=
  callType_new F.called_zip (by decide) (F.typeCall_zip_2 _ _) (F.newCall_zip_2 _ _) (fun obj => F.args_object_init_3 obj _ _) F.entry_zip_new (meets_zipT a b xs ys) ⟨t1, t2, fun g k Z => ⟨⟨_, Z.zz, rfl⟩, q g k Z⟩⟩
end
section
variable {X : Cx} {pins : List (Addr × Obj)} {σ : St} {H : Hp} {s : Shared} {h' : Heap}
theorem Inv.turnedL {t' : Nat} {fp : List Addr} (I : Inv X pins σ H s) (hf : ∀ b ∈ fp, FpOk X pins H b) (k : ∀ b o, b ∉ fp → s.heap.get? b = some o → h'.get? b = some o) : Inv X pins σ H { s with heap := h', toks := t' } := by
  have nit : ∀ b u, H b = some u → b ∉ fp := fun b u e z => by rw [(hf b z).1] at e; cases e
  refine I.step (g' := s.gens) (d' := s.drawn) (ch := fp) (fun b hb => ⟨(hf b hb).2.2.2.1, (hf b hb).2.1, (hf b hb).2.2.2.2.1, (hf b hb).2.2.2.2.2⟩) (fun b o _ _ hc e _ => k b o hc e) (fun b o _ _ hc e _ => ⟨o.slots, k b o hc e⟩) (fun _ _ _ _ n => n)
    (fun b o hc e => ⟨o, k b o hc e⟩) (fun _ _ e => e) (fun _ _ _ e => e) (fun b ps e => ⟨#[], by rw [e]; simp⟩) (fun m ⟨o, es, ep, ho, r⟩ => ⟨o, es, ep, k _ o (fun z => (hf _ z).2.1 rfl) ho, r⟩) (fun b u e => ?_) I.bare
  refine (I.hok b u e).stay (fun c v hc q => k c v ?_ q) (fun _ q => q) fun _ _ q => q
  rcases hc with z | z
  · rw [z]; exact nit b u e
  · exact nit c _ z
/-- a tuple that is read lies apart from a record of ours -/
theorem FpOk.apart {a b : Addr} {xs : List V} (I : Inv X pins σ H s) (f : FpOk X pins H b) (h : SqT X.K H a xs) : a ≠ b := by
  rintro rfl
  rcases h with (h | ⟨o, h⟩) | ⟨o, its, n, hk, hc, hs, hz, r⟩
  · rw [f.1] at h; cases h
  · rw [f.1] at h; cases h
  · have hb : X.base.get? a = some o := I.ok.mod.kin a o hk
    rcases f.2.2.2.1 with z | z
    · exact I.ok.noex a o hb z
    · exact absurd (Nat.lt_of_lt_of_le (Heap.lt_size hb) (Nat.le_trans I.ok.bsz z)) (Nat.lt_irrefl _)
end
def Itz (K : PySem.W.Frag) (a b : Addr) : It :=
  ⟨fun i H => ∃ xs ys x y, SqT K H a xs ∧ SqT K H b ys ∧ xs[i]? = some x ∧ ys[i]? = some y,
   fun i H v H' => ∃ p x y, H p = none ∧ v = .ref p ∧ H' = upd H p (.tup [x, y]) ∧ (∀ xs, SqT K H a xs → xs[i]? = some x) ∧ (∀ ys, SqT K H b ys → ys[i]? = some y),
   fun i H => ∃ xs ys, SqT K H a xs ∧ SqT K H b ys ∧ (xs.length ≤ i ∨ ys.length ≤ i)⟩
structure Five (z TI TO i1 i2 : Addr) : Prop where
  nd : [z, TI, TO, i1, i2].Nodup
theorem Five.of {z TI TO i1 i2 l1 l2 : Addr} (F : Five z TI TO i1 i2) (h1 : ∀ b ∈ [z, TI, TO, i1, i2], l1 ≠ b) (h2 : ∀ b ∈ [z, TI, TO, i1, i2], l2 ≠ b) : ZipApart z TI TO i1 i2 l1 l2 := by
  have nd := F.nd
  simp only [List.nodup_cons, List.mem_cons, not_or, List.not_mem_nil] at nd
  obtain ⟨⟨a1, a2, a3, a4, _⟩, ⟨b1, b2, b3, _⟩, ⟨c1, c2, _⟩, ⟨d1, _⟩, _⟩ := nd
  exact ⟨Ne.symm a1, Ne.symm a2, Ne.symm a3, Ne.symm a4, b1, b2, b3, c1, c2, d1, h1 _ (by simp), h1 _ (by simp), h1 _ (by simp), h1 _ (by simp), h2 _ (by simp), h2 _ (by simp), h2 _ (by simp), h2 _ (by simp)⟩
theorem turn_zipT {P : Program} {w : World} {K : PySem.W.Frag} {es : List Expr} {x1} {pos : Pos} (l1 l2 : Addr) {z TI TO i1 i2 : Addr} (F : Five z TI TO i1 i2) : Turn P w K (.Tuple es x1 pos) (Itz K l1 l2) [z, TI, TO, i1, i2] z (fun i h => ZT z TI TO i1 i2 l1 l2 i h) where
  mem := by simp
  obj := fun i h Z b hb => by
    simp only [List.mem_cons, List.not_mem_nil, or_false] at hb
    obtain ⟨hz, hti, ⟨a, c, hto⟩, ⟨o1, g1, c1, d1⟩, ⟨o2, g2, c2, d2⟩⟩ := Z
    rcases hb with rfl | rfl | rfl | rfl | rfl
    · exact ⟨_, hz, fun v q => by cases (show Data.fields _ = Data.cell v from q)⟩
    · exact ⟨_, hti, fun v q => by cases (show Data.seq _ _ = Data.cell v from q)⟩
    · exact ⟨_, hto, fun v q => by cases (show Data.seq _ _ = Data.cell v from q)⟩
    · exact ⟨_, g1, fun v q => by rw [d1] at q; cases q⟩
    · exact ⟨_, g2, fun v q => by rw [d2] at q; cases q⟩
  keep := fun i h h' Z k => by
    obtain ⟨hz, hti, ⟨a, c, hto⟩, s1, s2⟩ := Z
    exact ⟨k z (by simp) _ hz, k TI (by simp) _ hti, ⟨a, c, k TO (by simp) _ hto⟩, IsTupleIter.as s1 fun o e => k i1 (by simp) o e, IsTupleIter.as s2 fun o e => k i2 (by simp) o e⟩
  item := by
    intro X hP hw hK hc i pins s σ H E I hf Z hg
    subst hP hw hK
    obtain ⟨xs, ys, x, y, q1, q2, hx, hy⟩ := hg
    obtain ⟨its1, r1, p1, _⟩ := I.tuple q1
    obtain ⟨its2, r2, p2, _⟩ := I.tuple q2
    obtain ⟨u1, hu1, ru1⟩ := r1.get hx
    obtain ⟨u2, hu2, ru2⟩ := r2.get hy
    have D := F.of (fun b hb => FpOk.apart I (hf b hb) q1) (fun b hb => FpOk.apart I (hf b hb) q2)
    refine zipT_item D Z (show s.heap.IsTuple l1 its1.toArray from p1) (show s.heap.IsTuple l2 its2.toArray from p2) (x := u1) (y := u2) (by simpa using hu1) (by simpa using hu2) fun g z1 to1 n1 n2 nu kk => ⟨_, rfl, ?_⟩
    refine wpAny_letOwnedTupleGo_zip z1 fun g2 z2 sb => ?_
    have fr : H s.heap.objs.size = none := I.hok.fresh (Nat.le_refl _)
    have fp : ∀ b ∈ [z, TI, TO, i1, i2], FpOk X pins (upd H s.heap.objs.size (.tup [x, y])) b := fun b hb => by
      have lt : b ≠ s.heap.objs.size := by
        simp only [List.mem_cons, List.not_mem_nil, or_false] at hb
        obtain ⟨hz, hti, ⟨a, c, hto⟩, ⟨o1, g1, _⟩, ⟨o2, g2, _⟩⟩ := Z
        rcases hb with rfl | rfl | rfl | rfl | rfl
        · exact Nat.ne_of_lt (Heap.lt_size hz)
        · exact Nat.ne_of_lt (Heap.lt_size hti)
        · exact Nat.ne_of_lt (Heap.lt_size hto)
        · exact Nat.ne_of_lt (Heap.lt_size g1)
        · exact Nat.ne_of_lt (Heap.lt_size g2)
      exact ⟨by rw [upd_ne lt]; exact (hf b hb).1, (hf b hb).2⟩
    have I1 : Inv X pins σ (upd H s.heap.objs.size (.tup [x, y])) { s with heap := s.heap.push { cls := .type "tuple", data := .seq #[u1, u2] } } := I.laid (t' := s.toks) (fun b u e => Heap.get?_push_of_some _ e) (Nat.le_refl _) ⟨by simp [sizeLine], [u1, u2], .cons ru1 (.cons ru2 .nil), ⟨_, Heap.get?_push_size _ rfl, rfl, _, rfl⟩⟩
    have up : ∀ c o, c ≠ z → g.get? c = some o → g2.get? c = some o := fun c o cz e => sb.extBut _ _ cz e
    have zs : z ≠ s.heap.objs.size := Nat.ne_of_lt (Heap.lt_size Z.zz)
    have I2 : Inv X pins σ (upd H s.heap.objs.size (.tup [x, y])) { s with heap := g2 } := by
      refine Inv.turnedL (s := { s with heap := s.heap.push { cls := .type "tuple", data := .seq #[u1, u2] } }) (h' := g2) (t' := s.toks) I1 fp fun b o hb e => ?_
      have bz : b ≠ z := fun h => hb (by simp [h])
      rcases Heap.get?_push_cases e with ⟨e1, e2⟩ | e1
      · rw [e1, e2]
        exact up _ _ (Ne.symm zs) nu
      · exact up _ _ bz (kk b o (fun h => hb (by simp only [List.mem_cons, List.not_mem_nil, or_false] at h ⊢; rcases h with h | h | h | h <;> simp [h])) e1)
    exact ⟨.ref s.heap.objs.size, _, I2, rfl, ⟨_, x, y, fr, rfl, rfl, fun xs' h => by rw [I.tuple_inj h q1]; exact hx, fun ys' h => by rw [I.tuple_inj h q2]; exact hy⟩, ⟨z2, up _ _ D.TIz (kk _ _ (by simp [D.TIz, D.TITO, D.TIi1, D.TIi2]) Z.ti), ⟨_, _, up _ _ D.TOz to1⟩, IsTupleIter.as n1 fun o e => up _ o D.i1z e, IsTupleIter.as n2 fun o e => up _ o D.i2z e⟩, fun b hb => (fp b hb).1⟩
  done := by
    intro X hP hw hK hc i pins s σ H E I hf Z hg
    subst hP hw hK
    obtain ⟨xs, ys, q1, q2, he⟩ := hg
    obtain ⟨its1, r1, p1, _⟩ := I.tuple q1
    obtain ⟨its2, r2, p2, _⟩ := I.tuple q2
    have D := F.of (fun b hb => FpOk.apart I (hf b hb) q1) (fun b hb => FpOk.apart I (hf b hb) q2)
    have e1 := r1.length; have e2 := r2.length
    refine zipT_end (I.ok.hd hc) D Z (show s.heap.IsTuple l1 its1.toArray from p1) (show s.heap.IsTuple l2 its2.toArray from p2) ?_ fun g kk => ⟨rfl, Inv.turnedL (t' := s.toks) I hf fun b o hb e => kk b o (fun h => hb (by simp only [List.mem_cons, List.not_mem_nil, or_false] at h ⊢; rcases h with h | h | h | h <;> simp [h])) e⟩
    rcases he with h | h
    · exact .inl (by simp; omega)
    · exact .inr (by simp; omega)
  self := fun _ _ _ _ _ Z h => wpAny_pyIter_zip Z.zz h
section
variable {X : Cx}
def iZipT (K : PySem.W.Frag) (ta : TA) : TI := fun σ H R => ta σ H fun vs H1 => ∃ a b, vs = [.ref a, .ref b] ∧ (∃ xs, SqT K H1 a xs) ∧ (∃ ys, SqT K H1 b ys) ∧ R (Itz K a b) H1
theorem pi_zipT {es : List Expr} {x1} {tp : Pos} {a b : Expr} {ta : TA} {p pos : Pos} (hg : Gl X "zip") (hm : X.mg "zip" = none) (ha : PA X [a, b] ta) (hs : starEach [a, b] X.env = [(false, eval a X.env), (false, eval b X.env)] := by rfl) (hs2 : starEach [b] X.env = [(false, eval b X.env)] := by rfl) :
    PI X (.Tuple es x1 tp) (.Call (.Name "zip" p) [a, b] [] pos) (iZipT X.K ta) := by
  intro pins s σ H R I h
  refine Call_ (ld_blt I hg hm boot_zip (PyProof.Rows.callWith_type1 (thn (ha pos pins s σ H _ I h) fun us s1 ⟨vs, H1, I1, r1, q1⟩ => ?_) (by rw [hs, hs2]) (by rw [hs2]; rfl)))
  obtain ⟨l1, l2, e, ⟨xs, q1⟩, ⟨ys, q2⟩, q⟩ := q1
  subst e
  cases r1 with
  | cons r rr =>
    cases rr with
    | cons r' rr =>
      cases rr
      cases r
      cases r'
      obtain ⟨its1, _, p1, _⟩ := I1.tuple q1
      obtain ⟨its2, _, p2, _⟩ := I1.tuple q2
      refine call_zipT (show s1.heap.IsTuple l1 its1.toArray from p1) (show s1.heap.IsTuple l2 its2.toArray from p2) fun g k Z => wpAny_pyIter_zip Z.zz ?_
      refine ⟨_, _, _, _, H1, rfl, I1.kept (t' := s1.toks) k, turn_zipT l1 l2 ⟨by simp⟩, Z, fun b hb => ?_, q⟩
      have hb' : s1.heap.objs.size ≤ b := by
        simp only [List.mem_cons, List.not_mem_nil, or_false] at hb
        rcases hb with rfl | rfl | rfl | rfl | rfl <;> first | exact Nat.le_add_right _ _ | exact Nat.le_refl _
      exact I1.fpOk hb' (I1.hok.fresh hb')
end
end L2

namespace LwMx
open PySem PySem.Spec PyProof.Rows L2 Lw
/-! ### max(l, default=d), max(l): a list of ints -/
section
variable {prog : Program} {w : World} {A : Around} {R : Result → Shared → Prop} {J : Addr} {fp wr : List Addr} {n : Nat} {Pv : Nat → Value → Prop} {St : Nat → Heap → Prop}
theorem mxname : (toString "max" ++ toString ".loop" : String) = "max.loop" := by decide
theorem mx_turns (Wk : Walks prog w A.in1 J fp wr n Pv St) (gt : Nat → Nat → Bool) (cmp : CmpOf prog w A.in1 .Gt Pv gt) (B : Addr) (out : B ∉ fp) (kws : List (Str × Value)) :
    ∀ (k j : Nat) (s : Shared) (x : Value) (c : Nat), n - (j + 1) = k → j + 1 ≤ n → St (j + 1) s.heap → Pv (argBest gt j) x →
    s.heap.get? B = some { cls := .type "list", dict := none, data := .seq #[x, x] c, slots := #[] } →
    (∀ y h' tk, Pv (argBest gt (n - 1)) y → (∀ b o, b ∉ wr → b ≠ B → s.heap.get? b = some o → h'.get? b = some o) → R (.ok (.ret y)) { s with heap := h', toks := tk }) →
    codeAny (model prog w) A (.builtin "max.loop" ⟨[.ref J, .none, .ref B], kws⟩) R s := by
  have outw : B ∉ wr := fun z => out (Wk.sub _ z)
  intro k
  induction k with
  | zero =>
    intro j s x c hk hj st px hB hR
    have jn : j + 1 = n := by omega
    refine codeAny_builtin PySem.F.entry_max_loop ?_
    rw [Around.under_plainId PySem.F.plain_max_loop _]
    show wpAny _ A.in1 (seqItems? (.ref B) >>= _) _ _ s
    refine wpAny_bind (wpAny_seqItems hB rfl ?_)
    show wpAny _ A.in1 (tryCatch (pyNext (.ref J)) _ >>= _) _ _ s
    refine wpAny_bind (wpAny_tryCatch (Wk.done s _ _ (jn ▸ st) fun h1 t1 k1 => ?_))
    have hB1 := k1 B _ outw hB
    show wpAny _ A.in1 (updateSeq B (fun _ => #[]) >>= _) _ _ _
    refine wpAny_bind (wpAny_updateSeq hB1 rfl (wpAny_bind (wpAny_letGo (wpAny_pure ?_))))
    exact hR x _ t1 (by rw [← jn]; exact px) fun b o n1 n2 e => (Heap.get?_update_other _ _ (Ne.symm n2)).trans (k1 b o n1 e)
  | succ k ih =>
    intro j s x c hk hj st px hB hR
    have jn : j + 1 < n := by omega
    refine codeAny_builtin PySem.F.entry_max_loop ?_
    rw [Around.under_plainId PySem.F.plain_max_loop _]
    show wpAny _ A.in1 (seqItems? (.ref B) >>= _) _ _ s
    refine wpAny_bind (wpAny_seqItems hB rfl ?_)
    show wpAny _ A.in1 (tryCatch (pyNext (.ref J)) _ >>= _) _ _ s
    refine wpAny_bind (wpAny_tryCatch (Wk.item (j + 1) s _ _ jn st fun y h1 t1 py st1 k1 => ?_))
    have hB1 := k1 B _ outw hB
    show wpAny _ A.in1 (tryCatch (holding [y, y] (richCompare .Gt y x >>= _)) _ >>= _) _ _ _
    refine wpAny_bind (wpAny_tryCatch (wpAny_holding (wpAny_bind (cmp (j + 1) (argBest gt j) y x _ _ _ py px ?_))))
    refine wpAny_bind (wpAny_holding (wpAny_truthy_bool (wpAny_bind (wpAny_letGo (wpAny_pure ?_)))))
    cases hb : gt (j + 1) (argBest gt j) with
    | true =>
      simp only [if_true]
      refine wpAny_bind (wpAny_updateSeq hB1 rfl (wpAny_bind (wpAny_letGo ?_)))
      rw [mxname]
      refine wpAny_pure ⟨plainId_quiet PySem.F.plain_max_loop _, ih (j + 1) _ y _ (by omega) jn (Wk.frame _ _ _ st1 fun b hb' o e => ?_) (by simp only [argBest, hb, if_true]; exact py) (Heap.get?_update_self _ hB1 rfl) fun y' h2 t2 p2 k2 => ?_⟩
      · exact (Heap.get?_update_other _ _ (fun z : B = b => out (by rw [z]; exact hb'))).trans e
      · exact hR y' h2 t2 p2 fun b o n1 n2 e => k2 b o n1 n2 ((Heap.get?_update_other _ _ (Ne.symm n2)).trans (k1 b o n1 e))
    | false =>
      simp only [Bool.false_eq_true, if_false]
      refine wpAny_bind (wpAny_letGo ?_)
      rw [mxname]
      refine wpAny_pure ⟨plainId_quiet PySem.F.plain_max_loop _, ih (j + 1) _ x c (by omega) jn st1 (by simp only [argBest, hb, Bool.false_eq_true, if_false]; exact px) hB1 fun y' h2 t2 p2 k2 => ?_⟩
      exact hR y' h2 t2 p2 fun b o n1 n2 e => k2 b o n1 n2 (k1 b o n1 e)
theorem mx_start (Wk : Walks prog w A.in1 J fp wr n Pv St) (gt : Nat → Nat → Bool) (cmp : CmpOf prog w A.in1 .Gt Pv gt) (B : Addr) (out : B ∉ fp) (d : Value) {s : Shared} {c : Nat} (st : St 0 s.heap)
    (hB : s.heap.get? B = some { cls := .type "list", dict := none, data := .seq #[] c, slots := #[] })
    (h0 : n = 0 → ∀ h' tk, (∀ b o, b ∉ wr → b ≠ B → s.heap.get? b = some o → h'.get? b = some o) → R (.ok (.ret d)) { s with heap := h', toks := tk })
    (hR : 0 < n → ∀ y h' tk, Pv (argBest gt (n - 1)) y → (∀ b o, b ∉ wr → b ≠ B → s.heap.get? b = some o → h'.get? b = some o) → R (.ok (.ret y)) { s with heap := h', toks := tk }) :
    codeAny (model prog w) A (.builtin "max.loop" ⟨[.ref J, .none, .ref B], [("default", d)]⟩) R s := by
  have outw : B ∉ wr := fun z => out (Wk.sub _ z)
  refine codeAny_builtin PySem.F.entry_max_loop ?_
  rw [Around.under_plainId PySem.F.plain_max_loop _]
  show wpAny _ A.in1 (seqItems? (.ref B) >>= _) _ _ s
  refine wpAny_bind (wpAny_seqItems hB rfl ?_)
  show wpAny _ A.in1 (tryCatch (pyNext (.ref J)) _ >>= _) _ _ s
  by_cases hn : 0 < n
  · refine wpAny_bind (wpAny_tryCatch (Wk.item 0 s _ _ hn st fun y h1 t1 py st1 k1 => ?_))
    have hB1 := k1 B _ outw hB
    show wpAny _ A.in1 (updateSeq B (fun _ => #[y, y]) >>= _) _ _ _
    refine wpAny_bind (wpAny_updateSeq hB1 rfl ?_)
    rw [mxname]
    refine wpAny_pure ⟨plainId_quiet PySem.F.plain_max_loop _, mx_turns Wk gt cmp B out _ _ 0 _ y _ rfl hn (Wk.frame _ _ _ st1 fun b hb' o e => ?_) py (Heap.get?_update_self _ hB1 rfl) fun y' h2 t2 p2 k2 => ?_⟩
    · exact (Heap.get?_update_other _ _ (fun z : B = b => out (by rw [z]; exact hb'))).trans e
    · exact hR hn y' h2 t2 p2 fun b o n1 n2 e => k2 b o n1 n2 ((Heap.get?_update_other _ _ (Ne.symm n2)).trans (k1 b o n1 e))
  · have z : n = 0 := by omega
    subst z
    refine wpAny_bind (wpAny_tryCatch (Wk.done s _ _ st fun h1 t1 k1 => ?_))
    refine wpAny_bind (wpAny_rule (wpAny_pure ?_))
    exact h0 rfl _ t1 fun b o n1 n2 e => k1 b o n1 e
end
theorem mx_args (a v : Value) : argsOk "max" ⟨[a], [(Str.ofString "default", v)]⟩ := by unfold argsOk; kernel_rfl
section
variable {prog : Program} {w : World} {A : Around} {E : Value → Shared → Prop} {s : Shared}
theorem mx_call {x d : Value} {Q : Value → Shared → Prop}
    (h : wpAny (model prog w) A.in1 (pyIter x) (fun it s₂ => ∃ J fp wr n Pv St gt, it = .ref J ∧ Walks prog w A.in1 J fp wr n Pv St ∧ St 0 s₂.heap ∧ (∀ b ∈ fp, b < s₂.heap.objs.size) ∧ CmpOf prog w A.in1 .Gt Pv gt ∧
      (n = 0 → ∀ h' tk, (∀ b o, b ∉ wr → s₂.heap.get? b = some o → h'.get? b = some o) → Q d { s₂ with heap := h', toks := tk }) ∧
      (0 < n → ∀ v h' tk, Pv (argBest gt (n - 1)) v → (∀ b o, b ∉ wr → s₂.heap.get? b = some o → h'.get? b = some o) → Q v { s₂ with heap := h', toks := tk })) E s) :
    wpAny (model prog w) A (call (.builtin "max") [x] [(Str.ofString "default", d)]) Q E s := by
  refine kmb_tree PySem.F.kind_max PySem.F.plain_max PySem.F.entry_max (mx_args _ _) ?_
  show wpAny _ A.in1 (Builtin.Builtins.bindParams "max" ["key", "default"] 0 ⟨[], [(Str.ofString "default", d)]⟩ >>= _) _ _ s
  refine wpAny_bind (wpAny_of_eq (show Builtin.Builtins.bindParams "max" ["key", "default"] 0 ⟨[], [(Str.ofString "default", d)]⟩ = pure [none, some d] from rfl) ?_)
  refine wpAny_bind (wpAny_pure (wpAny_bind (wpAny_mono h (fun it s₂ h₂ => ?_) fun _ _ e => e)))
  obtain ⟨J, fp, wr, n, Pv, St, gt, rfl, Wk, st, lt, cmp, q0, q1⟩ := h₂
  refine wpAny_bind (wpAny_newObj_type ?_)
  have out : s₂.heap.objs.size ∉ fp := fun z => Nat.lt_irrefl _ (lt _ z)
  rw [mxname]
  have up : ∀ (h' : Heap), (∀ b o, b ∉ wr → b ≠ s₂.heap.objs.size → (s₂.heap.push { cls := .type "list", data := .seq ([] : List Value).toArray }).get? b = some o → h'.get? b = some o) → ∀ b o, b ∉ wr → s₂.heap.get? b = some o → h'.get? b = some o := fun h' k b o n1 e =>
    k b o n1 (Nat.ne_of_lt (Heap.lt_size e)) (Heap.get?_push_of_some _ e)
  refine wpAny_pure ⟨plainId_quiet PySem.F.plain_max_loop _, mx_start Wk gt cmp s₂.heap.objs.size out d (Wk.frame _ _ _ st fun b _ o e => Heap.get?_push_of_some _ e) (Heap.get?_push_size _ rfl) (fun z h' tk k => q0 z h' tk (up h' k)) fun z v h' tk p k => q1 z v h' tk p (up h' k)⟩
end
/-- the greatest of them -/
theorem best_is (ns : List Int) : ∀ k, k < ns.length → (argBest (fun i j => decide (ns.getD i 0 > ns.getD j 0)) k) ≤ k ∧ ∀ j, j ≤ k → ns.getD j 0 ≤ ns.getD (argBest (fun i j => decide (ns.getD i 0 > ns.getD j 0)) k) 0
  | 0, _ => ⟨Nat.le_refl _, fun j hj => by have : j = 0 := by omega
                                           subst this; exact Int.le_refl _⟩
  | k + 1, h => by
    obtain ⟨h1, h2⟩ := best_is ns k (by omega)
    simp only [argBest]
    split
    · rename_i hb
      have hb := of_decide_eq_true hb
      refine ⟨Nat.le_refl _, fun j hj => ?_⟩
      rcases Nat.lt_or_ge j (k + 1) with z | z
      · have := h2 j (by omega)
        omega
      · have : j = k + 1 := by omega
        subst this
        exact Int.le_refl _
    · rename_i hb
      refine ⟨by omega, fun j hj => ?_⟩
      rcases Nat.lt_or_ge j (k + 1) with z | z
      · exact h2 j (by omega)
      · have e : j = k + 1 := by omega
        have : ¬ ns.getD (k + 1) 0 > ns.getD (argBest (fun i j => decide (ns.getD i 0 > ns.getD j 0)) k) 0 := fun y => hb (decide_eq_true y)
        rw [e]
        omega
section
variable {X : Cx}
def rMaxD (d : Int) : List V → Hp → VK → Prop := fun xs H Q => ∃ (l : Addr) (ns : List Int), xs = [.ref l] ∧ H l = some (.lst (ns.map V.int)) ∧ (ns = [] → Q (.int d) H) ∧ ∀ m, m ∈ ns → (∀ x ∈ ns, x ≤ m) → Q (.int m) H
theorem call_maxD {pins : List (Addr × Obj)} {σ : L2.St} {H : Hp} {s : Shared} {l : Addr} {ns : List Int} {d : Int} {t : Tok} {Q : VK} (hc : X.calm = true) (I : Inv X pins σ H s) (hl : H l = some (.lst (ns.map V.int)))
    (q0 : ns = [] → Q (.int d) H) (q1 : ∀ m, m ∈ ns → (∀ x ∈ ns, x ≤ m) → Q (.int m) H) : wpAny (model X.prog X.w) X.A (call (.builtin "max") [.ref l] [(Str.ofString "default", .int d t)]) (EP X pins σ Q) X.xe s := by
  obtain ⟨its, rv, p, _⟩ := I.list (SqL.of hl)
  have i1 : IntsAre its ns := intsAre_of rv
  have il := ints_len i1
  have ha : l < s.heap.objs.size := by
    obtain ⟨o, _, e, _⟩ := p
    exact Heap.lt_size e
  have p' : s.heap.IsList l its.toArray := by
    obtain ⟨o, n, e, e2, _, e3⟩ := p
    exact ⟨o, e, e2, ⟨n, e3⟩⟩
  refine mx_call (wpAny_pyIter_list p' ?_)
  refine ⟨s.heap.objs.size, _, _, _, _, _, fun i j => decide (ns.getD i 0 > ns.getD j 0), rfl, Walks.list (show X.A.in1.handled = none from I.ok.hd hc) s.heap.objs.size l (Nat.ne_of_lt ha) its.toArray, ⟨⟨_, Heap.get?_push_size _ rfl, rfl, rfl⟩, p'.push _⟩, ?_, ?_, ?_, ?_⟩
  · intro b hb
    show b < (s.heap.push _).objs.size
    rw [Heap.size_push]
    simp only [List.mem_cons, List.not_mem_nil, or_false] at hb
    rcases hb with rfl | rfl
    · exact Nat.lt_succ_self _
    · exact Nat.lt_succ_of_lt ha
  · refine CmpOf.ints_gt (fun i => ns.getD i 0) fun i v hv => ?_
    have hv' : its[i]? = some v := by simpa using hv
    obtain ⟨hi, e⟩ := List.getElem?_eq_some_iff.mp hv'
    obtain ⟨n, t, e1, e2⟩ := ints_get i1 hi
    exact ⟨t, by rw [← e, e2, List.getD_eq_getElem?_getD, e1]; rfl⟩
  · intro z h' tk k
    have z' : ns = [] := by
      have : its.length = 0 := by simpa using z
      exact List.length_eq_zero_iff.mp (by omega)
    refine ⟨.int d, H, I.kept (t' := tk) (fun b o e => k b o ?_ (Heap.get?_push_of_some _ e)), ⟨t, rfl⟩, q0 z'⟩
    simp
    exact Nat.ne_of_lt (Heap.lt_size e)
  · intro z v h' tk hv k
    have z' : 0 < ns.length := by
      have : 0 < its.length := by simpa using z
      omega
    have sz : its.toArray.size = ns.length := by rw [List.size_toArray, il]
    rw [sz] at hv
    obtain ⟨b1, b2⟩ := best_is ns (ns.length - 1) (by omega)
    generalize argBest (fun i j => decide (ns.getD i 0 > ns.getD j 0)) (ns.length - 1) = i at hv b1 b2
    have hv' : its[i]? = some v := by simpa using hv
    obtain ⟨hi, e⟩ := List.getElem?_eq_some_iff.mp hv'
    obtain ⟨n, t, e1, e2⟩ := ints_get i1 hi
    have en : ns.getD i 0 = n := by rw [List.getD_eq_getElem?_getD, e1]; rfl
    refine ⟨.int n, H, I.kept (t' := tk) (fun b o e => k b o ?_ (Heap.get?_push_of_some _ e)), ⟨t, by rw [← e, e2]⟩, q1 n (List.mem_of_getElem? e1) fun x hx => ?_⟩
    · simp
      exact Nat.ne_of_lt (Heap.lt_size e)
    · obtain ⟨j, hj⟩ := List.mem_iff_getElem?.mp hx
      have hjl := (List.getElem?_eq_some_iff.mp hj).1
      have := b2 j (by omega)
      rw [en, List.getD_eq_getElem?_getD, hj] at this
      exact this
variable {p pos kpos : Pos} {e e2 : Expr} {es : List Expr} {t tk : TA}
def tMaxD (t tk : TA) : TE := fun σ H Q => t σ H fun vs H1 => tk σ H1 fun zs H2 => ∃ d, zs = [.int d] ∧ rMaxD d vs H2 Q
theorem pe_maxD (hc : X.calm = true) (hg : Gl X "max") (hm : X.mg "max" = none) (ha : PA X [e] t) (hk : PK X [⟨some "default", e2, kpos⟩] tk)
    (hall : (backToKw pos (keywordEach [⟨some "default", e2, kpos⟩] X.env)).all (·.1.isSome) = true := by rfl) (hks : (backToKw pos (keywordEach [⟨some "default", e2, kpos⟩] X.env)).filterMap (·.1) = [Str.ofString "default"] := by rfl)
    (he : starEach [e] X.env = [(false, eval e X.env)] := by rfl)
    (hpl : ((backTo pos (starEach [e] X.env)).any (·.1) || (backToKw pos (keywordEach [⟨some "default", e2, kpos⟩] X.env)).any (·.1.isNone)) = false := by rfl) :
    PE X (.Call (.Name "max" p) [e] [⟨some "default", e2, kpos⟩] pos) (tMaxD t tk) := by
  intro pins s σ H Q I h
  refine wpAny_Call_Name_kw (ld_blt I hg hm (show bootBuiltins "max" = some (.builtin "max") by decide +kernel) ?_ (by decide) (by decide))
  refine PySem.W.callWith_of (P := fun _ => True) hpl (fun _ _ => ⟨_, .inr (.inl rfl), PySem.W.Looks.of_pure rfl⟩) (evalArgs_kw2 hall (thn (ha pos pins s σ H _ I h) fun us s1 ⟨vs, H1, I1, r, q⟩ => ?_) he)
  refine thn (hk pos pins s1 σ H1 _ I1 q) fun ws s2 ⟨zs, H2, I2, rz, q2⟩ => ⟨trivial, ?_⟩
  rw [hks]
  obtain ⟨d, rfl, l, ns, rfl, hl, q0, q1⟩ := q2
  obtain ⟨u, rfl, ru⟩ := vals1 r
  cases ru
  obtain ⟨u, rfl, ⟨t, rfl⟩⟩ := vals1 rz
  exact call_maxD hc I2 hl q0 q1
/-- max(l) of a list that isn't empty -/
def rMax1 : List V → Hp → VK → Prop := fun xs H Q => ∃ (l : Addr) (ns : List Int), xs = [.ref l] ∧ H l = some (.lst (ns.map V.int)) ∧ ns ≠ [] ∧ ∀ m, m ∈ ns → (∀ x ∈ ns, x ≤ m) → Q (.int m) H
theorem call_max1 (hc : X.calm = true) : CallR X (.builtin "max") rMax1 := by
  intro pins s σ H xs us Q I r h
  obtain ⟨l, ns, rfl, hl, hne, q1⟩ := h
  obtain ⟨u, rfl, ru⟩ := vals1 r
  cases ru
  obtain ⟨its, rv, p, _⟩ := I.list (SqL.of hl)
  have i1 : IntsAre its ns := intsAre_of rv
  have il := ints_len i1
  have ha : l < s.heap.objs.size := by
    obtain ⟨o, _, e, _⟩ := p
    exact Heap.lt_size e
  have p' : s.heap.IsList l its.toArray := by
    obtain ⟨o, n, e, e2, _, e3⟩ := p
    exact ⟨o, e, e2, ⟨n, e3⟩⟩
  have np : 0 < ns.length := List.length_pos_iff.mpr hne
  refine call_max_walk (wpAny_pyIter_list p' ?_)
  refine ⟨s.heap.objs.size, _, _, _, _, _, fun i j => decide (ns.getD i 0 > ns.getD j 0), rfl, Walks.list (show X.A.in1.handled = none from I.ok.hd hc) s.heap.objs.size l (Nat.ne_of_lt ha) its.toArray, ⟨⟨_, Heap.get?_push_size _ rfl, rfl, rfl⟩, p'.push _⟩, ?_, ?_, ?_, ?_⟩
  · intro b hb
    show b < (s.heap.push _).objs.size
    rw [Heap.size_push]
    simp only [List.mem_cons, List.not_mem_nil, or_false] at hb
    rcases hb with rfl | rfl
    · exact Nat.lt_succ_self _
    · exact Nat.lt_succ_of_lt ha
  · rw [List.size_toArray, il]
    exact np
  · refine CmpOf.ints_gt (fun i => ns.getD i 0) fun i v hv => ?_
    have hv' : its[i]? = some v := by simpa using hv
    obtain ⟨hi, e⟩ := List.getElem?_eq_some_iff.mp hv'
    obtain ⟨n, t, e1, e2⟩ := ints_get i1 hi
    exact ⟨t, by rw [← e, e2, List.getD_eq_getElem?_getD, e1]; rfl⟩
  · intro v h' tk hv k
    have sz : its.toArray.size = ns.length := by rw [List.size_toArray, il]
    rw [sz] at hv
    obtain ⟨b1, b2⟩ := best_is ns (ns.length - 1) (by omega)
    generalize argBest (fun i j => decide (ns.getD i 0 > ns.getD j 0)) (ns.length - 1) = i at hv b1 b2
    have hv' : its[i]? = some v := by simpa using hv
    obtain ⟨hi, e⟩ := List.getElem?_eq_some_iff.mp hv'
    obtain ⟨n, t, e1, e2⟩ := ints_get i1 hi
    have en : ns.getD i 0 = n := by rw [List.getD_eq_getElem?_getD, e1]; rfl
    refine ⟨.int n, H, I.kept (t' := tk) (fun b o e => k b o ?_ (Heap.get?_push_of_some _ e)), ⟨t, by rw [← e, e2]⟩, q1 n (List.mem_of_getElem? e1) fun x hx => ?_⟩
    · simp
      exact Nat.ne_of_lt (Heap.lt_size e)
    · obtain ⟨j, hj⟩ := List.mem_iff_getElem?.mp hx
      have hjl := (List.getElem?_eq_some_iff.mp hj).1
      have := b2 j (by omega)
      rw [en, List.getD_eq_getElem?_getD, hj] at this
      exact this
end
end LwMx

/-! zip(t, l) of a tuple and a list -/
namespace L2
open PySem PySem.Spec PyProof.Rows
section
variable {prog : Program} {w : World} {A : Around} {E : Value → Shared → Prop} {s : Shared}
/-- the zip's five records as they stand ahead of a turn -/
structure ZU (z TI TO i1 i2 l1 l2 : Addr) (k : Nat) (h : Heap) : Prop where
  zz : IsZip h z TI TO .none
  ti : IsPair h TI (.ref i1) (.ref i2)
  to : ∃ a b, IsPair h TO a b
  one : h.IsTupleIter i1 l1 k
  two : h.IsListIter i2 l2 k
variable {z TI TO i1 i2 l1 l2 : Addr} {k : Nat} {xs ys : Array Value}
end
section
variable {X : Cx} {pins : List (Addr × Obj)} {σ : St} {H : Hp} {s : Shared} {h' : Heap}
/-- a list that is read lies apart from a record of ours -/
theorem FpOk.apartL {a b : Addr} {xs : List V} (I : Inv X pins σ H s) (f : FpOk X pins H b) (h : SqL X.K H a xs) : a ≠ b := by
  rintro rfl
  rcases h with (h | ⟨o, h⟩) | ⟨o, its, n, hk, hc, hs, hz, r⟩
  · rw [f.1] at h; cases h
  · rw [f.1] at h; cases h
  · have hb : X.base.get? a = some o := I.ok.mod.kin a o hk
    rcases f.2.2.2.1 with z | z
    · exact I.ok.noex a o hb z
    · exact absurd (Nat.lt_of_lt_of_le (Heap.lt_size hb) (Nat.le_trans I.ok.bsz z)) (Nat.lt_irrefl _)
end
section
variable {X : Cx}
end
end L2

/-! enumerate(t) of a tuple -/
namespace L2
open PySem PySem.Spec PyProof.Rows
section
open AutoSeq1 (wpAny_loadPart')
end
section
variable {prog : Program} {w : World} {A : Around} {E : Value → Shared → Prop} {s : Shared}
end
section
variable {X : Cx}
end
/-! ### the turns of a loop over what makes a new tuple each turn -/
end L2

namespace LwD
open PySem PySem.Spec PyProof.Rows L2 Lw
section
variable {X : Cx}
end
end LwD

namespace LwD
open PySem PySem.Spec PyProof.Rows L2 Lw
/-! ### a dict of tuple keys that is not written any more: frozen; its keys walked -/
section
variable {X : Cx} {pins : List (Addr × Obj)} {σ : L2.St} {H : Hp} {s : Shared}
theorem Inv.freeze {d : Addr} {kvs : List (List Key × V)} (I : Inv X pins σ H s) (e : H d = some (.dT kvs)) : ∃ o, Inv X pins σ (upd H d (.frz o (.dT kvs))) s := by
  have ob : ObjOk X.prog X.w H s.heap d (.dT kvs) := I.hok d _ e
  obtain ⟨z, lo, xs, rel, o, es, ep, ho, r⟩ := id ob
  refine ⟨o, ?_⟩
  have ne : ∀ {b : Addr} {u : HO}, H b = some u → (∀ k, u ≠ .dT k) → upd H d (.frz o (.dT kvs)) b = some u := fun {b u} q n => by
    rw [upd_ne (fun y => by rw [y, e] at q; cases q; exact n _ rfl)]
    exact q
  refine I.step (h' := s.heap) (g' := s.gens) (t' := s.toks) (d' := s.drawn) (ch := []) (fun _ y => nomatch y) (fun b u _ _ _ q _ => q) (fun b u _ _ _ q _ => ⟨u.slots, q⟩) (fun b u _ _ q => ?_) (fun b u _ q => ⟨u, q⟩) (fun b xs q => ne q fun _ y => by cases y) (fun b u v q => ne q fun _ y => by cases y)
    (fun b ps q => ⟨#[], by rw [ne q fun _ y => by cases y]; simp⟩) (fun m hm => hm) ?_ I.bare
  · rw [upd_ne (fun y => by rw [y, e] at q; cases q)]
    exact q
  · intro b u q
    by_cases hb : b = d
    · subst hb
      rw [upd_same] at q
      cases q
      exact ⟨ho, ob.stay (fun c v _ q => q) (fun c q => ne q fun _ y => by cases y) fun c xs q => ne q fun _ y => by cases y⟩
    · rw [upd_ne hb] at q
      exact (I.hok b u q).stay (fun c v _ q => q) (fun c q => ne q fun _ y => by cases y) fun c xs q => ne q fun _ y => by cases y
end
section
variable {X : Cx}
def tFrz (te : TE) : TE := fun σ H Q => te σ H fun v H1 => ∃ d kvs, v = .ref d ∧ H1 d = some (.dT kvs) ∧ ∀ o, Q v (upd H1 d (.frz o (.dT kvs)))
theorem pe_frz {e : Expr} {te : TE} (h : PE X e te) : PE X e (tFrz te) := by
  intro pins s σ H Q I hq
  refine thn (h pins s σ H _ I hq) fun u s1 ⟨x, H1, I1, r1, q1⟩ => ?_
  obtain ⟨d, kvs, rfl, hd, k⟩ := q1
  obtain ⟨o, I2⟩ := Inv.freeze I1 hd
  exact ⟨.ref d, _, I2, r1, k o⟩
end
def Itk (d : Addr) (o : Obj) (kvs : List (List Key × V)) (ys : List V) : It :=
  ⟨fun i H => H d = some (.frz o (.dT kvs)) ∧ i < ys.length, fun i H x H' => H' = H ∧ ys[i]? = some x, fun i H => H d = some (.frz o (.dT kvs)) ∧ i = ys.length⟩
theorem turn_keys {P : Program} {w : World} {K : PySem.W.Frag} {tg : Expr} (d it : Addr) {o : Obj} {es : Array DictEntry} {ep : Nat} {kvs : List (List Key × V)} {ys : List V} (xo : o.ExactDict) (ho : o.data = .dict es ep)
    (hy : ∀ (i : Nat) (h : i < es.size), ∃ b, es[i].key = .ref b ∧ ys[i]? = some (.ref b)) (hl : ys.length = es.size) : Turn P w K tg (Itk d o kvs ys) [it] it (fun i h => h.IsKeyIter it d i es.size ep) where
  mem := by simp
  obj := fun i h st b hb => by
    have e : b = it := by simpa using hb
    subst e
    obtain ⟨o, e, c, d⟩ := st
    exact ⟨o, e, fun v z => by rw [d] at z; cases z⟩
  keep := fun i h h' st k => st.at fun o e => k it (by simp) o e
  item := by
    intro X hP hw hK hc i pins s σ H E I hf st hg
    subst hP hw hK
    obtain ⟨hd, hi⟩ := hg
    have raw : Raw s.heap d es ep := ⟨o, (I.hok d _ hd).1, xo, ho⟩
    obtain ⟨b, eb, yb⟩ := hy i (by omega)
    obtain ⟨f0, f1, f2, f3, f4, f5⟩ := hf it (by simp)
    refine raw_next st raw (by omega) fun h' st' sb => ?_
    have I1 : Inv X pins σ H { s with heap := h' } := I.turned (t' := s.toks) (fun b o hb e => (sb.2 b hb).trans e) f0 f1 f3 f4 f5
    obtain ⟨oi, e, c, dd⟩ := id st'
    exact ⟨_, rfl, go_of (s := { s with heap := h' }) e c dd (by decide) ⟨.ref b, H, I1, by rw [eb]; rfl, ⟨rfl, yb⟩, st', fun b hb => (hf b hb).1⟩⟩
  done := by
    intro X hP hw hK hc i pins s σ H E I hf st hg
    subst hP hw hK
    obtain ⟨hd, hi⟩ := hg
    have raw : Raw s.heap d es ep := ⟨o, (I.hok d _ hd).1, xo, ho⟩
    obtain ⟨f0, f1, f2, f3, f4, f5⟩ := hf it (by simp)
    rw [hi, hl] at st
    exact raw_end (I.ok.hd hc) st raw fun h' eb => ⟨rfl, I.turned (t' := s.toks) (fun b o hb e => eb b o hb e) f0 f1 f3 f4 f5⟩
  self := fun _ _ _ _ _ st h => wpAny_pyIter_keyiter st h
section
variable {X : Cx}
def iKeys (te : TE) : TI := fun σ H R => te σ H fun v H1 => ∃ d o kvs, v = .ref d ∧ H1 d = some (.frz o (.dT kvs)) ∧ (∀ p ∈ kvs, ∃ ns : List Int, p.1 = ik ns) ∧ ∀ ys, Keyed H1 ys kvs → R (Itk d o kvs ys) H1
theorem pi_keys {tg l : Expr} {tl : TE} (hl : PE X l tl) : PI X tg l (iKeys tl) := by
  intro pins s σ H R I h
  refine thn (hl pins s σ H _ I h) fun v s1 ⟨x, H1, I1, r1, q1⟩ => ?_
  obtain ⟨d, o, kvs, rfl, hd, hk, q⟩ := q1
  cases r1
  obtain ⟨go, ob⟩ := I1.hok d _ hd
  obtain ⟨z, lo, ks, rel, o', es, ep, ho, xo, hdat, he, hn⟩ := (show ObjOk X.prog X.w H1 s1.heap d (.dT kvs) from ob)
  rw [go] at ho
  cases ho
  have esz : es.size = kvs.length := by rw [size_of_entries he, ← Paired.length rel]
  have itup : ∀ (j : Nat) (h : j < es.size), ∃ (b : Addr) (ns : List Int) (v : V), es[j].key = .ref b ∧ H1 b = some (.tup (ns.map V.int)) ∧ kvs[j]? = some (ik ns, v) := fun j hj => by
    have e1 := entry_at he j
    rw [Array.getElem?_eq_getElem hj] at e1
    cases e2 : ks[j]? with
    | none => rw [e2] at e1; cases e1
    | some x =>
      rw [e2] at e1
      have e3 : es[j] = entryOfKey _ x := Option.some.inj e1
      obtain ⟨v, m1, m2⟩ := KTgetI rel e2
      obtain ⟨ns, n1⟩ := hk _ (List.mem_of_getElem? m1)
      dsimp only at n1
      rw [n1] at m1 m2
      rw [ik_map] at m2
      exact ⟨x.2.1, ns, v, by rw [e3]; rfl, m2, m1⟩
  have kref : ∀ (j : Nat) (h : j < es.size), ∃ b : Addr, es[j].key = .ref b := fun j hj => let ⟨b, _, _, e, _⟩ := itup j hj; ⟨b, e⟩
  refine raw_iter lo ⟨o, go, xo, hdat⟩ ?_
  refine ⟨s1.heap.objs.size, [s1.heap.objs.size], _, _, H1, rfl, I1.kept (t' := s1.toks) fun b o e => Heap.get?_push_of_some _ e, turn_keys (kvs := kvs) d _ xo hdat (ys := es.toList.map fun e => match e.key with | .ref b => V.ref b | _ => V.non) ?_ (by simp), ⟨_, Heap.get?_push_size _ rfl, rfl, rfl⟩, fun b hb => ?_, q _ ⟨by simp [esz], fun i y p ey ep => ?_⟩⟩
  · intro i hi
    obtain ⟨b, e⟩ := kref i hi
    refine ⟨b, e, ?_⟩
    simp only [List.getElem?_map, Array.getElem?_toList, Array.getElem?_eq_getElem hi, Option.map_some, e]
  · have e : b = s1.heap.objs.size := by simpa using hb
    rw [e]
    exact I1.fpOk (Nat.le_refl _) (I1.hok.fresh (Nat.le_refl _))
  · have hi : i < es.size := by
      have := (List.getElem?_eq_some_iff.mp ey).1
      simpa using this
    obtain ⟨b, ns, v, e1, e2, e3⟩ := itup i hi
    simp only [List.getElem?_map, Array.getElem?_toList, Array.getElem?_eq_getElem hi, Option.map_some, e1, Option.some.injEq] at ey
    rw [e3] at ep
    cases ep
    exact ⟨b, ns, ey.symm, e2, rfl⟩
end
theorem for_keys {d : Addr} {o : Obj} {kvs : List (List Key × V)} {xs : List V} {g : TG} {tb : TS} {D : Ends} {σ : L2.St} {H : Hp} (Pv : Nat → L2.St → Hp → Prop) (h0 : Pv 0 σ H) (hl : ∀ i σ H, Pv i σ H → H d = some (.frz o (.dT kvs)))
    (hs : ∀ i x σ H, xs[i]? = some x → Pv i σ H → g x σ H fun σ2 H2 => tb { D with nx := Pv (i + 1), ct := Pv (i + 1), bk := D.nx } σ2 H2) (hd : ∀ σ H, Pv xs.length σ H → D.nx σ H) :
    ∃ W : Nat → Nat → L2.St → Hp → Prop, (∃ m, W 0 m σ H) ∧ ∀ i m σ H, W i m σ H →
      ((Itk d o kvs xs).stop i H ∧ D.nx σ H) ∨ ((Itk d o kvs xs).go i H ∧ ∃ N : L2.St → Hp → Prop, (∀ σ' H', N σ' H' → ∃ m', m' < m ∧ W (i + 1) m' σ' H') ∧ ∀ x H', (Itk d o kvs xs).yld i H x H' → g x σ H' fun σ2 H2 => tb { D with nx := N, ct := N, bk := D.nx } σ2 H2) := by
  refine ⟨fun i m σ H => m = xs.length - i ∧ i ≤ xs.length ∧ Pv i σ H, ⟨xs.length, by simp, Nat.zero_le _, h0⟩, ?_⟩
  rintro i m σ H ⟨rfl, hi, p⟩
  have q := hl i σ H p
  by_cases hlt : i < xs.length
  · refine .inr ⟨⟨q, hlt⟩, Pv (i + 1), fun σ' H' p' => ⟨xs.length - (i + 1), by omega, rfl, hlt, p'⟩, fun x H' y => ?_⟩
    obtain ⟨e, y⟩ := y
    subst e
    exact hs i x σ _ y p
  · have ei : i = xs.length := by omega
    subst ei
    exact .inl ⟨⟨q, rfl⟩, hd σ H p⟩
/-! ### a tuple of one thing, one to four times -/
section
variable {X : Cx}
/-! ### // of great numbers -/
def CDivP (i j : Int) : Prop := 0 < j ∧ Builtin.divisionGoesByPylong i j = false
theorem op_fdivP : OpR X (binaryOp .FloorDiv) (rI CDivP fun i j => .int (i / j)) := opI fun i j _ _ _ _ _ hc q => by
  refine floordiv_int (by have := hc.1; omega) ?_ (.inl hc.2)
  rw [Int.fdiv_eq_ediv_of_nonneg _ (Int.le_of_lt hc.1)]
  exact q
theorem cdivp_of {i j : Int} (h : CDivL i j) : CDivP i j := ⟨h.1, PyProof.noPylong_of_log2 (Nat.lt_of_lt_of_le (LwM.log2_lt (by decide) h.2) (by decide))⟩
/-- the divisor may be greater where the number divided isn't much greater -/
theorem cdivp_near {i j : Int} {m : Nat} (hj : 0 < j) (hm : m ≤ 13400) (hi : i.natAbs < 2 ^ m) : CDivP i j := by
  refine ⟨hj, ?_⟩
  by_cases h9 : j.natAbs.log2 < 9000
  · exact PyProof.noPylong_of_log2 h9
  · show (decide ((if j == 0 then 0 else j.natAbs.log2 / 30 + 1) > 300) && decide ((if i == 0 then 0 else i.natAbs.log2 / 30 + 1) > (if j == 0 then 0 else j.natAbs.log2 / 30 + 1) + 150)) = false
    rw [Bool.and_eq_false_iff]
    right
    refine decide_eq_false ?_
    have j0 : (j == 0) = false := by
      rw [beq_eq_false_iff_ne]
      omega
    rw [j0]
    simp only [Bool.false_eq_true, if_false]
    have : i.natAbs.log2 < 13440 := by
      by_cases z : i.natAbs = 0
      · rw [z]; decide +kernel
      · exact (Nat.log2_lt z).mpr (Nat.lt_of_lt_of_le hi (Nat.pow_le_pow_right (by decide) (by omega)))
    split <;> omega
end
end LwD

namespace LwE
open PySem PySem.W PySem.Calls PySem.Spec PyProof.Rows

/-! ### an exception of an own class whose __init__ is an own def of a base -/
/-- what is asked of the class at C, whose line of classes is bl -/
structure XCls (K : Frag) (C fI : Addr) (bl : List Value) (newId : String) : Prop where
  obj : ∃ nm q N bs hd sn sub ab col dd a0 a1 a2 a3 a5, K.lookup C = some (excClassObj nm q C N bs bl hd sn sub ab col dd a0 a1 a2 a3 a5 newId)
  isB : bl.contains (.type "ValueError") = true
  isBase : bl.contains (.type "BaseException") = true
  noAt : bl.contains (.type "AttributeError") = false
  noNm : bl.contains (.type "NameError") = false
  init : findIn K (.ref C) "__init__" = some (some (.ref fI))
  fn : typeIn K (.ref fI) = some (.type "function")
  kp : keepIn K (.ref C) = true
  ga : findIn K (.ref C) "__getattribute__" = some (some (.builtin "BaseException.__getattribute__"))
  gn : findIn K (.ref C) "__getattr__" = some none
  cl : findIn K (.ref C) "__class__" = some (some (.builtin "object.__class__"))
  obj' : mroIn K C (.type "object") = some true

section
variable {prog : Program} {w : World} {A : Around} {E : Value → Shared → Prop} {R : Result → Shared → Prop} {hp : Heap} {g : Array GenState} {d : Drawn} {tk : Nat} {os : OsState}
variable {nm q : Str} {C N : Addr} {bs bl bb : List Value} {hd : Bool} {sn : List Str} {sub : List Value} {ab : Bool} {col : Option Bool} {dd : Option Addr} {a0 a1 a2 a3 a5 : Option Value} {B newId initId : String}

theorem new_ok (F : ExcBaseFacts B newId initId bb) (zB : bl.contains (.type B) = true) {us : List Value} {Q : Unit → Shared → Prop} (o : hp.get? C = some (excClassObj nm q C N bs bl hd sn sub ab col dd a0 a1 a2 a3 a5 newId))
    (k : Q () ⟨hp, g, d, tk, os⟩) : wpAny (model prog w) A (checkBuiltinCall newId ⟨.ref C :: us, []⟩) Q E ⟨hp, g, d, tk, os⟩ := by
  have z : (Value.ref C :: bl).contains (.type B) = true := by rw [List.contains_cons, zB, Bool.or_true]
  have nostar := F.noStar
  simp only [checkBuiltinCall, F.newKind, F.newSplit, F.newRow]
  repeat (first | refine wpAny_loadPart_at o ?_ | (refine wpAny_isSubtype_exc o ?_; rw [z]) | refine wpAny_staticBase_exc o ?_
                | refine wpAny_madeBy_exc o ?_ | simp only [bne_self_eq_false, Bool.false_eq_true, if_false] | wp_step)
  exact k

theorem new_run (F : ExcBaseFacts B newId initId bb) (zB : bl.contains (.type B) = true) (zA : bl.contains (.type "AttributeError") = false) (zN : bl.contains (.type "NameError") = false)
    {us : List Value} (o : hp.get? C = some (excClassObj nm q C N bs bl hd sn sub ab col dd a0 a1 a2 a3 a5 newId))
    (k : R (.ok (.ret (.ref (hp.objs.size + 1)))) ⟨(hp.push { cls := .type "tuple", data := .seq us.toArray }).push
      { cls := .ref C, data := .fields #[.ref hp.objs.size, .none, .none, .none, .bool false, .none] }, g, d, tk, os⟩) (fits : us.length ≤ sizeLine) :
    codeAny (model prog w) A (.builtin newId ⟨.ref C :: us, []⟩) R ⟨hp, g, d, tk, os⟩ := by
  have ends := F.ends
  have y1 : (Value.ref C :: bl).contains (.type B) = true := by rw [List.contains_cons, zB, Bool.or_true]
  have y2 : (Value.ref C :: bl).contains (.type "AttributeError") = false := by rw [List.contains_cons, zA]; rfl
  have y3 : (Value.ref C :: bl).contains (.type "NameError") = false := by rw [List.contains_cons, zN]; rfl
  refine codeAny_builtinAt F.entry ?_
  unfold Builtin.«BaseException.__new__»
  refine PySem.wpAt_bind ?_
  show PySem.wpAt _ _ _ (stack >>= _) _ _ _
  refine PySem.wpAt_bind (PySem.wpAt_stack fun p below => PySem.wpAt_of_wpAny ?_)
  wp_walk
  refine PySem.wpAt_of_wpAny ?_
  rw [F.owner]
  repeat (first | with_reducible refine wpAny_madeHere_exc F.canon o ?_ | with_reducible refine wpAny_loadPart_at o ?_
                | (with_reducible refine wpAny_isSubtype_exc o ?_; first | rw [y1] | rw [y2] | rw [y3]) | wp_step)
  show R _ _
  rw [Heap.size_push]
  exact k

theorem make_run (F : ExcBaseFacts B newId initId bb) {K : Frag} {fI : Addr} (KI : K.In hp) (zB : bl.contains (.type B) = true) (zA : bl.contains (.type "AttributeError") = false) (zN : bl.contains (.type "NameError") = false)
    (zi : findIn K (.ref C) "__init__" = some (some (.ref fI))) (zf : typeIn K (.ref fI) = some (.type "function"))
    {us : List Value} {Q : Fin → Shared → Prop} (o : hp.get? C = some (excClassObj nm q C N bs bl hd sn sub ab col dd a0 a1 a2 a3 a5 newId))
    (k : ∀ h' e, hp.objs.size ≤ e → Heap.MadeExcOf hp h' e (.ref C) us →
      wpAny (model prog w) A (call (.ref fI) (.ref e :: us)) (fun r s' => r = .none ∧ Q (.done (.ret (.ref e))) s') E ⟨h', g, d, tk, os⟩) (fits : us.length ≤ sizeLine) :
    wpAny (model prog w) A (Builtin.«type.__call__» ⟨.ref C :: us, []⟩) Q E ⟨hp, g, d, tk, os⟩ := by
  repeat (first | with_reducible refine wpAny_loadPart_at o ?_ | with_reducible refine wpAny_madeBy_exc o ?_ | wp_step)
  refine codeAny_call_builtin_code (Code.quiet_builtin _ F.quiet) (new_ok F zB o ?_)
  refine new_run F zB zA zN o ?_ fits
  show wpAny _ _ _ _ _ _
  have kp : ∀ b ob, hp.get? b = some ob → ((hp.push { cls := .type "tuple", data := .seq us.toArray }).push { cls := .ref C, data := .fields #[.ref hp.objs.size, .none, .none, .none, .bool false, .none] }).get? b = some ob :=
    fun b ob e => Heap.get?_push_of_some _ (Heap.get?_push_of_some _ e)
  have o1 := kp _ _ o
  have oe : ((hp.push { cls := .type "tuple", data := .seq us.toArray }).push { cls := .ref C, data := .fields #[.ref hp.objs.size, .none, .none, .none, .bool false, .none] }).get? (hp.objs.size + 1)
      = some { cls := .ref C, data := .fields #[.ref hp.objs.size, .none, .none, .none, .bool false, .none] } := by heap_get
  have y : (Value.ref C :: bl).contains (.ref C) = true := by simp
  have K1 := KI.keeps kp
  unfold isInstance
  repeat (first | with_reducible refine wpAny_loadPart_at oe ?_ | (with_reducible refine wpAny_isSubtype_exc o1 ?_; rw [y]) | wp_step)
  show wpAny _ _ (typeLookup (.ref C) _) _ _ _
  refine (looks_findIn K1 zi).at ?_
  refine wpAny_holding (wpAny_bind ((bind_fn K1 (.ref (hp.objs.size + 1)) zf).at ?_))
  refine wpAny_bind (wpAny_mono (k _ (hp.objs.size + 1) (Nat.le_succ _) ⟨kp, Heap.get?_none_of_le (Nat.le_succ _), hp.objs.size, oe, Heap.get?_none_of_le (Nat.le_refl _), ?_⟩) (fun r s' hr => ?_) fun _ _ x => x)
  · exact Heap.get?_push_of_some _ (Heap.get?_push_at rfl rfl)
  · obtain ⟨rfl, hQ⟩ := hr
    wp_walk
    exact hQ

theorem exc_call (F : ExcBaseFacts B newId initId bb) {K : Frag} {fI : Addr} (KI : K.In hp) (zB : bl.contains (.type B) = true) (zA : bl.contains (.type "AttributeError") = false) (zN : bl.contains (.type "NameError") = false)
    (zi : findIn K (.ref C) "__init__" = some (some (.ref fI))) (zf : typeIn K (.ref fI) = some (.type "function"))
    {us : List Value} {Q : Value → Shared → Prop} (o : hp.get? C = some (excClassObj nm q C N bs bl hd sn sub ab col dd a0 a1 a2 a3 a5 newId))
    (k : ∀ h' e, hp.objs.size ≤ e → Heap.MadeExcOf hp h' e (.ref C) us →
      wpAny (model prog w) (A.under (.builtin "type.__call__" ⟨.ref C :: us, []⟩)) (call (.ref fI) (.ref e :: us)) (fun r s' => r = .none ∧ Q (.ref e) s') E ⟨h', g, d, tk, os⟩) (fits : us.length ≤ sizeLine) :
    wpAny (model prog w) A (call (.ref C) us) Q E ⟨hp, g, d, tk, os⟩ := by
  have u1 := tc_lookup
  have u2 := tc_bind (.ref C)
  have ty : (⟨hp, g, d, tk, os⟩ : Shared).TypeIs (.ref C) "type" := ⟨_, o, rfl⟩
  refine wpAny_call (codeAny_of_tree ?_)
  show wpAny _ _ (callAny (.ref C) _) _ _ _
  repeat (any_goals (first | assumption | with_reducible refine wpAny_loadPart_at o ?_ | wp_step))
  refine ⟨rfl, ?_⟩
  refine codeAny_call_builtin_at (Code.quiet_builtin _ (by decide +kernel)) entry_typeCall (wpAny_check_type_call_sub o (make_run F KI zB zA zN zi zf o (fun h' e hl hm => ?_) fits))
  exact k h' e hl hm
end
end LwE

namespace LwE
open PySem PySem.W PySem.Spec PyProof.Rows L2

/-- an exception of the class at C, as it was made -/
def excO (e C : Addr) : HO := .ext fun h => ∃ t, h.get? e = some { cls := .ref C, data := .fields #[.ref t, .none, .none, .none, .bool false, .none] }
theorem excO_ok {P : Program} {w : World} {H : Hp} {h : Heap} {e C t : Addr} (q : h.get? e = some { cls := .ref C, data := .fields #[.ref t, .none, .none, .none, .bool false, .none] }) : ObjOk P w H h e (excO e C) :=
  ⟨⟨t, q⟩, ⟨_, q⟩, fun _ _ ⟨t, z⟩ k => ⟨t, k _ z⟩⟩
theorem upd_self {H : Hp} {a : Addr} {o : HO} (e : H a = some o) : upd H a o = H := by
  funext b
  unfold upd
  by_cases h : b = a
  · rw [if_pos h, h, e]
  · rw [if_neg h]

/-- ValueError.__init__(self, text), of an exception under it -/
def tInit (K : Frag) (t : TA) : TE := fun σ H Q => t σ H fun vs H1 => ∃ e C fI bl nid v, vs = [.ref e, v] ∧ H1 e = some (excO e C) ∧ XCls K C fI bl nid ∧ Q .non H1
theorem vi_check {M : Model} {A : Around} {E : Value → Shared → Prop} {hp : Heap} {g : Array GenState} {d : Drawn} {tk : Nat} {os : OsState} {K : Frag} {C fI e : Addr} {bl : List Value} {nid : String} {oe : Obj} {us : List Value} {Q : Unit → Shared → Prop}
    (KI : K.In hp) (c : XCls K C fI bl nid) (he : hp.get? e = some oe) (hc : oe.cls = .ref C) (q : Q () ⟨hp, g, d, tk, os⟩) : wpAny M A (checkBuiltinCall "ValueError.__init__" ⟨.ref e :: us, []⟩) Q E ⟨hp, g, d, tk, os⟩ := by
  obtain ⟨nm, qn, N, bs, hd, sn, sub, ab, col, dd, a0, a1, a2, a3, a5, lk⟩ := c.obj
  have o := KI _ _ lk
  have y : (Value.ref C :: bl).contains (.type "ValueError") = true := by rw [List.contains_cons, c.isB, Bool.or_true]
  have nostar := PySem.F.excBase_ValueError.noStar
  simp only [checkBuiltinCall, PySem.F.excBase_ValueError.initKind, PySem.F.excBase_ValueError.initSplit, PySem.F.excBase_ValueError.initRow]
  repeat (first | (with_reducible refine wpAny_loadPart_at he ?_; rw [hc]) | with_reducible refine wpAny_loadPart_at o ?_
                | (with_reducible refine wpAny_isSubtype_exc o ?_; rw [y]) | wp_step)
  refine wpAny_onRaise ?_
  rw [show ∀ (a b : String) (n : Nat), Bind.check ⟨.positional, "*", "ValueError", .self, [⟨"args", .varPos, false⟩]⟩ a b n (List.map (fun x => x.fst) ({ pos := .ref e :: us } : Args).kw) = pure () from fun _ _ _ => check_star_args _ _ _ _ _ _]
  exact wpAny_pure q
theorem ve_type : typeOf (.type "ValueError") = pure (.type "type") := kitMeta_of (by decide +kernel)
section
variable {X : Cx} {e1 e2 : Expr} {t : TA} {np apos pos : Pos} {pl : Sem Bool}
theorem run_init {pins : List (Addr × Obj)} {σ : L2.St} {H : Hp} {s : Shared} {Q : VK} {e C fI : Addr} {bl : List Value} {nid : String} {u : Value} (I : Inv X pins σ H s) (he : H e = some (excO e C)) (hs : XCls X.K C fI bl nid) (q : Q .non H) :
    wpAny (model X.prog X.w) X.A (call (.builtin "ValueError.__init__") [.ref e, u]) (EP X pins σ Q) X.xe s := by
  obtain ⟨⟨tt, hx⟩, _⟩ := (show ObjOk X.prog X.w H s.heap e (excO e C) from I.hok e _ he)
  have I' := I
  obtain ⟨hp, g, d, tk, os⟩ := s
  refine wpAny_call (codeAny_call_builtin PySem.F.excBase_ValueError.init.plain PySem.F.excBase_ValueError.initEntry (vi_check I.kIn hs hx rfl ?_))
  wp_walk
  refine ⟨.non, H, ?_, rfl, q⟩
  have w := I'.write (x := e) (e := e) (o := excO e C) (t' := tk) (h' := (hp.push { cls := .type "tuple", data := .seq #[u] }).update e (Obj.mapFields (·.setIfInBounds 0 (.ref hp.objs.size)))) (by rw [he]; trivial) (.inl rfl) (fun b ob hb z => by
    rw [Heap.get?_update_other _ _ (Ne.symm hb)]
    exact Heap.get?_push_of_some _ z) ⟨_, Heap.get?_update_self _ (Heap.get?_push_of_some _ hx) rfl⟩ (excO_ok (t := hp.objs.size) (Heap.get?_update_self _ (Heap.get?_push_of_some _ hx) rfl))
  rw [upd_self he] at w
  exact w
theorem pe_baseInit (ha : PA X [e1, e2] t) (hg : Gl X "ValueError" := by rfl) (hm : X.mg "ValueError" = none)
    (hs : starEach [e1, e2] X.env = (false, eval e1 X.env) :: starEach [e2] X.env := by rfl) (hpl : (backTo pos (starEach [e2] X.env)).any (·.1) = false := by rfl)
    (ht : eval (.Call (.Attribute (.Name "ValueError" np) "__init__" apos) [e1, e2] [] pos) X.env = (do
      let ov ← eval (.Name "ValueError" np) X.env
      standAt apos.atName
      let (f, first) ← holding [ov] (getMethod ov "__init__" pl)
      callWith pos f first (backTo pos (starEach [e1, e2] X.env)) (backToKw pos (keywordEach [] X.env))) := by rfl) :
    PE X (.Call (.Attribute (.Name "ValueError" np) "__init__" apos) [e1, e2] [] pos) (tInit X.K t) := by
  intro pins s σ H Q I h
  refine methodCall_KW (pl := pl) (ld_blt I hg hm PyProof.Rows.Boot.«ValueError» ?_ (by decide) (by decide)) ht
  obtain ⟨m, fr⟩ := I.fr
  refine method_type (K := X.K) (v := .builtin "ValueError.__init__") fr I.ok.mod.kin ve_type (by decide +kernel) (by rfl) (by decide +kernel) ?_
  have J := I.tok (s.toks + 1)
  have hA := ha pos pins _ σ H _ J h
  rw [hs] at hA ⊢
  refine Calls.callWith_builtin (by show (false || (backTo pos (starEach [e2] X.env)).any (·.1)) = false; rw [hpl] <;> rfl) (Calls.evalArgs_plain ?_)
  refine thn hA fun us s2 ⟨vs, H2, I2, r2, e, C, fI, bl, nid, v, ev, he, hc, q⟩ => ?_
  subst ev
  obtain ⟨u1, u2, rfl, r3, r4⟩ := Vals.two r2
  cases r3
  exact run_init I2 he hc q
end

/-! ### LowwaterError.__init__ (a def with a default) -/
def spInit (K : Frag) : Sp := fun vs H Q _ => ∃ e C fI bl nid v, vs = [.ref e, v] ∧ H e = some (excO e C) ∧ XCls K C fI bl nid ∧ Q .non H
end LwE

namespace LwE
open PySem PySem.W PySem.Spec PyProof.Rows L2

/-! ### an exception in flight -/
/-- how it lies behind a call: B is the heap without the frames that run and without it -/
def CXF (P : Program) (w : World) : CXT := fun outer H s E v s' => ∃ (e C : Addr) (a0 : Value) (H' : Hp) (B : Heap), v = .ref e ∧ s.heap.objs.size ≤ e ∧ s'.os = s.os ∧ AllBare s'.gens ∧ Un (frs outer) [] H H' s.heap s'.heap ∧ HOk P w H' B ∧ H' e = none ∧
  Heap.FlyingW B outer e (.ref C) a0 s'.heap ∧ (∀ b o, s.heap.get? b = some o → b ∉ frs outer → (∃ o', B.get? b = some o') ∧ (H b = none → B.get? b = some o)) ∧ E (.ref C) none H'
section
variable {X : Cx} {pins : List (Addr × Obj)} {σ : L2.St} {H H' : Hp} {s : Shared} {B h' : Heap}
/-- what a flight leaves of the entry's heap -/
theorem un_fly (hx : X.ex = []) (I : Inv X pins σ H s) (st : B.StaysIn h') (up : s.heap.UpToSlots h') (cover : ∀ b o, X.s₀.heap.get? b = some o → b ∉ X.fs → (∃ o', B.get? b = some o') ∧ (X.H₀ b = none → B.get? b = some o))
    (fr : ∀ b o, X.s₀.heap.get? b = some o → H b = none → H' b = none) (tu : ∀ b xs, H b = some (.tup xs) → H' b = some (.tup xs)) (fz : ∀ b o u, H b = some (.frz o u) → H' b = some (.frz o u)) (tb : ∀ b ps, H b = some (.tbl ps) → H' b = some (.tbl ps)) :
    Un X.fs [] X.H₀ H' X.s₀.heap h' := by
  have nex : ∀ b : Addr, b ∉ X.ex := fun b z => by rw [hx] at z; exact absurd z (by simp)
  have nf : ∀ b o, b ∈ X.fs → s.heap.get? b = some o → ∃ sl, h'.get? b = some { o with slots := sl } := fun b o hb e => by
    obtain ⟨_, o', e', hd⟩ := I.funs.mem hb
    rw [e] at e'
    cases e'
    exact up b o e hd
  refine ⟨fun b o e n hb _ => st b o ((cover b o e hb).2 n), fun b o e n hb _ => ?_, fun b o e n _ => fr b o e (I.base.free b o e n (nex b)), fun b o e _ => ?_,
    fun b xs e => tu b xs (I.base.tups b xs e), fun b o u e => fz b o u (I.base.frzs b o u e), fun b ps e => ?_⟩
  · obtain ⟨sl, e1⟩ := I.base.slot b o e n hb (nex b)
    obtain ⟨sl', e2⟩ := nf b _ hb e1
    exact ⟨sl', e2⟩
  · by_cases hb : b ∈ X.fs
    · obtain ⟨o', e1⟩ := I.base.there b o e (nex b)
      obtain ⟨sl', e2⟩ := nf b _ hb e1
      exact ⟨_, e2⟩
    · obtain ⟨⟨o', e1⟩, _⟩ := cover b o e hb
      exact ⟨o', st b o' e1⟩
  · obtain ⟨m, e1⟩ := I.base.tbls b ps e
    exact ⟨m, tb b _ e1⟩
variable {P : Program} {w : World} {K : Frag} {mg : Str → Option Value} {base : Heap} {N : List Str} {qual : Str} {scope : Scope} {f : Addr} {cd : Value} {A : Around} {outer : List Env} {s0 : Shared} {H0 : Hp} {E : XK}
/-- it leaves the def that made it -/
theorem leave_new {e C : Addr} (I : Inv (cxOf (CXF P w) P w K mg base N qual scope f cd A outer s0 H0 E) pins σ (upd H e (excO e C)) s) (hn : H e = none) (he : s0.heap.objs.size ≤ e) (q : E (.ref C) none H) :
    (cxOf (CXF P w) P w K mg base N qual scope f cd A outer s0 H0 E).xe (.ref e) s := by
  obtain ⟨⟨t, hx⟩, _⟩ := (show ObjOk P w (upd H e (excO e C)) s.heap e (excO e C) from I.hok e _ upd_same)
  have hfr : ∀ b ∈ frs (envOfC qual scope s0.heap.objs.size f cd :: outer), upd H e (excO e C) b = none := I.stkFree
  have nfr : ∀ b o, upd H e (excO e C) b = some o → b ∉ frs (envOfC qual scope s0.heap.objs.size f cd :: outer) := fun b o z hb => by rw [hfr b hb] at z; cases z
  have hB : ∀ b o, s.heap.get? b = some o → b ≠ e → b ∉ frs (envOfC qual scope s0.heap.objs.size f cd :: outer) → (hideAll s.heap (e :: frs (envOfC qual scope s0.heap.objs.size f cd :: outer))).get? b = some o := fun b o z h1 h2 =>
    hideAll_get _ z fun hm => (List.mem_cons.mp hm).elim h1 h2
  have cover : ∀ b o, s0.heap.get? b = some o → b ∉ frs outer → (∃ o', (hideAll s.heap (e :: frs (envOfC qual scope s0.heap.objs.size f cd :: outer))).get? b = some o') ∧ (H0 b = none → (hideAll s.heap (e :: frs (envOfC qual scope s0.heap.objs.size f cd :: outer))).get? b = some o) := fun b o z hb => by
    have lt := Heap.lt_size z
    have b1 : b ≠ e := Nat.ne_of_lt (Nat.lt_of_lt_of_le lt he)
    have b2 : b ∉ frs (envOfC qual scope s0.heap.objs.size f cd :: outer) := fun hm => (List.mem_cons.mp hm).elim (fun y => Nat.lt_irrefl s0.heap.objs.size (by have y' : b = s0.heap.objs.size := y; rw [y'] at lt; exact lt)) hb
    obtain ⟨o', e1⟩ := I.base.there b o z (by show b ∉ []; simp)
    exact ⟨⟨o', hB b o' e1 b1 b2⟩, fun n => hB b o (I.base.keep b o z n hb (by show b ∉ []; simp)) b1 b2⟩
  have ne_e : ∀ b (u : HO), upd H e (excO e C) b = some u → (∀ φ, u ≠ .ext φ) → H b = some u := fun b u z hu => by
    by_cases hb : b = e
    · subst hb
      rw [upd_same] at z
      cases z
      exact absurd rfl (hu _)
    · rw [upd_ne hb] at z
      exact z
  have hok : HOk P w H (hideAll s.heap (e :: frs (envOfC qual scope s0.heap.objs.size f cd :: outer))) := fun a o z => by
    have ha : a ≠ e := ne_of_none z hn
    have z' : upd H e (excO e C) a = some o := by rw [upd_ne ha]; exact z
    refine (I.hok a o z').stay (fun b u hb e1 => ?_) (fun b e1 => ne_e b _ e1 (fun φ y => by cases y)) fun b xs e1 => ne_e b _ e1 (fun φ y => by cases y)
    rcases hb with rfl | hb
    · exact hB _ u e1 ha (nfr _ _ z')
    · exact hB _ u e1 (ne_of_none (ne_e b _ hb fun φ y => by cases y) hn) (nfr _ _ hb)
  show wpAny (model P w) (A.deeper (envOfC qual scope s0.heap.objs.size f cd)) (leaving (envOfC qual scope s0.heap.objs.size f cd) (.ref e)) _ _ s
  refine wpAny_leaving_firstW (base := hideAll s.heap (e :: frs (envOfC qual scope s0.heap.objs.size f cd :: outer))) (L := s0.heap.objs.size) (a0 := .ref t) I.ok.frames
    (funFrames_hide I.stack fun env hm b hb => List.mem_cons_of_mem _ (List.mem_filterMap.mpr ⟨env, hm, hb⟩)) rfl hx (fun b o z => of_hideAll _ z) (hideAll_none _ (List.mem_cons_self ..)) rfl rfl rfl fun h' ⟨k1, k2, k3, k4⟩ => ?_
  refine ⟨e, C, .ref t, H, _, rfl, he, I.os, I.bare, ?_, hok, hn, ⟨k1, hideAll_none _ (List.mem_cons_self ..), k2.2.2, k3⟩, cover, q⟩
  refine un_fly (X := cxOf (CXF P w) P w K mg base N qual scope f cd A outer s0 H0 E) rfl I k1 k4 cover (fun b o z n => ?_) (fun b xs z => ne_e b _ z (fun φ y => by cases y)) (fun b o u z => ne_e b _ z (fun φ y => by cases y)) (fun b ps z => ne_e b _ z (fun φ y => by cases y))
  have lt := Heap.lt_size z
  rw [upd_ne (Nat.ne_of_lt (Nat.lt_of_lt_of_le lt he))] at n
  exact n
/-- it passes a def that it came to from a call -/
theorem pass_fly : Passes (CXF P w) (cxOf (CXF P w) P w K mg base N qual scope f cd A outer s0 H0 E) E := by
  rintro pins σ H s v s' I ⟨e, C, a0, H', B, rfl, he, ho, bare, un, hok, hn, fly, cover, q⟩
  have I' : Inv (cxOf (CXF P w) P w K mg base N qual scope f cd A outer s0 H0 E) pins σ H' s' := I.call' ho un (hok.kept fly.1) bare fun _ z => nomatch z
  have cov : ∀ b o, s0.heap.get? b = some o → b ∉ frs outer → (∃ o', B.get? b = some o') ∧ (H0 b = none → B.get? b = some o) := fun b o z hb => by
    have lt := Heap.lt_size z
    have nb : b ∉ frs (envOfC qual scope s0.heap.objs.size f cd :: outer) := fun hm => (List.mem_cons.mp hm).elim (fun y => Nat.lt_irrefl s0.heap.objs.size (by have y' : b = s0.heap.objs.size := y; rw [y'] at lt; exact lt)) hb
    obtain ⟨o', e1⟩ := I.base.there b o z (by show b ∉ []; simp)
    refine ⟨(cover b o' e1 nb).1, fun n => ?_⟩
    exact (cover b o (I.base.keep b o z n hb (by show b ∉ []; simp)) nb).2 (I.base.free b o z n (by show b ∉ []; simp))
  show wpAny (model P w) (A.deeper (envOfC qual scope s0.heap.objs.size f cd)) (leaving (envOfC qual scope s0.heap.objs.size f cd) (.ref e)) _ _ s'
  refine wpAny_leaves_onW (L := s0.heap.objs.size) I.ok.frames rfl fly fun h' k1 k4 => ?_
  refine ⟨e, C, a0, H', B, rfl, Nat.le_trans I.sz he, I'.os, I'.bare, ?_, hok, hn, k1, cov, q⟩
  exact un_fly (X := cxOf (CXF P w) P w K mg base N qual scope f cd A outer s0 H0 E) rfl I' k1.1 k4 cov (fun _ _ _ n => n) (fun _ _ z => z) (fun _ _ _ z => z) (fun _ _ z => z)
end
end LwE

namespace LwE
open PySem PySem.W PySem.Spec PyProof.Rows L2

section
variable {pins : List (Addr × Obj)} {σ : L2.St} {H H' : Hp} {s : Shared}
variable {P : Program} {w : World} {K : Frag} {mg : Str → Option Value} {base : Heap} {N : List Str} {qual : Str} {scope : Scope} {f : Addr} {cd : Value} {A : Around} {outer : List Env} {s0 : Shared} {H0 : Hp} {E : XK}
variable {C fI : Addr} {fdI : FuncData} {bl : List Value} {k : Nat} {x : Str} {np cpos pos : Pos} {e1 : Expr} {te : TE}
/-- C(text): the exception, made; it is tracked -/
theorem run_exc {X : Cx} {Q : VK} {us : List Value} {v : V} (c : XCls X.K C fI bl "ValueError.__new__") (G : FnOk X.prog X.w X.K X.mg X.base CX0 k fI fdI ["self", "text"] (spInit X.K)) (hr : Room (k + 1) X.A) (b : Binds X.K fdI ["self", "text"] [])
    (I : Inv X pins σ H s) (r : Vals [v] us) (h : ∀ e, H e = none → X.s₀.heap.objs.size ≤ e → Q (.ref e) (upd H e (excO e C))) : wpAny (model X.prog X.w) X.A (call (.ref C) us) (EP X pins σ Q) X.xe s := by
  obtain ⟨nm, qn, N', bs, hd, sn, sub, ab, col, dd, a0, a1, a2, a3, a5, lk⟩ := c.obj
  have o := I.kIn _ _ lk
  have lim : us.length ≤ sizeLine := by rw [← r.length]; show 1 ≤ sizeLine; decide
  have I0 := I
  have sz := I.sz
  obtain ⟨hp, g, d, tk, os⟩ := s
  refine exc_call PySem.F.excBase_ValueError I.kIn c.isB c.noAt c.noNm c.init c.fn o (fun h' e hle hm => ?_) lim
  obtain ⟨t, ht, _, _⟩ := hm.there
  have hn : H e = none := I0.hok.fresh hle
  have I2 : Inv X pins σ (upd H e (excO e C)) ⟨h', g, d, tk, os⟩ := I0.laid (t' := tk) hm.keeps hle (excO_ok ht)
  have r2 : Vals [V.ref e, v] (.ref e :: us) := .cons rfl r
  refine wpAny_call (codeAny_mono (G.run _ X.stack _ (upd H e (excO e C)) ⟨.ref e :: us, []⟩ (.ref e :: us) [.ref e, v] (fun y H2 => y = .non ∧ H2 = upd H e (excO e C)) E0 (hr.make C us []) (I2.env0.make C us []) ?_ r2
    ⟨e, C, fI, bl, _, v, rfl, upd_same, c, rfl, rfl⟩) fun r s' hq => ?_)
  · have z := b ⟨h', g, d, tk, os⟩ (.ref e :: us) I2.kIn (by rw [List.append_nil, ← r2.length]; rfl)
    rw [List.append_nil] at z
    exact z
  · cases r with
    | error y => exact False.elim hq
    | ok fl =>
      cases fl with
      | ret u =>
        obtain ⟨y, H3, I3, ry, ey, e3⟩ := I2.after hq
        subst ey e3
        exact ⟨ry, ⟨.ref e, _, I3, rfl, h e hn (Nat.le_trans sz hle)⟩⟩
      | next => exact False.elim hq
      | brk => exact False.elim hq
      | cont => exact False.elim hq
def tRaise (C : Addr) (E : XK) (te : TE) : TS := fun _ σ H => tCons te tNil σ H fun vs H1 => ∃ v, vs = [v] ∧ E (.ref C) none H1
theorem ps_raise (c : XCls K C fI bl "ValueError.__new__") (G : FnOk P w K mg base CX0 k fI fdI ["self", "text"] (spInit K)) (b : Binds K fdI ["self", "text"] [])
    (hr : Room (k + 1) (cxOf (CXF P w) P w K mg base N qual scope f cd A outer s0 H0 E).A) (hg : Gl (cxOf (CXF P w) P w K mg base N qual scope f cd A outer s0 H0 E) x) (hm : mg x = some (.ref C))
    (he : PE (cxOf (CXF P w) P w K mg base N qual scope f cd A outer s0 H0 E) e1 te) (hdb : (x == ("__debug__" : Str)) = false := by decide)
    (hs : starEach [e1] (cxOf (CXF P w) P w K mg base N qual scope f cd A outer s0 H0 E).env = (false, eval e1 (cxOf (CXF P w) P w K mg base N qual scope f cd A outer s0 H0 E).env) :: starEach [] (cxOf (CXF P w) P w K mg base N qual scope f cd A outer s0 H0 E).env := by rfl) :
    PS (cxOf (CXF P w) P w K mg base N qual scope f cd A outer s0 H0 E) (.Raise (some (.Call (.Name x np) [e1] [] cpos)) none pos) (tRaise C E te) := by
  intro pins s σ H D I h
  obtain ⟨nm, qn, N', bs, hd, sn, sub, ab, col, dd, a0, a1, a2, a3, a5, lk⟩ := id c.obj
  rw [arm_exec_Raise]
  refine wpAny_bind (wpAny_standAt (wpAny_raiseStmt_made_sub (C := C) (nm := nm) (q := qn) (N := N') (bs := bs) (bm := bl) (hdct := hd) (sn := sn) (sub := sub) (ab := ab) (col := col) (dd := dd) (k0 := a0) (k1 := a1) (k2 := a2) (k3 := a3) (k5 := a5) (newId := "ValueError.__new__") c.isBase (I.ok.hd rfl) ?_))
  have go : wpAny (model P w) (cxOf (CXF P w) P w K mg base N qual scope f cd A outer s0 H0 E).A (eval (.Call (.Name x np) [e1] [] cpos) (cxOf (CXF P w) P w K mg base N qual scope f cd A outer s0 H0 E).env)
      (EP (cxOf (CXF P w) P w K mg base N qual scope f cd A outer s0 H0 E) pins σ fun v H2 => ∃ e H1, v = .ref e ∧ H1 e = none ∧ s0.heap.objs.size ≤ e ∧ H2 = upd H1 e (excO e C) ∧ E (.ref C) none H1) (cxOf (CXF P w) P w K mg base N qual scope f cd A outer s0 H0 E).xe s := by
    refine wpAny_Call_Name_kw (ld_glob I hg hm ?_ hdb)
    refine PySem.W.callWith_K (h₀ := base) I.ok.mod.kin c.kp (thn ((pa_cons he pa_nil hs) cpos pins s σ H _ I h) fun us s1 ⟨vs, H1, I1, r, v, ev, q⟩ => ⟨I1.kIn, ?_⟩) hs rfl
    subst ev
    exact run_exc (X := cxOf (CXF P w) P w K mg base N qual scope f cd A outer s0 H0 E) c G hr b I1 r fun e hn hle => ⟨e, H1, rfl, hn, hle, rfl, q⟩
  refine wpAny_bind (wpAny_mono go (fun v s1 h1 => wpAny_bind (wpAny_standAt (wpAny_pure ?_))) fun _ _ z => z)
  obtain ⟨v', H2, I2, rv, e, H1, rfl, hn, hle, rfl, q⟩ := h1
  cases rv
  obtain ⟨⟨t, hx⟩, _⟩ := (show ObjOk P w (upd H1 e (excO e C)) s1.heap e (excO e C) from I2.hok e _ upd_same)
  exact ⟨e, t, rfl, I2.kIn _ _ lk, hx, leave_new I2 hn hle q⟩
end
end LwE

namespace LwE
open PySem PySem.W PySem.Spec PyProof.Rows L2

/-- a caught exception: its class alone is kept in mind -/
def excH (e C : Addr) : HO := .ext fun h => ∃ o, h.get? e = some o ∧ o.cls = .ref C
theorem excH_ok {P : Program} {w : World} {H : Hp} {h : Heap} {e C : Addr} {o : Obj} (q : h.get? e = some o) (c : o.cls = .ref C) : ObjOk P w H h e (excH e C) :=
  ⟨⟨o, q, c⟩, ⟨o, q⟩, fun _ _ ⟨o, z, c⟩ k => ⟨o, k _ z, c⟩⟩
/-- in the suite of a handler -/
abbrev hdl (X : Cx) (e : Addr) : Cx := { X with A := X.A.mark (some (.ref e)), calm := false, xe := fun _ _ => False }
section
variable {X : Cx} {pins : List (Addr × Obj)} {σ : L2.St} {H H' H1 : Hp} {s : Shared}
theorem hdl_in {e : Addr} (I : Inv X pins σ H s) : Inv (hdl X e) pins σ H s :=
  ⟨⟨I.ok.mod, I.ok.kind, I.ok.glob, I.ok.blt, I.ok.above, I.ok.inj, I.ok.has, I.ok.cab, fun z => Bool.noConfusion z, I.ok.frames, I.ok.stk, I.ok.exf, I.ok.bs, I.ok.bsz, I.ok.noex, I.ok.exfs, I.ok.funs, I.ok.frf⟩,
    I.os, I.bare, I.base, I.loc, I.cell, I.free, I.freeC, I.pin, I.hok, I.len⟩
theorem hdl_out {e : Addr} (ok : X.Ok) (I : Inv (hdl X e) pins σ H s) : Inv X pins σ H s := ⟨ok, I.os, I.bare, I.base, I.loc, I.cell, I.free, I.freeC, I.pin, I.hok, I.len⟩
/-- a wish of one state -/
def XP (X : Cx) (pins : List (Addr × Obj)) (σ : L2.St) (E : XK) (v : Value) (s' : Shared) : Prop := ∃ H1 s1, Inv X pins σ H1 s1 ∧ CXF X.prog X.w X.stack H1 s1 E v s'
theorem un_up {fs : List Addr} {h0 h1 h2 B : Heap} (un : Un fs [] H1 H' h0 h1) (nf : ∀ b o, b ∈ fs → h1.get? b = some o → ∀ vs, o.data ≠ .fields vs) (st : B.StaysIn h2) (up : h1.UpToSlots h2)
    (cover : ∀ b o, h0.get? b = some o → b ∉ fs → (∃ o', B.get? b = some o') ∧ (H1 b = none → B.get? b = some o)) : Un fs [] H1 H' h0 h2 := by
  refine ⟨fun b o e n hb _ => st b o ((cover b o e hb).2 n), fun b o e n hb hx => ?_, un.free, fun b o e hx => ?_, un.tups, un.frzs, un.tbls⟩
  · obtain ⟨sl, e1⟩ := un.slot b o e n hb hx
    obtain ⟨sl', e2⟩ := up b _ e1 (nf b _ hb e1)
    exact ⟨sl', e2⟩
  · by_cases hb : b ∈ fs
    · obtain ⟨o', e1⟩ := un.there b o e hx
      obtain ⟨sl', e2⟩ := up b _ e1 (nf b _ hb e1)
      exact ⟨_, e2⟩
    · obtain ⟨⟨o', e1⟩, _⟩ := cover b o e hb
      exact ⟨o', st b o' e1⟩
/-- a thing that came since the entry is tracked from here on -/
theorem track {a : Addr} {o : HO} (hx : X.ex = []) (I : Inv X pins σ H s) (hn : H a = none) (hle : X.s₀.heap.objs.size ≤ a) (hL : a ≠ X.env.locals) (hc : ∀ x c, X.env.cells.lookup x = some c → c ≠ a) (hp : ∀ p ∈ X.pn ++ pins, p.1 ≠ a)
    (new : ∀ H, ObjOk X.prog X.w H s.heap a o) : Inv X pins σ (upd H a o) s := by
  have nb : ∀ b q, X.s₀.heap.get? b = some q → b ≠ a := fun b q z => Nat.ne_of_lt (Nat.lt_of_lt_of_le (Heap.lt_size z) hle)
  refine ⟨I.ok, I.os, I.bare, ⟨I.base.keep, I.base.slot, fun b q e n hb => ?_, I.base.there, fun b xs e => ?_, fun b q u e => ?_, fun b ps e => ?_⟩, I.loc, I.cell, ?_, fun x c e => ?_, fun p z => ?_, fun b u e => ?_, I.len⟩
  · rw [upd_ne (nb b q e)]
    exact I.base.free b q e n hb
  · have z := I.base.tups b xs e
    rw [upd_ne (ne_of_none z hn)]
    exact z
  · have z := I.base.frzs b q u e
    rw [upd_ne (ne_of_none z hn)]
    exact z
  · obtain ⟨m, z⟩ := I.base.tbls b ps e
    exact ⟨m, by rw [upd_ne (ne_of_none z hn)]; exact z⟩
  · rw [upd_ne (Ne.symm hL)]
    exact I.free
  · rw [upd_ne (hc x c e)]
    exact I.freeC x c e
  · obtain ⟨z1, z2, z3, z4, z5⟩ := I.pin p z
    exact ⟨z1, by rw [upd_ne (hp p z)]; exact z2, z3, z4, z5⟩
  · by_cases hb : b = a
    · subst hb
      rw [upd_same] at e
      cases e
      exact new _
    · rw [upd_ne hb] at e
      refine (I.hok b u e).stay (fun _ _ _ z => z) (fun c z => ?_) fun c xs z => ?_
      · rw [upd_ne (ne_of_none z hn)]
        exact z
      · rw [upd_ne (ne_of_none z hn)]
        exact z
/-- the handler's name goes -/
theorem unbind_ok {M : Model} {A : Around} {E : Value → Shared → Prop} {j : Nat} {n : Str} {pos : Pos} {Q : Unit → Shared → Prop} (I : Inv X pins σ H s) (hN : X.N.Nodup) (hj : X.N[j]? = some n) (hk : X.env.kindOf n = some .local)
    (h : ∀ s', Inv X pins (σ.set j none) H s' → Q () s') : wpAny M A (do bindName X.env n .none; unbindBehindTheSuite X.env n pos) Q E s := by
  obtain ⟨m, hn, hl⟩ := id I.loc
  have cne := I.cne
  have hcls : (X.env.scope.kind == .class || (X.env.scope.kind == .module && X.env.locals != X.env.globals)) = false := by rw [I.ok.kind]; rfl
  have hjσ : j < σ.length := by rw [I.len]; exact (List.getElem?_eq_some_iff.mp hj).1
  refine wpAny_nameGoes_keeps hk hn hcls fun h' v hn' hs => ?_
  have ab : ∀ b q, X.s₀.heap.get? b = some q → b ≠ X.env.locals := fun b q e => Nat.ne_of_lt (Nat.lt_of_lt_of_le (Heap.lt_size e) I.ok.above)
  refine h _ ⟨I.ok, I.os, I.bare, ⟨fun b o e n hb hx => (hs.2 b (ab b o e)).trans (I.base.keep b o e n hb hx), fun b o e n hb hx => ?_, I.base.free, fun b o e hx => ?_, I.base.tups, I.base.frzs, I.base.tbls⟩, ⟨_, hn', fun i y v' e1 e2 e3 => ?_⟩, fun y c e => ?_, I.free, I.freeC, fun p hp => ?_, fun b ob e => ?_, by simpa using I.len⟩
  · obtain ⟨sl, e1⟩ := I.base.slot b o e n hb hx
    exact ⟨sl, (hs.2 b (ab b o e)).trans e1⟩
  · obtain ⟨o', e1⟩ := I.base.there b o e hx
    exact ⟨o', (hs.2 b (ab b o e)).trans e1⟩
  · by_cases hi : i = j
    · subst hi
      rw [List.getElem?_set_self hjσ] at e2
      cases e2
    · rw [List.getElem?_set_ne (Ne.symm hi)] at e2
      obtain ⟨u', r', q⟩ := hl i y v' e1 e2 e3
      refine ⟨u', r', ?_⟩
      rcases q with ⟨k, e⟩ | ⟨k, c, e, z⟩
      · refine .inl ⟨k, ?_⟩
        by_cases hy : y = n
        · subst hy
          exact absurd (nodup_ix hN e1 hj) hi
        · simp [hy, e]
      · exact .inr ⟨k, c, e, z.sameBut hs (cne y c e)⟩
  · obtain ⟨w', z⟩ := I.cell y c e
    exact ⟨w', z.sameBut hs (cne y c e)⟩
  · obtain ⟨e, n, ne, nf, d⟩ := I.pin p hp
    exact ⟨(hs.2 p.1 ne).trans e, n, ne, nf, d⟩
  · refine (I.hok b ob e).stay (fun c w' hc q => (hs.2 c ?_).trans q) (fun _ q => q) fun _ _ q => q
    rintro rfl
    rcases hc with rfl | hc
    · rw [I.free] at e; cases e
    · rw [I.free] at hc; cases hc
end
end LwE

namespace LwE
open PySem PySem.W PySem.Spec PyProof.Rows L2

/-- an exception of the class at C is one of that at D, above it -/
theorem exc_match {M : Model} {A : Around} {E : Value → Shared → Prop} {hp : Heap} {g : Array GenState} {d : Drawn} {tk : Nat} {os : OsState} {K : Frag} {C D fC fD e : Addr} {bl bd : List Value} {n1 n2 : String} {oe : Obj} {Q : Bool → Shared → Prop}
    (KI : K.In hp) (c : XCls K C fC bl n1) (cd : XCls K D fD bd n2) (up : bl.contains (.ref D) = true) (he : hp.get? e = some oe) (hc : oe.cls = .ref C) (q : Q true ⟨hp, g, d, tk, os⟩) : wpAny M A (excMatches (.ref e) (.ref D)) Q E ⟨hp, g, d, tk, os⟩ := by
  obtain ⟨nm, qn, N, bs, hd, sn, sub, ab, col, dd, a0, a1, a2, a3, a5, lk⟩ := c.obj
  obtain ⟨nm', qn', N', bs', hd', sn', sub', ab', col', dd', b0, b1, b2, b3, b5, lk'⟩ := cd.obj
  have o := KI _ _ lk
  have o' := KI _ _ lk'
  have y1 : (Value.ref D :: bd).contains (.type "BaseException") = true := by rw [List.contains_cons, cd.isBase, Bool.or_true]
  have y2 : (Value.ref C :: bl).contains (.ref D) = true := by rw [List.contains_cons, up, Bool.or_true]
  have f := tc_notTuple
  unfold excMatches
  repeat (first | (with_reducible refine wpAny_loadPart_at he ?_; rw [hc]) | with_reducible refine wpAny_loadPart_at o' ?_
                | (with_reducible refine wpAny_isSubtype_exc o' ?_; rw [y1]) | (with_reducible refine wpAny_isSubtype_exc o ?_; rw [y2]) | wp_step)
  exact q

section
variable {X : Cx} {k : Nat} {f : Addr} {fd : FuncData} {ps : List Str} {sp : Sp} {x : Str} {p pos : Pos} {e : Expr} {es : List Expr} {t : TA}
/-- f(..), which may raise -/
theorem ex_call (hxe : X.xe = fun _ _ => False) (F : FnOk X.prog X.w X.K X.mg X.base (CXF X.prog X.w) k f fd ps sp) (hr : Room k X.A) (hg : Gl X x) (hm : X.mg x = some (.ref f)) (hk : PySem.W.keepIn X.K (.ref f) = true) (hb : Binds X.K fd ps [])
    (ha : PA X (e :: es) t) {pins : List (Addr × Obj)} {s : Shared} {σ : L2.St} {H : Hp} {Q : VK} {E : XK} (I : Inv X pins σ H s) (h : tCall sp [] E t σ H Q)
    (hdb : (x == ("__debug__" : Str)) = false := by decide) (he : starEach (e :: es) X.env = (false, eval e X.env) :: starEach es X.env := by rfl) (hpl : (backTo pos (starEach es X.env)).any (·.1) = false := by rfl) :
    wpAny (model X.prog X.w) X.A (eval (.Call (.Name x p) (e :: es) [] pos) X.env) (EP X pins σ Q) (XP X pins σ E) s := by
  refine wpAny_Call_Name_kw (ld_glob I hg hm ?_ hdb)
  refine PySem.W.callWith_K (h₀ := X.base) I.ok.mod.kin hk (wpAny_mono (ha pos pins s σ H _ I h) (fun us s1 ⟨vs, H1, I1, r, q⟩ => ⟨I1.kIn, ?_⟩) fun _ _ z => ?_) he hpl
  · have q : sp (vs ++ []) H1 Q E := q
    rw [List.append_nil] at q
    have hl : us.length = ps.length := by rw [← r.length]; exact F.len _ _ _ _ q
    have z := hb s1 us I1.kIn (by rw [List.append_nil]; exact hl)
    rw [List.append_nil] at z
    refine wpAny_call (codeAny_mono (F.run X.A X.stack s1 H1 ⟨us, []⟩ us vs Q E hr I1.env0 z r q) fun r s' hq => ?_)
    cases r with
    | error y => exact ⟨H1, s1, I1, hq⟩
    | ok fl =>
      cases fl with
      | ret u => exact I1.after hq
      | next => exact False.elim hq
      | brk => exact False.elim hq
      | cont => exact False.elim hq
  · rw [hxe] at z
    exact z.elim
/-- statements that may raise; the slots stand as they stood where it raises -/
def PBx (X : Cx) (b : List Stmt) (t : XK → TS) : Prop :=
  ∀ (pins : List (Addr × Obj)) (s : Shared) (σ : L2.St) (H : Hp) (D : Ends) (E : XK), Inv X pins σ H s → t E D σ H → wpAny (model X.prog X.w) X.A (execs b X.env) (SP X pins D) (XP X pins σ E) s
/-- the handler's suite in its own context, then the name goes -/
def tCatch (K : Frag) (D j : Nat) (tb : XK → TS) (ts : TS) : TS := fun Ed σ H => ∃ E : XK, tb E Ed σ H ∧ ∀ (c : Value) (H' : Hp), E c none H' → ∃ (C fC : Addr) (bl : List Value) (n1 : String), c = .ref C ∧ XCls K C fC bl n1 ∧ bl.contains (.ref D) = true ∧
  ∀ e, H' e = none → ts { nx := fun σ2 H2 => Ed.nx (σ2.set j none) H2, bk := fun σ2 H2 => Ed.bk (σ2.set j none) H2, ct := fun σ2 H2 => Ed.ct (σ2.set j none) H2, rt := Ed.rt } (σ.set j (some (.ref e))) (upd H' e (excH e C))
theorem ps_catch {D fD : Addr} {bd : List Value} {n2 : String} {body : List Stmt} {cl n : Str} {b0 : Stmt} {suite : List Stmt} {np hpos tpos : Pos} {j : Nat} {tb : XK → TS} {ts : TS} (hex : X.ex = []) (hxe : X.xe = fun _ _ => False)
    (stk : X.stack = X.env :: X.outer) (frm : X.env.frame = some X.env.locals) (cd : XCls X.K D fD bd n2) (hg : Gl X cl) (hm : X.mg cl = some (.ref D)) (hN : X.N.Nodup) (hj : X.N[j]? = some n) (hk : X.env.kindOf n = some .local)
    (hb : PBx X body tb) (hs : ∀ e, PSs (hdl X e) (b0 :: suite) ts) (hdb : (cl == ("__debug__" : Str)) = false := by decide) :
    PS X (.Try body [.ExceptHandler (some (.Name cl np)) (some n) (b0 :: suite) hpos] [] [] tpos) (tCatch X.K D j tb ts) := by
  intro pins s σ H Ed I ⟨E, hbody, hcont⟩
  refine wpAny_Try_except (wpAny_mono (hb pins s σ H Ed E I hbody) (fun fl s1 h1 => ?_) fun v s1 h1 => ?_)
  · cases fl with
    | next => exact wpAny_execs_nil h1
    | brk => exact h1
    | cont => exact h1
    | ret u => exact h1
  · obtain ⟨H1, sc, I1, e, C, a0, H', B, rfl, hle, ho, bare, un, hok, hn, fly, cover, q⟩ := h1
    obtain ⟨C', fC, bl, n1, ec, c, up, hts⟩ := hcont _ _ q
    cases ec
    have nf : ∀ b o, b ∈ frs X.stack → s1.heap.get? b = some o → ∀ vs, o.data ≠ .fields vs := fun b o hb z => by
      obtain ⟨_, o', z', hd⟩ := fly.2.2.1.mem hb
      rw [z] at z'
      cases z'
      exact hd
    have inv : ∀ h2 : Heap, B.StaysIn h2 → s1.heap.UpToSlots h2 → Inv X pins σ H' { s1 with heap := h2 } := fun h2 st u2 =>
      I1.call' (s' := { s1 with heap := h2 }) ho (un_up un nf st u2 cover) (hok.kept st) bare fun _ z => nomatch z
    have hfr : X.A.frames = some (X.env :: X.outer) := by rw [← stk]; exact I.ok.frames
    rw [stk] at fly
    refine wpAny_looks_onW hfr frm fly fun h4 held4 up4 => ?_
    refine wpAny_landsW held4 fun h5 fly5 up5 => ?_
    have I5 := inv h5 fly5.1 (up4.trans up5)
    obtain ⟨oe, hoe, hoc⟩ := fly5.there
    refine wpAny_handleBy_cons (codeAny_handlers_test (ld_glob (X := hdl X e) (hdl_in I5) hg hm ?_ hdb)) (by intro z; cases z)
    have KI := I5.kIn
    obtain ⟨hp1, g1, d1, tk1, os1⟩ := s1
    refine exc_match KI c cd up hoe hoc ?_
    refine codeAny_handlers_suite_as (lands_againW fly5 fun h6 fly6 up6 => ?_)
    have I6 := inv h6 fly6.1 ((up4.trans up5).trans up6)
    obtain ⟨o6, h6e, h6c⟩ := fly6.there
    have hsz : X.s₀.heap.objs.size ≤ e := Nat.le_trans I1.sz hle
    have hL : e ≠ X.env.locals := fun z => Nat.lt_irrefl e (Nat.lt_of_lt_of_le (by rw [z]; exact I1.lt) hle)
    have I7 : Inv X pins σ (upd H' e (excH e C)) { (⟨hp1, g1, d1, tk1, os1⟩ : Shared) with heap := h6 } := track hex I6 hn hsz hL (fun x c z => by obtain ⟨_, o, ho, _⟩ := I1.cell x c z; exact Nat.ne_of_lt (Nat.lt_of_lt_of_le (Heap.lt_size ho) hle)) (fun p z => Nat.ne_of_lt (Nat.lt_of_lt_of_le (Heap.lt_size (I1.pin p z).1) hle)) fun H => excH_ok h6e h6c
    refine store_ok I7 hN hj (Or.inl hk) (v := .ref e) rfl (fun s8 I8 => ?_) (.inr hk)
    refine wpAny_mono (hs e pins s8 _ _ _ (hdl_in I8) (hts e hn)) (fun fl s9 h9 => ?_) fun _ _ z => z.elim
    cases fl with
    | next =>
      obtain ⟨σ2, H2, I9, q9⟩ := h9
      exact unbind_ok (hdl_out I.ok I9) hN hj hk fun s' I' => ⟨_, H2, I', q9⟩
    | brk =>
      obtain ⟨σ2, H2, I9, q9⟩ := h9
      exact unbind_ok (hdl_out I.ok I9) hN hj hk fun s' I' => ⟨_, H2, I', q9⟩
    | cont =>
      obtain ⟨σ2, H2, I9, q9⟩ := h9
      exact unbind_ok (hdl_out I.ok I9) hN hj hk fun s' I' => ⟨_, H2, I', q9⟩
    | ret u =>
      obtain ⟨v, σ2, H2, I9, rv, q9⟩ := h9
      exact unbind_ok (hdl_out I.ok I9) hN hj hk fun s' I' => ⟨v, _, H2, I', rv, q9⟩
/-- f(..) as a row of its own -/
theorem pbx_expr {t : TA} {pos' : Pos} (hxe : X.xe = fun _ _ => False) (F : FnOk X.prog X.w X.K X.mg X.base (CXF X.prog X.w) k f fd ps sp) (hr : Room k X.A) (hg : Gl X x) (hm : X.mg x = some (.ref f)) (hk : PySem.W.keepIn X.K (.ref f) = true) (hb : Binds X.K fd ps [])
    (ha : PA X (e :: es) t) (hdb : (x == ("__debug__" : Str)) = false := by decide) (he : starEach (e :: es) X.env = (false, eval e X.env) :: starEach es X.env := by rfl) (hpl : (backTo pos (starEach es X.env)).any (·.1) = false := by rfl)
    (hs : swapsWith (.Call (.Name x p) (e :: es) [] pos) none pos'.line X.env = pure false := by rfl) : PBx X [.Expr (.Call (.Name x p) (e :: es) [] pos) pos'] (fun E => tDrop (tCall sp [] E t)) := by
  intro pins s σ H D E I h
  refine wpAny_execs_cons (wpAny_Expr_any (wpAny_mono (ex_call hxe F hr hg hm hk hb ha I h hdb he hpl) (fun v s1 ⟨y, H1, I1, r1, q1⟩ => ?_) fun _ _ z => z) I.quiet hs)
  exact wpAny_execs_nil ⟨σ, H1, I1, q1⟩
/-- x = f(..) -/
theorem pbx_set {t : TA} {pos' pos2 : Pos} {i : Nat} {y : Str} (hxe : X.xe = fun _ _ => False) (hN : X.N.Nodup) (hi : X.N[i]? = some y) (hy : X.env.scope.names.lookup y = some .local) (F : FnOk X.prog X.w X.K X.mg X.base (CXF X.prog X.w) k f fd ps sp) (hr : Room k X.A) (hg : Gl X x) (hm : X.mg x = some (.ref f))
    (hk : PySem.W.keepIn X.K (.ref f) = true) (hb : Binds X.K fd ps []) (ha : PA X (e :: es) t) (hdb : (x == ("__debug__" : Str)) = false := by decide) (he : starEach (e :: es) X.env = (false, eval e X.env) :: starEach es X.env := by rfl)
    (hpl : (backTo pos (starEach es X.env)).any (·.1) = false := by rfl) (hs : swapsWith (.Call (.Name x p) (e :: es) [] pos) (some (.Name y pos2)) pos'.line X.env = pure false := by rfl) :
    PBx X [.Assign [.Name y pos2] (.Call (.Name x p) (e :: es) [] pos) pos'] (fun E => tAsg (tCall sp [] E t) (gName i)) := by
  intro pins s σ H D E I h
  refine wpAny_execs_cons (wpAny_Assign_Name (wpAny_mono (ex_call hxe F hr hg hm hk hb ha I h hdb he hpl) (fun v s1 ⟨z, H1, I1, r1, q1⟩ => ?_) fun _ _ z => z) hs)
  exact store_ok I1 hN hi (Or.inl hy) r1 (fun s2 I2 => wpAny_execs_nil ⟨_, H1, I2, q1⟩) (.inr hy)
end
end LwE

namespace LwE
open PySem PySem.W PySem.Calls PySem.Spec PyProof.Rows L2

section
variable {prog : Program} {w : World} {A : Around} {E : Value → Shared → Prop} {hp : Heap} {g : Array GenState} {d : Drawn} {tk : Nat} {os : OsState} {K : Frag} {C fC a : Addr} {bl : List Value} {n1 : String} {o : Obj}
theorem ga_slot : Slot "BaseException" "__getattribute__" "BaseException.__getattribute__" :=
  .of (owner := "BaseException") (n := "__getattribute__") (by rw [typeLookup_type, builtinLookup_eq_fast]; kernel_rfl) (by decide +kernel) (by decide +kernel) (by decide +kernel)
    (by first | exact .inl (by decide +kernel) | exact .inr (by decide +kernel)) (by rw [isSubtype_type]; kernel_rfl)
theorem ga_kind : builtinKind "BaseException.__getattribute__" = some .slot := by decide +kernel
theorem ga_split : splitId "BaseException.__getattribute__" = some ("BaseException", "__getattribute__") := by decide +kernel
theorem cls_get {R : Result → Shared → Prop} (KI : K.In hp) (c : XCls K C fC bl n1) (hx : hp.get? a = some o) (hc : o.cls = .ref C) (q : R (.ok (.ret (.ref C))) ⟨hp, g, d, tk, os⟩) :
    codeAny (model prog w) A (.call (.builtin "getset_descriptor.__get__") ⟨[.builtin "object.__class__", .ref a, .ref C], []⟩) R ⟨hp, g, d, tk, os⟩ := by
  have t5 : (⟨hp, g, d, tk, os⟩ : Shared).TypeIs (.builtin "object.__class__") "getset_descriptor" := PySem.F.typeOf_object_class
  have LS : Looks (model prog w) hp (isSubtype (.ref C) (.type (".".intercalate ("object.__class__".cutAt '.').dropLast))) true := by
    rw [PySem.F.owner_object_class]
    exact looks_mroIn KI c.obj'
  refine codeAny_call_builtin PySem.F.slot_gs_get.plain PySem.F.entry_gs_get (PySem.F.slot_gs_get.check _ _ _ _ _ _ _ _ t5 (PySem.F.args_gs_get _ _ _) ?_)
  repeat (any_goals (first | assumption | (with_reducible refine wpAny_loadPart_at hx ?_; rw [hc]) | with_reducible refine LS.at ?_ | wp_step))
  refine ⟨Code.quiet_builtin _ (by decide +kernel), codeAny_builtin PySem.F.entry_object_class ?_⟩
  repeat (any_goals (first | assumption | (with_reducible refine wpAny_loadPart_at hx ?_; rw [hc]) | wp_step))
theorem cls_entry {u : Tok} {Q : Fin → Shared → Prop} (KI : K.In hp) (c : XCls K C fC bl n1) (hx : hp.get? a = some o) (hc : o.cls = .ref C) (q : Q (.done (.ret (.ref C))) ⟨hp, g, d, tk, os⟩) :
    wpAny (model prog w) A (Builtin.«object.__getattribute__» ⟨[.ref a, .str "__class__" u], []⟩) Q E ⟨hp, g, d, tk, os⟩ := by
  have t5 : (⟨hp, g, d, tk, os⟩ : Shared).TypeIs (.builtin "object.__class__") "getset_descriptor" := PySem.F.typeOf_object_class
  have t6 := PySem.F.typeOf_object_class
  have t7 := PySem.F.slot_gs_get.lookup
  have t8 := PySem.F.slot_gs_set.lookup
  have L3 := looks_findIn (M := model prog w) KI c.cl
  repeat (any_goals (first | assumption | (with_reducible refine wpAny_loadPart_at hx ?_; rw [hc]) | with_reducible refine L3.at ?_ | wp_step))
  refine cls_get KI c hx hc ?_
  repeat (any_goals (first | assumption | wp_step))
theorem ga_check {M : Model} {v : Value} {Q : Unit → Shared → Prop} (LI : Looks M hp (isInstance (.ref a) (.type "BaseException")) true) (q : Q () ⟨hp, g, d, tk, os⟩) :
    wpAny M A (checkBuiltinCall "BaseException.__getattribute__" ⟨[.ref a, v], []⟩) Q E ⟨hp, g, d, tk, os⟩ := by
  have z3 := PySem.F.args_bexc_ga (.ref a) v
  simp only [checkBuiltinCall, ga_kind, ga_split]
  refine wpAny_bind (LI.at ?_)
  repeat (first | assumption | wp_step)
theorem cls_call {u : Tok} {R : Result → Shared → Prop} (KI : K.In hp) (c : XCls K C fC bl n1) (hx : hp.get? a = some o) (hc : o.cls = .ref C) (q : R (.ok (.ret (.ref C))) ⟨hp, g, d, tk, os⟩) :
    codeAny (model prog w) A (.call (.builtin "BaseException.__getattribute__") ⟨[.ref a, .str "__class__" u], []⟩) R ⟨hp, g, d, tk, os⟩ := by
  obtain ⟨nm, qn, N, bs, hd, sn, sub, ab, col, dd, a0, a1, a2, a3, a5, lk'⟩ := c.obj
  have oc := KI _ _ lk'
  have y : (Value.ref C :: bl).contains (.type "BaseException") = true := by rw [List.contains_cons, c.isBase, Bool.or_true]
  have T0 : Looks (model prog w) hp (typeOf (.ref a)) (.ref C) := by
    have z : Looks (model prog w) hp (typeOf (.ref a)) o.cls := (Looks.ld hx).andThen .now
    rw [hc] at z
    exact z
  have LI : Looks (model prog w) hp (isInstance (.ref a) (.type "BaseException")) true := by
    refine T0.andThen ?_
    intro A' Q' E' s' k q'
    obtain ⟨hp', g', d', tk', os'⟩ := s'
    refine wpAny_isSubtype_exc (k _ _ oc) ?_
    rw [y]
    exact q'
  exact codeAny_call_builtin ga_slot.plain PySem.F.entry_bexc_ga (ga_check LI (cls_entry KI c hx hc q))
theorem cls_by {u : Tok} {Q : Value → Shared → Prop} (KI : K.In hp) (c : XCls K C fC bl n1) (hx : hp.get? a = some o) (hc : o.cls = .ref C) (q : Q (.ref C) ⟨hp, g, d, tk, os⟩) :
    wpAny (model prog w) A (getAttrBy (.ref a) (.str "__class__" u) false) Q E ⟨hp, g, d, tk, os⟩ := by
  have t3 := ga_slot.bind (.ref a)
  have x0 : (false && onTheHeap (Value.builtin "BaseException.__getattribute__")) = false := rfl
  have x2 : (Value.builtin "BaseException.__getattribute__" == Value.builtin "object.__getattribute__") = false := by decide +kernel
  have x1 : (onTheHeap (Value.ref C) && Value.builtin "BaseException.__getattribute__" == Value.builtin "object.__getattribute__") = false := by rw [x2]; rfl
  have L1 := looks_findIn (M := model prog w) KI c.ga
  have L2 := looks_findIn (M := model prog w) KI c.gn
  repeat (any_goals (first | assumption | (with_reducible refine wpAny_loadPart_at hx ?_; rw [hc]) | with_reducible refine L1.at ?_ | with_reducible refine L2.at ?_ | wp_step))
  refine cls_call KI c hx hc ?_
  repeat (any_goals (first | assumption | wp_step))
/-- e.__class__ -/
theorem exc_class {Q : Option Value → Shared → Prop} (KI : K.In hp) (c : XCls K C fC bl n1) (hx : hp.get? a = some o) (hc : o.cls = .ref C) (q : Q (some (.ref C)) ⟨hp, g, d, tk + 1, os⟩) :
    wpAny (model prog w) A (getAttr? (.ref a) "__class__") Q E ⟨hp, g, d, tk, os⟩ := by
  unfold getAttr? getAttrBy?
  repeat (any_goals (first | assumption | with_reducible apply cls_by KI c hx hc | wp_step))
end
end LwE

namespace LwE
open PySem PySem.W PySem.Calls PySem.Spec PyProof.Rows L2

theorem kitx_exc {K : Frag} {C fC a : Addr} {bl : List Value} {n1 : String} (c : XCls K C fC bl n1) : KitX K (.ref a) (.ref C) (fun h => ∃ o, h.get? a = some o ∧ o.cls = .ref C) where
  ty := fun M h _ ⟨o, h1, h2⟩ => by
    have z : Looks M h (typeOf (.ref a)) o.cls := (Looks.ld h1).andThen .now
    rw [h2] at z
    exact z
  it := fun M h KI _ => by
    obtain ⟨nm, qn, N, bs, hd, sn, sub, ab, col, dd, a0, a1, a2, a3, a5, lk'⟩ := c.obj
    intro A' Q' E' s' k q
    unfold isType loadHead
    exact wpAny_bind (wpAny_loadPart (k _ _ (KI _ _ lk')) (wpAny_pure q))
  ne := fun h tp dd its n sl KI htp => by
    obtain ⟨nm, qn, N, bs, hd, sn, sub, ab, col, dd, a0, a1, a2, a3, a5, lk'⟩ := c.obj
    refine Bool.eq_false_iff.mpr fun q => ?_
    have z : C = tp := Value.ref.inj (beq_iff_eq.mp q)
    subst z
    have y := congrArg Obj.data (Option.some.inj ((KI _ _ lk').symm.trans htp))
    cases y
  ca := fun {prog w A E Q s} KI p k => by
    obtain ⟨o, h1, h2⟩ := p
    obtain ⟨hp, g, d, tk, os⟩ := s
    exact exc_class KI c h1 h2 k

/-- a class as a value -/
def VCls : V → Value → Prop
  | .ref D, v => v = .ref D
  | .ty T, v => v = .type T
  | _, _ => False
theorem VCls.rel {x : V} {v u : Value} (h : VCls x v) (r : RelV x u) : u = v := by
  cases x with
  | ref D => exact (show u = .ref D from r).trans (show v = .ref D from h).symm
  | ty T => exact (show u = .type T from r).trans (show v = .type T from h).symm
  | _ => exact h.elim
section
variable {X : Cx}
/-- isinstance(e, c) of a caught exception -/
def rIsX (K : Frag) : List V → Hp → VK → Prop := fun xs H Q => ∃ (a C fC : Addr) (bl : List Value) (n1 : String) (y : V) (c : Value) (b : Bool), xs = [.ref a, y] ∧ H a = some (excH a C) ∧ XCls K C fC bl n1 ∧ VCls y c ∧ kitOne K (.ref C) c = some b ∧ Q (.bl b) H
theorem call_isX : CallR X (.builtin "isinstance") (rIsX X.K) := by
  intro pins s σ H xs us Q I r h
  obtain ⟨a, C, fC, bl, n1, y, c, b, rfl, ha, cc, hy, hb, q⟩ := h
  obtain ⟨u1, u2, rfl, r1, r2⟩ := vals2 r
  cases r1
  rw [hy.rel r2]
  obtain ⟨p, _⟩ := (show ObjOk X.prog X.w H s.heap a (excH a C) from I.hok a _ ha)
  exact kia_one (kitx_exc cc) I.kIn p hb (fun z => nomatch z) fun tk => ⟨.bl b, H, I.tok tk, rfl, q⟩
end
end LwE

namespace LwD
open PySem PySem.W PySem.Spec PyProof.Rows
/-! ### a sort whose comparisons are true of a strict order: what comes out rises -/
def TruT {α : Type} (lt : Nat → Nat → Bool) (n : Nat) : KasT α → (α → Prop) → Prop
  | .ret a, P => P a
  | .ask i j k, P => i < n ∧ j < n ∧ TruT lt n (k (lt i j)) P
theorem TruT.bind {α β : Type} {lt : Nat → Nat → Bool} {n : Nat} {f : α → KasT β} {P : α → Prop} {R : β → Prop} : ∀ {t : KasT α}, TruT lt n t P → (∀ a, P a → TruT lt n (f a) R) → TruT lt n (t.bind f) R
  | .ret a, h, g => g a h
  | .ask _ _ _, h, g => ⟨h.1, h.2.1, TruT.bind h.2.2 g⟩
theorem TruT.mono {α : Type} {lt : Nat → Nat → Bool} {n : Nat} {P R : α → Prop} (g : ∀ a, P a → R a) : ∀ {t : KasT α}, TruT lt n t P → TruT lt n t R
  | .ret a, h => g a h
  | .ask _ _ _, h => ⟨h.1, h.2.1, TruT.mono g h.2.2⟩
structure Strict (lt : Nat → Nat → Bool) (n : Nat) : Prop where
  tr : ∀ a b c, lt a b = true → lt b c = true → lt a c = true
  as : ∀ a b, lt a b = true → lt b a = false
  tot : ∀ a b, a < n → b < n → a ≠ b → lt a b = false → lt b a = true
def Up (lt : Nat → Nat → Bool) (p : Array Nat) (m : Nat) : Prop := ∀ a b, a < b → b < m → lt (p.getD a 0) (p.getD b 0) = true
def Dn (lt : Nat → Nat → Bool) (p : Array Nat) (m : Nat) : Prop := ∀ a b, a < b → b < m → lt (p.getD b 0) (p.getD a 0) = true
theorem Pm.ne {n : Nat} {p : Array Nat} (h : Pm n p) {a b : Nat} (hab : a < b) (hb : b < n) : p.getD a 0 ≠ p.getD b 0 := by
  have sz := h.size
  have nd : p.toList.Nodup := h.nodup_iff.mpr List.nodup_range
  have ha' : a < p.toList.length := by simp [sz]; omega
  have hb' : b < p.toList.length := by simp [sz]; omega
  intro e
  have e1 : p.toList[a] = p.toList[b] := by
    have h1 : p.getD a 0 = p.toList[a] := by simp [Array.getD, show a < p.size by omega]
    have h2 : p.getD b 0 = p.toList[b] := by simp [Array.getD, show b < p.size by omega]
    rw [← h1, ← h2, e]
  have := (List.getElem_inj nd).mp e1
  omega
section
variable {lt : Nat → Nat → Bool} {n : Nat}
theorem Up.snoc (O : Strict lt n) {p : Array Nat} {m : Nat} (u : Up lt p m) (h : 0 < m → lt (p.getD (m - 1) 0) (p.getD m 0) = true) : Up lt p (m + 1) := by
  intro a b hab hb
  by_cases hbm : b < m
  · exact u a b hab hbm
  · have : b = m := by omega
    subst this
    by_cases ha : a = b - 1
    · rw [ha]; exact h (by omega)
    · exact O.tr _ _ _ (u a (b - 1) (by omega) (by omega)) (h (by omega))
theorem Dn.snoc (O : Strict lt n) {p : Array Nat} {m : Nat} (u : Dn lt p m) (h : 0 < m → lt (p.getD m 0) (p.getD (m - 1) 0) = true) : Dn lt p (m + 1) := by
  intro a b hab hb
  by_cases hbm : b < m
  · exact u a b hab hbm
  · have : b = m := by omega
    subst this
    by_cases ha : a = b - 1
    · rw [ha]; exact h (by omega)
    · exact O.tr _ _ _ (h (by omega)) (u a (b - 1) (by omega) (by omega))
theorem tru_asc (O : Strict lt n) {p : Array Nat} (h : Pm n p) (hn : 0 < n) : ∀ (f k : Nat), 1 ≤ k → k + f = n → Up lt p k → TruT lt n (kas_asc p f k) fun m => k ≤ m ∧ m ≤ n ∧ Up lt p m ∧ (m < n → lt (p.getD m 0) (p.getD (m - 1) 0) = true)
  | 0, k, h1, h2, u => ⟨Nat.le_refl _, by omega, u, fun z => by omega⟩
  | f + 1, k, h1, h2, u => by
    refine ⟨h.lt hn, h.lt hn, ?_⟩
    cases hb : lt (p.getD k 0) (p.getD (k - 1) 0) with
    | true => exact ⟨Nat.le_refl _, by omega, u, fun _ => hb⟩
    | false =>
      have up : Up lt p (k + 1) := u.snoc O fun _ => O.tot _ _ (h.lt hn) (h.lt hn) (Ne.symm (h.ne (by omega) (by omega))) hb
      refine (tru_asc O h hn f (k + 1) (by omega) (by omega) up).mono fun m hm => ⟨by omega, hm.2⟩
theorem tru_desc (O : Strict lt n) (hn : 0 < n) {p : Array Nat} (h : Pm n p) : ∀ (f k : Nat), 1 ≤ k → k + f = n → Dn lt p k → TruT lt n (kas_desc f p k 0) fun r => r.1 = p ∧ r.2.2 = 0 ∧ k ≤ r.2.1 ∧ r.2.1 ≤ n ∧ Dn lt p r.2.1
  | 0, k, _, h2, d => ⟨rfl, rfl, Nat.le_refl _, (show k ≤ n by omega), d⟩
  | f + 1, k, h1, h2, d => by
    refine ⟨h.lt hn, h.lt hn, ?_⟩
    cases hb : lt (p.getD k 0) (p.getD (k - 1) 0) with
    | true =>
      have dn : Dn lt p (k + 1) := d.snoc O fun _ => hb
      exact (tru_desc O hn h f (k + 1) (by omega) (by omega) dn).mono fun r hr => ⟨hr.1, hr.2.1, by omega, hr.2.2.2⟩
    | false =>
      refine ⟨h.lt hn, h.lt hn, ?_⟩
      have : lt (p.getD (k - 1) 0) (p.getD k 0) = true := O.tot _ _ (h.lt hn) (h.lt hn) (Ne.symm (h.ne (by omega) (by omega))) hb
      rw [this]
      exact ⟨rfl, rfl, Nat.le_refl _, (show k ≤ n by omega), d⟩
theorem getD_of? {p : Array Nat} {i : Nat} {q : Array Nat} {j : Nat} (h : p[i]? = q[j]?) : p.getD i 0 = q.getD j 0 := by
  rw [Array.getD_eq_getD_getElem?, Array.getD_eq_getD_getElem?, h]
theorem rev_up {p : Array Nat} (sz : p.size = n) {k : Nat} (hk : k ≤ n) (d : Dn lt p k) : Up lt (kas_rev p 0 k) k := by
  intro a b hab hb
  have e : ∀ c, c < k → (kas_rev p 0 k).getD c 0 = p.getD (k - 1 - c) 0 := fun c hc => by
    refine getD_of? ?_
    unfold kas_rev
    rw [getElem?_mirror_all (by omega), if_pos ⟨Nat.zero_le _, hc⟩, Nat.zero_add]
  rw [e a (by omega), e b hb]
  exact d (k - 1 - b) (k - 1 - a) (by omega) (by omega)
theorem tru_count (O : Strict lt n) (hn : 0 < n) : TruT lt n (kas_count n (List.toArray (List.range n))) fun r => Pm n r.2 ∧ 1 ≤ r.1 ∧ r.1 ≤ n ∧ Up lt r.2 r.1 := by
  have h : Pm n (List.toArray (List.range n)) := by unfold Pm; simp
  generalize List.toArray (List.range n) = p at h
  have u1 : Up lt p 1 := fun a b h1 h2 => by omega
  refine (tru_asc O h hn (n - 1) 1 (by omega) (by omega) u1).bind fun m hm => ?_
  obtain ⟨m1, m2, um, hlt⟩ := hm
  by_cases e : m = n
  · rw [if_pos (by simp [e])]
    exact ⟨h, m1, m2, um⟩
  · rw [if_neg (by simp [e])]
    by_cases m3 : m > 1
    · rw [if_pos m3]
      refine ⟨h.lt hn, h.lt hn, ?_⟩
      rw [um 0 (m - 1) (by omega) (by omega)]
      exact ⟨h, m1, m2, um⟩
    · rw [if_neg m3]
      have m4 : m = 1 := by omega
      subst m4
      have d2 : Dn lt p 2 := by
        intro a b hab hb
        have hl := hlt (by omega)
        have : a = 0 ∧ b = 1 := by omega
        rw [this.1, this.2]
        exact hl
      unfold kas_descPart
      refine (tru_desc O hn h (n - (1 + 1)) (1 + 1) (by omega) (by omega) d2).bind fun r hr => ?_
      obtain ⟨r1, r2, r3, r4, r5⟩ := hr
      rw [if_neg (by rw [r2]; decide), r1]
      unfold kas_tail3
      have hv : Pm n (kas_rev p 0 r.2.1) := h.rev _ _
      refine (tru_asc O hv hn (n - r.2.1) r.2.1 (by omega) (by omega) (rev_up h.size r4 r5)).bind fun k hk => ?_
      exact ⟨hv, by omega, hk.2.1, hk.2.2.1⟩
theorem tru_place (O : Strict lt n) (hn : 0 < n) {p : Array Nat} (h : Pm n p) {k : Nat} (hk : k < n) (u : Up lt p k) : ∀ (f l r : Nat), l ≤ r → r ≤ k → r - l ≤ f → (∀ a, a < l → lt (p.getD a 0) (p.getD k 0) = true) → (∀ a, r ≤ a → a < k → lt (p.getD k 0) (p.getD a 0) = true) →
    TruT lt n (kas_place p k f l r) fun x => x ≤ k ∧ (∀ a, a < x → lt (p.getD a 0) (p.getD k 0) = true) ∧ ∀ a, x ≤ a → a < k → lt (p.getD k 0) (p.getD a 0) = true
  | 0, l, r, h1, h2, h3, hl, hr => ⟨by omega, hl, fun a ha => hr a (by omega)⟩
  | f + 1, l, r, h1, h2, h3, hl, hr => by
    show TruT lt n (if l ≥ r then _ else _) _
    split
    · exact ⟨by omega, hl, fun a ha => hr a (by omega)⟩
    · refine ⟨h.lt hn, h.lt hn, ?_⟩
      have mk : (l + r) / 2 < k := by omega
      cases hb : lt (p.getD k 0) (p.getD ((l + r) / 2) 0) with
      | true =>
        refine tru_place O hn h hk u f l ((l + r) / 2) (by omega) (by omega) (by omega) hl fun a ha hak => ?_
        by_cases e : a = (l + r) / 2
        · rw [e]; exact hb
        · exact O.tr _ _ _ hb (u _ _ (by omega) hak)
      | false =>
        have hm : lt (p.getD ((l + r) / 2) 0) (p.getD k 0) = true := O.tot _ _ (h.lt hn) (h.lt hn) (Ne.symm (h.ne mk hk)) hb
        refine tru_place O hn h hk u f ((l + r) / 2 + 1) r (by omega) h2 (by omega) (fun a ha => ?_) hr
        by_cases e : a = (l + r) / 2
        · rw [e]; exact hm
        · exact O.tr _ _ _ (u a _ (by omega) mk) hm
theorem bub_up {p : Array Nat} (sz : p.size = n) {k l : Nat} (hk : k < n) (hl : l ≤ k) (u : Up lt p k) (h1 : ∀ a, a < l → lt (p.getD a 0) (p.getD k 0) = true) (h2 : ∀ a, l ≤ a → a < k → lt (p.getD k 0) (p.getD a 0) = true) : Up lt (bubble p k (k - l)) (k + 1) := by
  have e : ∀ c, (bubble p k (k - l)).getD c 0 = if c = l then p.getD k 0 else if l < c ∧ c ≤ k then p.getD (c - 1) 0 else p.getD c 0 := fun c => by
    have := getElem?_bubble (xs := p) (src := k) (by omega) (k - l) (by omega) c
    have z : k - (k - l) = l := by omega
    rw [z] at this
    split
    · rename_i hc
      rw [if_pos hc] at this
      exact getD_of? this
    · rename_i hc
      rw [if_neg hc] at this
      split
      · rename_i hc2
        rw [if_pos hc2] at this
        exact getD_of? this
      · rename_i hc2
        rw [if_neg hc2] at this
        exact getD_of? this
  intro a b hab hb
  rw [e a, e b]
  by_cases a1 : a = l
  · rw [if_pos a1, if_neg (by omega), if_pos ⟨by omega, by omega⟩]
    exact h2 _ (by omega) (by omega)
  · rw [if_neg a1]
    by_cases a2 : l < a ∧ a ≤ k
    · rw [if_pos a2, if_neg (by omega), if_pos ⟨by omega, by omega⟩]
      exact u _ _ (by omega) (by omega)
    · rw [if_neg a2]
      by_cases b1 : b = l
      · rw [if_pos b1]
        exact h1 a (by omega)
      · rw [if_neg b1]
        by_cases b2 : l < b ∧ b ≤ k
        · rw [if_pos b2]
          by_cases ab : a = b - 1
          · omega
          · exact u _ _ (by omega) (by omega)
        · rw [if_neg b2]
          exact u _ _ hab (by omega)
theorem tru_bin (O : Strict lt n) (hn : 0 < n) : ∀ (f : Nat) {p : Array Nat} (_ : Pm n p) (k : Nat), k + f = n → Up lt p k → TruT lt n (kas_bin f p k) fun q => Pm n q ∧ Up lt q n
  | 0, p, h, k, hk, u => ⟨h, by have : k = n := by omega
                                rw [← this]; exact u⟩
  | f + 1, p, h, k, hk, u => by
    refine (tru_place O hn h (by omega) u k 0 k (Nat.zero_le _) (Nat.le_refl _) (by omega) (fun a ha => by omega) (fun a h1 h2 => by omega)).bind fun l hl => ?_
    exact tru_bin O hn f (h.bub _ _) (k + 1) (by omega) (bub_up h.size (by omega) hl.1 u hl.2.1 hl.2.2)
theorem tru_sort (O : Strict lt n) (hn : 0 < n) : TruT lt n (kas_sort n) fun q => Pm n q ∧ Up lt q n := by
  refine (tru_count O hn).bind fun r hr => ?_
  obtain ⟨h1, h2, h3, h4⟩ := hr
  split
  · rw [show max r.1 1 = r.1 by omega]
    exact tru_bin O hn _ h1 _ (by omega) h4
  · have : r.1 = n := by omega
    exact ⟨h1, this ▸ h4⟩
theorem wp_tru {α : Type} {cmp : Nat → Nat → (Bool → Shared → Prop) → Shared → Prop} {s : Shared} (hc : ∀ i j C, i < n → j < n → C (lt i j) s → cmp i j C s) {P : α → Prop} {Q : α → Shared → Prop} (hq : ∀ a, P a → Q a s) : ∀ {t : KasT α}, TruT lt n t P → t.kasWp cmp Q s
  | .ret a, h => hq a h
  | .ask i j k, h => hc i j _ h.1 h.2.1 (wp_tru hc hq h.2.2)
end
end LwD

namespace LwD
open PySem PySem.Spec PyProof.Rows L2 Lw
/-! ### lists of ints in order -/
def lexI : List Int → List Int → Bool
  | x :: xs, y :: ys => if x = y then lexI xs ys else decide (x < y)
  | [], _ :: _ => true
  | _, [] => false
theorem lexI_tr : ∀ a b c : List Int, lexI a b = true → lexI b c = true → lexI a c = true
  | [], [], _, h, _ => by simp [lexI] at h
  | [], _ :: _, [], _, h => by simp [lexI] at h
  | [], _ :: _, _ :: _, _, _ => by simp [lexI]
  | _ :: _, [], _, h, _ => by simp [lexI] at h
  | _ :: _, _ :: _, [], _, h => by simp [lexI] at h
  | x :: xs, y :: ys, z :: zs, h1, h2 => by
    have ih := lexI_tr xs ys zs
    simp only [lexI] at h1 h2 ⊢
    by_cases e1 : x = y
    · subst e1
      rw [if_pos rfl] at h1
      by_cases e2 : x = z
      · rw [if_pos e2] at h2 ⊢
        exact ih h1 h2
      · rw [if_neg e2] at h2 ⊢
        exact h2
    · rw [if_neg e1] at h1
      have h1 := of_decide_eq_true h1
      by_cases e2 : y = z
      · subst e2
        rw [if_neg e1]
        exact decide_eq_true h1
      · rw [if_neg e2] at h2
        have h2 := of_decide_eq_true h2
        rw [if_neg (by omega)]
        exact decide_eq_true (by omega)
theorem lexI_as : ∀ a b : List Int, lexI a b = true → lexI b a = false
  | [], [], h => by simp [lexI] at h
  | [], _ :: _, _ => by simp [lexI]
  | _ :: _, [], h => by simp [lexI] at h
  | x :: xs, y :: ys, h => by
    have ih := lexI_as xs ys
    simp only [lexI] at h ⊢
    by_cases e1 : x = y
    · subst e1
      rw [if_pos rfl] at h ⊢
      exact ih h
    · rw [if_neg e1] at h
      have h := of_decide_eq_true h
      rw [if_neg (by omega)]
      exact decide_eq_false (by omega)
theorem lexI_tot : ∀ a b : List Int, a ≠ b → lexI a b = false → lexI b a = true
  | [], [], n, _ => absurd rfl n
  | [], _ :: _, _, h => by simp [lexI] at h
  | _ :: _, [], _, _ => by simp [lexI]
  | x :: xs, y :: ys, n, h => by
    have ih := lexI_tot xs ys
    simp only [lexI] at h ⊢
    by_cases e1 : x = y
    · subst e1
      rw [if_pos rfl] at h ⊢
      exact ih (fun z => n (by rw [z])) h
    · rw [if_neg e1] at h
      have h := of_decide_eq_false h
      rw [if_neg (by omega)]
      exact decide_eq_true (by omega)
def lexG (fin : Bool) : List Int → List Int → Bool
  | x :: xs, y :: ys => if x = y then lexG fin xs ys else decide (x < y)
  | _, _ => fin
theorem lexG_is : ∀ a b : List Int, lexG (decide (a.length < b.length)) a b = lexI a b
  | [], [] => rfl
  | [], _ :: _ => by simp [lexG, lexI]
  | _ :: _, [] => by simp [lexG, lexI]
  | x :: xs, y :: ys => by
    have ih := lexG_is xs ys
    simp only [lexG, lexI, List.length_cons, Nat.add_lt_add_iff_right]
    rw [ih]
def kInts (k : List Key) : List Int := k.filterMap fun | .inl i => some i | .inr _ => none
theorem kInts_ik (ns : List Int) : kInts (ik ns) = ns := by
  unfold kInts ik
  induction ns with
  | nil => rfl
  | cons n r ih => simp [ih]
theorem KTkeys {H : Hp} {kvs : List (List Key × V)} {xs : List (List Key × Addr × Value)} (r : KT H kvs xs) : kvs.map (·.1) = xs.map (·.1) := by
  induction r with
  | nil => rfl
  | cons h _ ih => rw [List.map_cons, List.map_cons, ih, h.1]
section
variable {prog : Program} {w : World} {A : Around} {E : Value → Shared → Prop} {s : Shared}
theorem lex_true {b fin : Bool} {Q : Bool → Shared → Prop} : ∀ {as bs : List Value} {xs ys : List Int} (_ : IntsAre as xs) (_ : IntsAre bs ys) (_ : Q (lexG fin xs ys) s) (i : Nat), PySem.W.KatLex prog w A b fin Q (as.zip bs) i s
  | _, _, _, _, .nil, _, h, _ => by
    rw [List.zip_nil_left]
    exact PySem.W.kat_nil (by simpa [lexG] using h)
  | _, _, _, _, .cons _ _ _, .nil, h, _ => by
    rw [List.zip_nil_right]
    exact PySem.W.kat_nil (by simpa [lexG] using h)
  | _, _, _, _, .cons n t r, .cons m u r2, h, i => by
    rw [List.zip_cons_cons]
    simp only [lexG] at h
    refine PySem.W.kat_cons (SeqAt.EqAt.int_int _ _ _ _ prog w _ _ ?_)
    refine PySem.W.kat_go (fun e => PySem.W.kat_yes (lex_true r r2 (by rwa [if_pos (by simpa using e)] at h) (i + 1))) fun e => PySem.W.kat_no ?_
    rw [if_neg (by simpa using e)] at h
    cases hb : (b && i == 0) with
    | true => exact oneLt_int h
    | false => exact PySem.W.kat_one _ _ (lt_int h)
end
section
variable {X : Cx}
def rSortS : List V → Hp → VK → Prop := fun xs H Q => ∃ (a : Addr) (kvs : List (List Key × V)), xs = [.ref a] ∧ Rd H a (.dT kvs) ∧ kvs.length < 64 ∧ (∀ p ∈ kvs, ∃ ns : List Int, p.1 = ik ns ∧ ns ≠ []) ∧
  ∀ (ys : List V) (zs : List (List Key × V)), zs.Perm kvs → Keyed H ys zs → zs.Pairwise (fun p q => lexI (kInts p.1) (kInts q.1) = true) → New H (.lst ys) Q
theorem call_sortS (hc : X.calm = true) : CallR X (.builtin "sorted") rSortS := by
  intro pins s σ H xs us Q I r h
  obtain ⟨a, kvs, rfl, ha, h64, hk, q⟩ := h
  obtain ⟨u, rfl, ru⟩ := vals1 r
  cases ru
  obtain ⟨z, lo, ks, rel, dd⟩ := dt_rd I.hok ha
  obtain ⟨o, es, ep, hd1, hd2, hd3, he, his, hn⟩ := id dd
  have raw : Raw s.heap a es ep := ⟨o, hd1, hd2, hd3⟩
  have esz : es.size = kvs.length := by rw [size_of_entries he, ← Paired.length rel]
  obtain ⟨m, F⟩ := I.fr
  have kn : (kvs.map (·.1)).Nodup := by rw [KTkeys rel]; exact hn
  have itup : ∀ (j : Nat) (h : j < es.size), ∃ (b : Addr) (ns : List Int) (v : V), es[j].key = .ref b ∧ H b = some (.tup (ns.map V.int)) ∧ kvs[j]? = some (ik ns, v) ∧ ns ≠ [] := fun j hj => by
    have e1 := entry_at he j
    rw [Array.getElem?_eq_getElem hj] at e1
    cases e2 : ks[j]? with
    | none => rw [e2] at e1; cases e1
    | some x =>
      rw [e2] at e1
      have e3 : es[j] = entryOfKey _ x := Option.some.inj e1
      obtain ⟨v, m1, m2⟩ := KTgetI rel e2
      obtain ⟨ns, n1, n2⟩ := hk _ (List.mem_of_getElem? m1)
      dsimp only at n1
      rw [n1] at m1 m2
      rw [ik_map] at m2
      exact ⟨x.2.1, ns, v, by rw [e3]; rfl, m2, m1, n2⟩
  refine PySem.W.kdu_sorted (raw_src lo) (I.ok.hd hc) F news_all raw (by rw [esz]; exact z) fun D h' tk vs F' N' lt hlen hP => ?_
  have vtup : ∀ (j : Nat) (hj : j < vs.length), ∃ (b : Addr) (ns : List Int) (v : V), vs[j] = .ref b ∧ H b = some (.tup (ns.map V.int)) ∧ kvs[j]? = some (ik ns, v) ∧ ns ≠ [] := fun j hj => by
    obtain ⟨h1, h2⟩ := hP j vs[j] (by simp [hj])
    rw [h2]
    exact itup j h1
  have vl : vs.length = kvs.length := by rw [hlen, esz]
  have kvI : ∀ (j : Nat) (ns : List Int) (v : V), kvs[j]? = some (ik ns, v) → kInts (kvs.getD j ([], .non)).1 = ns := fun j ns v e => by rw [List.getD_eq_getElem?_getD, e]; exact kInts_ik ns
  have O : Strict (fun i j => lexI (kInts (kvs.getD i ([], .non)).1) (kInts (kvs.getD j ([], .non)).1)) vs.length := by
    refine ⟨fun a b c => lexI_tr _ _ _, fun a b => lexI_as _ _, fun a b ha hb hab hf => ?_⟩
    obtain ⟨_, ns, v, _, _, e3, _⟩ := vtup a ha
    obtain ⟨_, ms, v', _, _, e3', _⟩ := vtup b hb
    rw [kvI _ _ _ e3, kvI _ _ _ e3'] at hf
    show lexI (kInts (kvs.getD b ([], .non)).1) (kInts (kvs.getD a ([], .non)).1) = true
    rw [kvI _ _ _ e3, kvI _ _ _ e3']
    refine lexI_tot _ _ (fun z => hab ?_) hf
    have i1 : (kvs.map (·.1))[a]? = some (ik ns) := by rw [List.getElem?_map, e3]; rfl
    have i2 : (kvs.map (·.1))[b]? = some (ik ns) := by rw [List.getElem?_map, e3', z]; rfl
    exact (List.getElem?_inj (by rw [List.length_map]; omega) kn).mp (i1.trans i2.symm)
  -- the values in another order
  have fin : ∀ (idx : List Nat) (h3 : Heap) (c tk3 : Nat), idx.Perm (List.range kvs.length) → idx.Pairwise (fun i j => lexI (kInts (kvs.getD i ([], .non)).1) (kInts (kvs.getD j ([], .non)).1) = true) → Fr X.base X.env.locals h3 m → News X.base X.env.locals h3 ((D, PySem.W.listOf (idx.map fun i => vs.getD i Value.none).toArray c) :: allNews X.base s.heap X.env.locals) →
      EP X pins σ Q (.ref D) { s with heap := h3, toks := tk3 } := fun idx h3 c tk3 pm pw F3 N3 => by
    have il : idx.length = kvs.length := by rw [pm.length_eq, List.length_range]
    have im : ∀ i ∈ idx, i < kvs.length := fun i hi => List.mem_range.mp (pm.mem_iff.mp hi)
    have tr : ∀ js : List Nat, (∀ i ∈ js, i < kvs.length) → ∃ ys : List V, Vals ys (js.map fun i => vs.getD i Value.none) ∧ Keyed H ys (js.map fun i => kvs.getD i ([], .non)) := by
      intro js
      induction js with
      | nil => exact fun _ => ⟨[], .nil, rfl, fun i y p e => by simp at e⟩
      | cons j js ih =>
        intro hj
        obtain ⟨ys, r1, r2, r3⟩ := ih fun i hi => hj i (List.mem_cons_of_mem _ hi)
        have hj1 := hj j (List.mem_cons_self ..)
        obtain ⟨b, ns, x, e1, e2, e3, _⟩ := vtup j (by rw [vl]; exact hj1)
        refine ⟨.ref b :: ys, ?_, by simp [r2], fun i y p ey ep => ?_⟩
        · rw [List.map_cons]
          refine .cons ?_ r1
          rw [List.getD_eq_getElem?_getD, List.getElem?_eq_getElem (by rw [vl]; exact hj1), e1]
          rfl
        · cases i with
          | zero =>
            simp only [List.map_cons, List.getElem?_cons_zero, Option.some.injEq] at ey ep
            rw [List.getD_eq_getElem?_getD, e3] at ep
            subst ey
            subst ep
            exact ⟨b, ns, rfl, e2, rfl⟩
          | succ i =>
            simp only [List.map_cons, List.getElem?_cons_succ] at ey ep
            exact r3 i y p ey ep
    obtain ⟨ys, rv, hy⟩ := tr idx im
    have yl : ys.length = kvs.length := by rw [hy.1, List.length_map]; exact il
    have nb := new_by_news (ho := .lst ys) (tk := tk3) I F F3 N3 lt fun e => ⟨by rw [yl]; exact z, _, c, rv, e⟩
    have pz : (idx.map fun i => kvs.getD i ([], .non)).Perm kvs := by
      have := pm.map fun i => kvs.getD i ([], V.non)
      rw [getD_range] at this
      exact this
    exact ⟨.ref D, _, nb.2, rfl, (q ys _ pz hy (List.pairwise_map.mpr pw)).at nb.1⟩
  have nD := N' (D, PySem.W.listOf vs.toArray 0) (List.mem_cons_self ..)
  by_cases h2 : vs.length < 2
  · refine sort_small (n := 0) nD.1 h2 ?_
    obtain ⟨c, hat⟩ := sortedHeap_at (vs := vs) (n := 0) (out := vs.toArray) nD.1
    have old : ∀ b u, b ≠ D → h'.get? b = some u → (sortedHeap h' D vs vs.toArray).get? b = some u := fun b u hb e => by
      rw [sortedHeap_old hb (Heap.lt_size e)]
      exact e
    have er : (List.range kvs.length).map (fun i => vs.getD i Value.none) = vs := by rw [← vl]; exact getD_range vs _
    refine fin (List.range kvs.length) _ c tk (List.Perm.refl _) (by
      rw [← vl]
      have : vs.length = 0 ∨ vs.length = 1 := by omega
      rcases this with z | z <;> rw [z] <;> simp) ⟨?_, fun b u e => old b u (fun y => by rw [y, nD.2.2] at e; cases e) (F'.keep b u e), F'.above⟩ (fun p hp => ?_)
    · obtain ⟨ob, es', ep', e1, e2⟩ := F'.ns
      exact ⟨ob, es', ep', old _ _ (Ne.symm nD.2.1) e1, e2⟩
    · rw [er] at hp
      rcases List.mem_cons.mp hp with rfl | hp
      · exact ⟨hat, nD.2⟩
      · have y := N' p (List.mem_cons_of_mem _ hp)
        exact ⟨old _ _ (Nat.ne_of_lt (lt p hp)) y.1, y.2⟩
  · have hd : ∀ q ∈ allNews X.base s.heap X.env.locals, q.1 ≠ D := fun q hq => Nat.ne_of_lt (lt q hq)
    refine PySem.W.kat_lsort (vs := vs) (its := vs.toArray) F' N' (.head hd) rfl (by omega) (by omega) fun e1 h4 F4 N4 => ?_
    have in4 : ∀ b xs, H b = some (.tup xs) → ∃ its : List Value, Vals xs its ∧ IsTup h4 b its.toArray := fun b xs e => by
      obtain ⟨_, its, rv, ob, ho, hc2⟩ := (show ObjOk X.prog X.w H s.heap b (.tup xs) from I.hok b _ e)
      refine ⟨its, rv, ob, ?_, hc2⟩
      cases y : X.base.get? b with
      | some u =>
        have y2 := I.bk b u y
        rw [ho] at y2
        cases y2
        exact F4.keep b _ y
      | none => exact (N4 (b, ob) (List.mem_cons_of_mem _ (mem_allNews (fun y2 => by rw [y2, I.free] at e; cases e) y ho))).1
    have tups : ∀ l : List Value, (∀ v ∈ l, v ∈ vs) → ∃ fs : List Value, PySem.W.KatTups h4 l fs ∧ fs.length = l.length ∧ ∀ f ∈ fs, ∃ n t, f = Value.int n t := by
      intro l
      induction l with
      | nil => exact fun _ => ⟨[], .nil, rfl, fun _ y => nomatch y⟩
      | cons v r ih =>
        intro hm
        obtain ⟨fs, t1, t2, t3⟩ := ih fun v' hv' => hm v' (List.mem_cons_of_mem _ hv')
        obtain ⟨j, hj, ev⟩ := List.getElem_of_mem (hm v (List.mem_cons_self ..))
        obtain ⟨b, ns, x, g1, g2, g3, g4⟩ := vtup j hj
        obtain ⟨its, rv, ob, ho, hc2, nn, hdt⟩ := in4 b _ g2
        match ns, g4, rv with
        | n :: nr, _, .cons (b := iv) (l₂ := ir) rr rt =>
          obtain ⟨tt, rfl⟩ := rr
          rw [← ev, g1]
          exact ⟨.int n tt :: fs, .cons ho hc2 hdt (by simp) t1, by simp [t2], fun f hf => (List.mem_cons.mp hf).elim (fun y => ⟨n, tt, y⟩) (t3 f)⟩
    obtain ⟨fs, t1, t2, t3⟩ := tups vs fun _ y => y
    refine PySem.W.kat_kind (T := .type "int") t1 (by omega) (fun f hf => ?_) (by decide) ?_
    · obtain ⟨n, t, rfl⟩ := t3 f hf
      exact PySem.W.Looks.of_pure rfl
    · refine wp_tru (n := vs.length) (P := fun q => Pm vs.length q ∧ Up (fun i j => lexI (kInts (kvs.getD i ([], .non)).1) (kInts (kvs.getD j ([], .non)).1)) q vs.length) (fun i j C hi hj hC => ?_) (fun p hp => ?_) (tru_sort O (by omega))
      · obtain ⟨b, ns, x, g1, g2, g3, _⟩ := vtup i hi
        obtain ⟨b', ns', x', g1', g2', g3', _⟩ := vtup j hj
        obtain ⟨its, rv, ob, ho, hc2, nn, hdt⟩ := in4 b _ g2
        obtain ⟨its', rv', ob', ho', hc2', nn', hdt'⟩ := in4 b' _ g2'
        unfold PySem.W.kas_ask
        rw [show vs.getD i Value.none = .ref b by rw [List.getD_eq_getElem?_getD, List.getElem?_eq_getElem hi, g1]; rfl, show vs.getD j Value.none = .ref b' by rw [List.getD_eq_getElem?_getD, List.getElem?_eq_getElem hj, g1']; rfl]
        rw [kvI _ _ _ g3, kvI _ _ _ g3'] at hC
        have i1 := intsAre_of rv
        have i2 := intsAre_of rv'
        refine PySem.W.kat_lt ho hdt ho' hdt' (lex_true i1 i2 ?_ 0)
        rw [List.size_toArray, List.size_toArray, ints_len i1, ints_len i2, lexG_is]
        exact hC
      · refine PySem.W.KasFin.intro F4 N4 (.head hd) fun h5 c F5 N5 => fin p.toList h5 c tk ?_ ?_ F5 N5
        · rw [← vl]
          exact hp.1
        · have sz := hp.1.size
          refine List.pairwise_iff_getElem.mpr fun a b ha hb hab => ?_
          have ha' : a < p.size := by simpa using ha
          have hb' : b < p.size := by simpa using hb
          have := hp.2 a b hab (by omega)
          simpa [Array.getD, ha', hb'] using this
end
end LwD

namespace LwD
open PySem PySem.Spec PyProof.Rows L2 Lw
/-! ### a tuple has no attribute "keys" -/
theorem miss_keys : typeLookup (.type "tuple") "keys" = pure none := am_miss_of_fast (by decide +kernel)
theorem tup_hook : typeLookup (.type "tuple") "__getattr__" = pure none := by rw [typeLookup_type, builtinLookup_eq_fast]; kernel_rfl
section
variable {prog : Program} {w : World} {A : Around} {E : Value → Shared → Prop} {h : Heap} {g : Array GenState} {d : Drawn} {t : Nat} {os : OsState} {a : Addr} {o : Obj}
theorem keys_entry {tk : Tok} {Q : Fin → Shared → Prop} (hx : h.get? a = some o) (hc : o.cls = .type "tuple") (hd : o.dict = none) (n : Nat) (its : Array Value) (hs : o.data = .seq its n) (hh : A.handled = none)
    (hq : ∀ h' tk' e, Heap.NewAttrErr h h' e (.ref a) "keys" → E (.ref e) ⟨h', g, d, tk', os⟩) :
    wpAny (model prog w) A (Builtin.«object.__getattribute__» ⟨[.ref a, .str "keys" tk], []⟩) Q E ⟨h, g, d, t, os⟩ := by
  have hT : (⟨h, g, d, t, os⟩ : Shared).TypeIs (.ref a) "tuple" := ⟨_, hx, hc⟩
  have f4 := miss_keys
  obtain ⟨c, dd, dt, sl⟩ := o
  replace hc : c = .type "tuple" := hc
  replace hd : dd = none := hd
  replace hs : dt = .seq its n := hs
  subst hc hd hs
  unfold Builtin.«object.__getattribute__»
  repeat (any_goals (first | assumption | wp_step))
  exact wpAny_raiseAttrError hh hq (attrMsg_fits (by decide +kernel) (by size_fits))
theorem keys_call {tk : Tok} {R : Result → Shared → Prop} (hx : h.get? a = some o) (hc : o.cls = .type "tuple") (hd : o.dict = none) (n : Nat) (its : Array Value) (hs : o.data = .seq its n) (hh : A.handled = none)
    (hq : ∀ h' tk' e, Heap.NewAttrErr h h' e (.ref a) "keys" → R (.error (.ref e)) ⟨h', g, d, tk', os⟩) :
    codeAny (model prog w) A (.call (.builtin "tuple.__getattribute__") ⟨[.ref a, .str "keys" tk], []⟩) R ⟨h, g, d, t, os⟩ :=
  codeAny_call_builtin F.slot_tuple_getattribute.plain F.entry_tuple_ga (F.slot_tuple_getattribute.check _ _ _ _ _ _ _ _ (show (⟨h, g, d, t, os⟩ : Shared).TypeIs (.ref a) "tuple" from ⟨_, hx, hc⟩) (F.args_tuple_getattribute_2 _ _) (keys_entry hx hc hd n its hs (show A.in1.handled = none from hh) hq))
theorem keys_none {Q : Option Value → Shared → Prop} (hx : h.get? a = some o) (hc : o.cls = .type "tuple") (hd : o.dict = none) (n : Nat) (its : Array Value) (hs : o.data = .seq its n) (hh : A.handled = none)
    (hq : ∀ h' tk', (∀ b u, h.get? b = some u → h'.get? b = some u) → Q none ⟨h', g, d, tk', os⟩) : wpAny (model prog w) A (getAttr? (.ref a) "keys") Q E ⟨h, g, d, t, os⟩ := by
  have hT : (⟨h, g, d, t, os⟩ : Shared).TypeIs (.ref a) "tuple" := ⟨_, hx, hc⟩
  have f2 := F.slot_tuple_getattribute.lookup
  have f3 := F.slot_tuple_getattribute.bind (.ref a)
  have f1 := sub_AttributeError
  have kc := fun (A : Around) (t : Nat) (tk : Tok) (R : Result → Shared → Prop) (hh : A.handled = none) => keys_call (prog := prog) (w := w) (A := A) (g := g) (d := d) (t := t) (os := os) (tk := tk) (R := R) hx hc hd n its hs hh
  obtain ⟨c, dd, dt, sl⟩ := o
  replace hc : c = .type "tuple" := hc
  replace hd : dd = none := hd
  replace hs : dt = .seq its n := hs
  subst hc hd hs
  unfold getAttr? getAttrBy?
  repeat (any_goals (first | assumption | wp_step))
  refine kc _ _ _ _ hh fun h' tk' e ne => ?_
  obtain ⟨t', u', he⟩ := ne.there
  have f5 := tup_hook
  repeat (any_goals (first | assumption | wp_step))
  exact hq h' tk' ne.keeps
end
end LwD

namespace LwD
open PySem PySem.Spec PyProof.Rows L2 Lw
/-! ### dict(t) of a tuple of pairs, the keys tuples -/
theorem loop_plain : plainId "dict.update.loop" = true := by decide +kernel
theorem loop_entry : entryFor table "dict.update.loop" = some Builtin.«dict.update.loop» := entryFor_of_tree (by kernel_rfl)
section
variable {prog : Program} {w : World} {A : Around} {E : Value → Shared → Prop}
abbrev tkd (prog : Program) (w : World) := tupleKind (mixKind prog w)
/-- what the pairs are -/
def PairAt (prog : Program) (w : World) (h : Heap) (v : Value) (x : List Key × Addr × Value) : Prop := ∃ r, v = .ref r ∧ IsTup h r #[.ref x.2.1, x.2.2] ∧ (tkd prog w).is h x.1 x.2.1
theorem PairAt.keep {h h' : Heap} {v : Value} {x : List Key × Addr × Value} (p : PairAt prog w h v x) (k : ∀ b u, h.get? b = some u → h'.get? b = some u) : PairAt prog w h' v x := by
  obtain ⟨r, e, ⟨o, h1, h2⟩, q, its, n, h3, h4⟩ := p
  exact ⟨r, e, ⟨o, k _ _ h1, h2⟩, q, its, n, k _ _ h3, h4⟩
def puts (xs ps : List (List Key × Addr × Value)) : List (List Key × Addr × Value) := ps.foldl (fun acc x => storedH acc x.1 x.2.1 x.2.2) xs
theorem dh_ext {h h' : Heap} {d it t : Addr} {i : Nat} {xs : List (List Key × Addr × Value)} (D : h.DictOfH (tkd prog w) d xs) (I : h.IsTupleIter it t i) (hdi : d ≠ it) (k : ∀ b u, b ≠ it → h.get? b = some u → h'.get? b = some u) : h'.DictOfH (tkd prog w) d xs := by
  obtain ⟨o, es, ep, h1, h2, h3, h4, h5, h6⟩ := D
  refine ⟨o, es, ep, k _ _ hdi h1, h2, h3, h4, fun x hx => ?_, h6⟩
  obtain ⟨q, its, n, g1, g2, g3⟩ := h5 x hx
  refine ⟨q, its, n, k _ _ (fun e => ?_) g1, g2, g3⟩
  obtain ⟨u, u1, u2, _⟩ := I
  rw [e, u1] at g1
  cases g1
  rw [u2] at g2
  exact absurd g2 (by decide)
theorem stored_len (xs : List (List Key × Addr × Value)) (k : List Key) (a : Addr) (v : Value) : (storedH xs k a v).length ≤ xs.length + 1 := by
  unfold storedH
  split <;> simp
theorem dict_loop {Q : Shared → Prop} {h0 : Heap} {d it t : Addr} {items : Array Value} (hh : A.handled = none) (hu : A.units + 1 < cLine) (hd : h0.objs.size ≤ d) (hi : h0.objs.size ≤ it) (hdi : d ≠ it) (ht : h0.IsTuple t items) :
    ∀ (ps xs : List (List Key × Addr × Value)) (i : Nat) (tk : Tok) (s : Shared), (∀ j, Option.Rel (PairAt prog w h0) items[i + j]? ps[j]?) → xs.length + ps.length ≤ sizeLine → (∀ b u, h0.get? b = some u → s.heap.get? b = some u) → s.heap.DictOfH (tkd prog w) d xs → s.heap.IsTupleIter it t i →
      (∀ h' tk', (∀ b u, h0.get? b = some u → h'.get? b = some u) → h'.DictOfH (tkd prog w) d (puts xs ps) → Q { s with heap := h', toks := tk' }) →
      codeAny (model prog w) A (.builtin "dict.update.loop" ⟨[.ref d, .ref it, .int i tk, .none], []⟩) (wants (fun r s₂ => r = .none ∧ Q s₂) E) s := by
  intro ps
  induction ps with
  | nil =>
    intro xs i tk s hp hz hk hD hI q
    have hn : items[i]? = none := by have := hp 0; revert this; rw [Nat.add_zero]; cases items[i]? <;> intro z <;> cases z; rfl
    refine codeAny_builtin loop_entry ?_
    rw [Around.under_plainId loop_plain _]
    have ht' : s.heap.IsTuple t items := let ⟨o, ho, r⟩ := ht; ⟨o, hk _ _ ho, r⟩
    unfold Builtin.«dict.update.loop»
    refine wpAny_bind (wpAny_pyNext_tuple_end (A := A.in1) hh hI ht' hn fun h' hx => ?_)
    refine wpAny_pure ⟨rfl, q h' s.toks ?_ ?_⟩
    · exact fun b u e => hx b u (Nat.ne_of_lt (Nat.lt_of_lt_of_le (Heap.lt_size e) hi)) (hk b u e)
    · exact dh_ext hD hI hdi fun b u hb e => hx b u hb e
  | cons p ps ih =>
    intro xs i tk s hp hz hk hD hI q
    have hp0 := hp 0
    rw [Nat.add_zero] at hp0
    obtain ⟨v, hv, pa⟩ : ∃ v, items[i]? = some v ∧ PairAt prog w h0 v p := by
      revert hp0
      cases items[i]? with
      | none => intro z; cases z
      | some v => intro z; cases z with | some y => exact ⟨v, rfl, y⟩
    refine codeAny_builtin loop_entry ?_
    rw [Around.under_plainId loop_plain _]
    have ht' : s.heap.IsTuple t items := let ⟨o, ho, r⟩ := ht; ⟨o, hk _ _ ho, r⟩
    unfold Builtin.«dict.update.loop»
    refine wpAny_bind (wpAny_pyNext_tuple_item (A := A.in1) hI ht' hv fun h' hI' hs => ?_)
    have k1 : ∀ b u, h0.get? b = some u → h'.get? b = some u := fun b u e => (hs.2 b (Nat.ne_of_lt (Nat.lt_of_lt_of_le (Heap.lt_size e) hi))).trans (hk b u e)
    have D1 := dh_ext hD hI hdi fun b u hb e => (hs.2 b hb).trans e
    obtain ⟨r, rfl, tp, ky⟩ := pa.keep k1
    obtain ⟨o, ho, hc, n, hdt⟩ := id tp
    have hT : (⟨h', s.gens, s.drawn, s.toks, s.os⟩ : Shared).TypeIs (.ref r) "tuple" := ⟨o, ho, hc⟩
    unfold Builtin.Dict.pairItems
    dsimp only
    refine wpAny_bind (wpAny_holding (wpAny_bind (wpAny_tryCatch (wpAny_bind (wpAny_typeOf hT ?_)))))
    rw [if_pos (by decide)]
    unfold seqItems?
    refine wpAny_bind (wpAny_bind (wpAny_load ho ?_))
    rw [hdt]
    refine wpAny_pure ?_
    refine wpAny_pure (wpAny_holding ?_)
    refine wpAny_dictSet_heap (hsz := by simp only [List.length_cons] at hz; omega) (knd := tkd prog w) (tupleKind_room_in1 hu) ky D1 fun h2 D2 hs2 => ?_
    have nt : t ≠ d := fun e => by obtain ⟨u, hu, _⟩ := ht; exact absurd (Heap.lt_size hu) (by rw [e]; exact Nat.not_lt.mpr hd)
    refine wpAny_pure ⟨plainId_quiet loop_plain _, ?_⟩
    refine ih (storedH xs p.1 p.2.1 p.2.2) (i + 1) 0 _ (fun j => ?_) ?_ (fun b u e => ?_) D2 ?_ fun h3 tk3 k3 D3 => ?_
    · have := hp (j + 1)
      rw [List.getElem?_cons_succ] at this
      rw [show i + 1 + j = i + (j + 1) by omega]
      exact this
    · have := stored_len xs p.1 p.2.1 p.2.2
      simp only [List.length_cons] at hz
      omega
    · exact (hs2.2 b (Nat.ne_of_lt (Nat.lt_of_lt_of_le (Heap.lt_size e) hd))).trans (k1 b u e)
    · obtain ⟨u, u1, u2⟩ := hI'
      exact ⟨u, (hs2.2 it (Ne.symm hdi)).trans u1, u2⟩
    · exact q h3 tk3 k3 D3
end
section
variable {prog : Program} {w : World} {A : Around} {E : Value → Shared → Prop} {s : Shared}
theorem dict_tup {t : Addr} {o : Obj} {items : Array Value} {n : Nat} {ps : List (List Key × Addr × Value)} {Q : Value → Shared → Prop} (hh : A.handled = none) (hu : A.units + 2 < cLine) (ho : s.heap.get? t = some o) (hc : o.cls = .type "tuple") (hd : o.dict = none) (hs : o.data = .seq items n)
    (hp : ∀ j : Nat, Option.Rel (PairAt prog w s.heap) items[j]? ps[j]?) (hz : ps.length ≤ sizeLine)
    (q : ∀ h' tk', (∀ b u, s.heap.get? b = some u → h'.get? b = some u) → h'.DictOfH (tkd prog w) s.heap.objs.size (puts [] ps) → Q (.ref s.heap.objs.size) { s with heap := h', toks := tk' }) :
    wpAny (model prog w) A (call (.type "dict") [.ref t]) Q E s := by
  refine callType_codes (Q₁ := fun obj s₁ => obj = .ref s.heap.objs.size ∧ s₁ = { s with heap := s.heap.push { cls := .type "dict", data := .dict #[] } }) F.kt_called_dict (F.kt_typeCall_dict_1 _) F.entry_dict_init (kt_code_dict_new _ ⟨rfl, rfl⟩) ?_
  rintro obj s₁ ⟨rfl, rfl⟩
  have hT : (⟨s.heap.push { cls := .type "dict", data := .dict #[] }, s.gens, s.drawn, s.toks, s.os⟩ : Shared).TypeIs (.ref s.heap.objs.size) "dict" := ⟨_, Heap.get?_push_size _ rfl, rfl⟩
  have ho1 : (s.heap.push { cls := .type "dict", data := .dict #[] }).get? t = some o := Heap.get?_push_of_some _ ho
  have hT1 : (⟨s.heap.push { cls := .type "dict", data := .dict #[] }, s.gens, s.drawn, s.toks, s.os⟩ : Shared).TypeIs (.ref t) "tuple" := ⟨_, ho1, hc⟩
  refine ⟨hT, F.args_dict_init_2 _ _, ?_⟩
  unfold Builtin.«dict.__init__»
  refine wpAny_bind ?_
  unfold Builtin.Dict.selfAndRest
  refine wpAny_bind (wpAny_notOrdered_dict hT ?_)
  show wpAny _ _ (pure (s.heap.objs.size, [Value.ref t])) _ _ _
  refine wpAny_pure ?_
  show wpAny _ _ (Builtin.Dict.updateFrom "dict.__init__" s.heap.objs.size (.ref t) [] .none) _ _ _
  unfold Builtin.Dict.updateFrom
  refine wpAny_bind (wpAny_typeOf hT1 ?_)
  rw [if_pos (by decide)]
  refine wpAny_bind (keys_none ho1 hc hd n items hs hh fun h2 tk2 k2 => ?_)
  have kk : ∀ b u, s.heap.get? b = some u → h2.get? b = some u := fun b u e => k2 b u (Heap.get?_push_of_some _ e)
  have hi2 : h2.IsTuple t items := ⟨o, kk _ _ ho, hc, n, hs⟩
  have hd2 : h2.get? s.heap.objs.size = some { cls := .type "dict", data := .dict #[] } := k2 _ _ (Heap.get?_push_size _ rfl)
  have lt2 : s.heap.objs.size < h2.objs.size := Heap.lt_size hd2
  rw [if_pos (by decide)]
  refine wpAny_bind (wpAny_rule (wpAny_bind (wpAny_pyIter_tuple hi2 (wpAny_pure ⟨plainId_quiet loop_plain _, ?_⟩))))
  refine dict_loop (A := A.in1) (E := E) (Q := fun s₂ => Q (.ref s.heap.objs.size) s₂) (h0 := s.heap) (items := items) (t := t) hh hu (Nat.le_refl _) (Nat.le_of_lt lt2) (Nat.ne_of_lt lt2) ⟨o, ho, hc, n, hs⟩ ps [] 0 0 { s with heap := h2.push { cls := .type "tuple_iterator", data := .fields #[.ref t, .int 0 0] }, toks := tk2 } (fun j => ?_) (by simpa using hz) (fun b u e => ?_) ?_ ?_ fun h3 tk3 k3 D3 => q h3 tk3 k3 D3
  · rw [Nat.zero_add]; exact hp j
  · exact Heap.get?_push_of_some _ (kk b u e)
  · exact ⟨_, #[], 0, Heap.get?_push_of_some _ hd2, ⟨rfl, rfl, rfl⟩, rfl, rfl, (fun x hx => nomatch hx), List.nodup_nil⟩
  · exact ⟨_, Heap.get?_push_size _ rfl, rfl, rfl⟩
end
section
variable {X : Cx}
def PairsIn (H : Hp) (ys : List V) (kvs : List (List Key × V)) : Prop := Paired (fun (y : V) (p : List Key × V) => ∃ r b, y = .ref r ∧ Rd H r (.tup [.ref b, p.2]) ∧ H b = some (.tup (p.1.map kV))) ys kvs
theorem puts_new : ∀ (ps xs : List (List Key × Addr × Value)), ((xs ++ ps).map (·.1)).Nodup → puts xs ps = xs ++ ps
  | [], xs, _ => (List.append_nil xs).symm
  | p :: ps, xs, h => by
    have hn : atKey xs p.1 = none := by
      refine atKey_none_of_get fun j q e => ?_
      rw [List.map_append, List.map_cons] at h
      exact (List.nodup_append.mp h).2.2 p.1 (List.mem_map.mpr ⟨_, List.mem_of_getElem? e, rfl⟩) p.1 (List.mem_cons_self ..) rfl
    show puts (storedH xs p.1 p.2.1 p.2.2) ps = _
    rw [storedH_new hn, puts_new ps _ (by rw [List.append_assoc]; exact h), List.append_assoc]
    rfl
/-- dict(t): a new dict of what the tuple of pairs tells, its keys all different -/
def rDictT : List V → Hp → VK → Prop := fun xs H Q => ∃ (t : Addr) (o : Obj) (ys : List V) (kvs : List (List Key × V)), xs = [.ref t] ∧ H t = some (.frz o (.tup ys)) ∧ o.dict = none ∧ PairsIn H ys kvs ∧ (kvs.map (·.1)).Nodup ∧ New H (.dT kvs) Q
theorem call_dictT (hc : X.calm = true) (hu : X.A.units + 2 < cLine) : CallR X (.type "dict") rDictT := by
  intro pins s σ H xs us Q I r h
  obtain ⟨t, o, ys, kvs, rfl, ht, hd, hp, hn, q⟩ := h
  obtain ⟨u, rfl, ru⟩ := vals1 r
  cases ru
  obtain ⟨ho, hz, its, rv, o', ho', hcl, n, hdt⟩ := (show ObjOk X.prog X.w H s.heap t (.frz o (.tup ys)) from I.hok t _ ht)
  rw [ho] at ho'
  cases ho'
  have key : ∀ (ys : List V) (its : List Value) (kvs : List (List Key × V)), Vals ys its → PairsIn H ys kvs → ∃ ps : List (List Key × Addr × Value), KT H kvs ps ∧ Paired (PairAt X.prog X.w s.heap) its ps := by
    intro ys its kvs rv hp
    induction hp generalizing its with
    | nil => cases rv; exact ⟨[], .nil, .nil⟩
    | @cons y p ys kvs h t ih =>
      cases rv with
      | cons r1 rt =>
        obtain ⟨ps, k1, k2⟩ := ih _ rt
        obtain ⟨r, b, rfl, e1, e2⟩ := h
        cases r1
        obtain ⟨_, il, rl, tp⟩ := (show ObjOk X.prog X.w H s.heap r (.tup [.ref b, p.2]) from e1.ok I.hok)
        cases rl with
        | cons a1 a2 => cases a2 with
          | cons b1 b2 =>
            cases b2
            cases a1
            rename_i vb
            exact ⟨(p.1, b, vb) :: ps, .cons ⟨rfl, e2, b1⟩ k1, .cons ⟨r, rfl, tp, key_of I.hok e2⟩ k2⟩
  obtain ⟨ps, k1, k2⟩ := key ys its kvs rv hp
  have lz : ps.length = its.length := (Paired.length k2).symm
  have lz2 : kvs.length = ps.length := Paired.length k1
  have lz3 := rv.length
  have hn2 : (ps.map (·.1)).Nodup := by
    have : kvs.map (·.1) = ps.map (·.1) := KTkeys k1
    rw [← this]
    exact hn
  refine dict_tup (ps := ps) (I.ok.hd hc) hu ho hcl hd hdt (fun j => ?_) (by omega) fun h' tk' kk D => ?_
  · have pr : ∀ (l : List Value) (m : List (List Key × Addr × Value)), Paired (PairAt X.prog X.w s.heap) l m → ∀ j : Nat, Option.Rel (PairAt X.prog X.w s.heap) l[j]? m[j]? := by
      intro l m h
      induction h with
      | nil => intro j; exact .none
      | cons a b ih => intro j; cases j with
        | zero => exact .some a
        | succ j => exact ih j
    simpa using pr its ps k2 j
  · rw [puts_new ps [] (by simpa using hn2), List.nil_append] at D
    obtain ⟨ob, es, ep, g1, g2, g3, g4, _, g5⟩ := D
    refine ⟨.ref s.heap.objs.size, _, I.laid (a := s.heap.objs.size) (o := .dT kvs) kk (Nat.le_refl _) ⟨by omega, beq_eq_false_iff_ne.mpr (Ne.symm (Nat.ne_of_lt I.big)), ps, (KT.keeps k1 fun c ys e => ?_), ob, es, ep, g1, g2, g3, g4, g5⟩, rfl, q.at (I.hok.fresh (Nat.le_refl _))⟩
    rw [upd_ne (fun z => by rw [z, I.hok.fresh (Nat.le_refl _)] at e; cases e)]
    exact e
end
end LwD

namespace LwD
open PySem PySem.Spec PyProof.Rows L2 Lw
/-! ### dict(d) of a dict of tuple keys whose hashes are all different -/
section
variable {prog : Program} {w : World} {A : Around} {E : Value → Shared → Prop} {s : Shared}
theorem filter_one {α : Type} (f : α → Int) : ∀ (l : List α), (l.map f).Nodup → ∀ e ∈ l, (l.filter fun x => f x == f e).length ≤ 1
  | [], _, e, he => nomatch he
  | a :: l, hn, e, he => by
    rw [List.map_cons, List.nodup_cons] at hn
    by_cases z : f a = f e
    · have : (l.filter fun x => f x == f e) = [] := by
        rw [List.filter_eq_nil_iff]
        intro x hx
        simp only [beq_iff_eq]
        exact fun y => hn.1 (z ▸ y ▸ List.mem_map.mpr ⟨x, hx, rfl⟩)
      rw [List.filter_cons, this]
      split <;> simp
    · rw [List.filter_cons, if_neg (by simpa using z)]
      rcases List.mem_cons.mp he with rfl | he
      · exact absurd rfl z
      · exact filter_one f l hn.2 e he
theorem merge_copy {nm : String} {d o : Addr} {xs : List (List Key × Addr × Value)} {Q : Unit → Shared → Prop} (hdo : d ≠ o) (hoS : (o == sysModules) = false) (hd : s.heap.DictOfH (tkd prog w) d []) (ho : s.heap.DictOfH (tkd prog w) o xs)
    (hh : (xs.map fun x => (tkd prog w).hash x.1).Nodup) (hz : xs.length ≤ sizeLine) (hQ : ∀ h', h'.DictOfH (tkd prog w) d xs → Heap.SameBut d s.heap h' → Q () { s with heap := h' }) : wpAny (model prog w) A (Builtin.Dict.mergeDict nm d o) Q E s := by
  obtain ⟨od, esd, epd, hod, hcd, hdd, hed, hid, hnd⟩ := id hd
  obtain ⟨oo, eso, epo, hoo, hco, hdo', heo, hio, hno⟩ := id ho
  have d0 : esd = #[] := by simpa using hed
  subst d0
  have lz : eso.size = xs.length := size_of_entries heo
  unfold Builtin.Dict.mergeDict
  rw [if_neg (by simpa using hdo)]
  unfold Builtin.Dict.showsAll
  rw [if_neg (by rw [hoS]; exact Bool.false_ne_true)]
  refine wpAny_bind (wpAny_pure ?_)
  refine wpAny_bind (wpAny_dictEntries hoo hdo' ?_)
  dsimp only
  by_cases he : xs = []
  · subst he
    have e0 : eso = #[] := by simpa using heo
    subst e0
    rw [if_neg (by simp)]
    refine wpAny_bind (wpAny_dictEpoch hoo hdo' ?_)
    refine wpAny_bind (wpAny_dictEntries hoo hdo' ?_)
    refine wpAny_bind ?_
    rw [Std.Legacy.Range.forIn_eq_forIn_range']
    refine wpAny_pure ?_
    exact wpAny_pure (hQ s.heap hd (Heap.SameBut.refl _ _))
  · have few : (decide (eso.size ≤ 8) && eso.all fun e => (keyPart e.key).isSome) = false := by
      obtain ⟨x, r, rfl⟩ : ∃ x r, xs = x :: r := by cases xs with | nil => exact absurd rfl he | cons x r => exact ⟨x, r, rfl⟩
      have : eso.all (fun e => (keyPart e.key).isSome) = false := by
        rw [← Array.all_toList, heo]
        rfl
      rw [this, Bool.and_false]
    rw [few, if_pos (by decide)]
    refine wpAny_bind (wpAny_dictEntries hod hdd ?_)
    rw [if_pos (by decide)]
    refine wpAny_bind ?_
    unfold Builtin.Dict.entriesForEmpty
    refine wpAny_bind (wpAny_dictEntries hoo hdo' ?_)
    have body : ∀ e ∈ eso.toList, ∀ (s' : Shared), s' = s → ∀ {Q' : ForInStep PUnit → Shared → Prop}, Q' (.yield PUnit.unit) s' → wpAny (model prog w) A (do
      let q ← Builtin.Dict.quietEq e.key
      if (!q) = true then
        if (eso.filter (·.hash == e.hash)).size > 1 then (do let _ ← (unsupported s!"{nm}:keys-of-equal-hash" : Sem PUnit); pure (ForInStep.yield PUnit.unit)) else pure (ForInStep.yield PUnit.unit)
      else pure (ForInStep.yield PUnit.unit) : Sem (ForInStep PUnit)) Q' E s' := by
      rintro e hm s' rfl Q' hq
      have hm' := hm
      rw [heo] at hm
      obtain ⟨x, hx, rfl⟩ := List.mem_map.mp hm
      refine wpAny_bind ?_
      show wpAny _ _ (Builtin.Dict.quietEq (.ref x.2.1)) _ _ _
      unfold Builtin.Dict.quietEq
      refine wpAny_bind (wpAny_specialOf (hio x hx).typeIs F.slot_tuple_eq.lookup (wpAny_pure ?_))
      rw [if_pos (by decide), if_neg ?_]
      · exact wpAny_pure hq
      · have := filter_one (fun e : DictEntry => e.hash) eso.toList (by rw [heo, List.map_map]; exact hh) _ hm'
        rw [← Array.toList_filter, Array.length_toList] at this
        exact Nat.not_lt.mpr this
    refine wpAny_bind ?_
    rw [← Array.forIn_toList]
    refine wpAny_forIn_list _ (fun rest _ s' => s' = s ∧ ∃ pre, eso.toList = pre ++ rest) _ ?_ ?_ _ _ ⟨rfl, [], rfl⟩
    · rintro e rest b s' ⟨rfl, pre, hp⟩
      refine body e (by rw [hp]; simp) _ rfl ?_
      exact ⟨rfl, pre ++ [e], by rw [hp]; simp⟩
    · rintro b s' ⟨rfl, _⟩
      refine wpAny_pure ?_
      rw [if_pos (by
        have : eso ≠ #[] := fun z => he (List.length_eq_zero_iff.mp (by rw [← lz, z]; rfl))
        simpa using this)]
      refine wpAny_bind (wpAny_updateDictKeysTo hod hdd (wpAny_pure (hQ _ ⟨_, _, epd + 1, Heap.get?_update_self _ hod (Obj.isFreed_of_dict (Obj.data_mapDictKeys hdd _)), hcd.mapDictKeys _, Obj.data_mapDictKeys hdd _, heo, fun x hx => ?_, hno⟩ (Heap.SameBut.update ..))) (by omega))
      exact (tkd prog w).keeps (hio x hx) hod hdd (Heap.SameBut.update ..)
theorem dict_copy {o : Addr} {xs : List (List Key × Addr × Value)} {Q : Value → Shared → Prop} (hoS : (o == sysModules) = false) (ho : s.heap.DictOfH (tkd prog w) o xs) (hh : (xs.map fun x => (tkd prog w).hash x.1).Nodup) (hz : xs.length ≤ sizeLine)
    (h : ∀ h', h'.DictOfH (tkd prog w) s.heap.objs.size xs → (∀ b u, s.heap.get? b = some u → h'.get? b = some u) → Q (.ref s.heap.objs.size) { s with heap := h' }) :
    wpAny (model prog w) A (call (.type "dict") [.ref o]) Q E s := by
  refine callType_codes (Q₁ := fun obj s₁ => obj = .ref s.heap.objs.size ∧ s₁ = { s with heap := s.heap.push { cls := .type "dict", data := .dict #[] } }) F.kt_called_dict (F.kt_typeCall_dict_1 _) F.entry_dict_init (kt_code_dict_new _ ⟨rfl, rfl⟩) ?_
  rintro obj s₁ ⟨rfl, rfl⟩
  have hnew : (s.heap.push { cls := .type "dict", data := .dict #[] }).DictOfH (tkd prog w) s.heap.objs.size [] := ⟨_, #[], 0, Heap.get?_push_size _ rfl, ⟨rfl, rfl, rfl⟩, rfl, rfl, (fun x hx => nomatch hx), List.nodup_nil⟩
  have ho' : (s.heap.push { cls := .type "dict", data := .dict #[] }).DictOfH (tkd prog w) o xs := by
    obtain ⟨oo, es, ep, g1, g2, g3, g4, g5, g6⟩ := ho
    exact ⟨oo, es, ep, Heap.get?_push_of_some _ g1, g2, g3, g4, fun x hx => let ⟨q, its, n, i1, i2⟩ := g5 x hx; ⟨q, its, n, Heap.get?_push_of_some _ i1, i2⟩, g6⟩
  have hdo : s.heap.objs.size ≠ o := by
    obtain ⟨_, _, _, hg, _⟩ := ho
    exact fun e => absurd (Heap.lt_size hg) (by rw [e]; exact Nat.lt_irrefl _)
  have ty : ∀ {h1 : Heap} {a : Addr} {ys : List (List Key × Addr × Value)}, h1.DictOfH (tkd prog w) a ys → (⟨h1, s.gens, s.drawn, s.toks, s.os⟩ : Shared).TypeIs (.ref a) "dict" := fun D => let ⟨q, _, _, g1, g2, _⟩ := D; ⟨q, g1, g2.1⟩
  refine ⟨ty hnew, F.args_dict_init_2 _ _, ?_⟩
  unfold Builtin.«dict.__init__»
  refine wpAny_bind ?_
  unfold Builtin.Dict.selfAndRest
  refine wpAny_bind (wpAny_notOrdered_dict (ty hnew) ?_)
  show wpAny _ _ (pure (s.heap.objs.size, [Value.ref o])) _ _ _
  refine wpAny_pure ?_
  show wpAny _ _ (Builtin.Dict.updateFrom "dict.__init__" s.heap.objs.size (.ref o) [] .none) _ _ _
  unfold Builtin.Dict.updateFrom
  refine wpAny_bind (wpAny_typeOf (ty ho') ?_)
  rw [if_neg (by decide)]
  refine wpAny_bind ?_
  unfold Builtin.Dict.merge
  refine wpAny_bind ?_
  unfold Builtin.Dict.readDirectly
  refine wpAny_bind (wpAny_isInstance (ty ho') isSubtype_dict_dict ?_)
  simp only [Bool.not_true, Bool.false_eq_true, if_false]
  refine wpAny_bind (wpAny_specialOf (ty ho') F.slot_dict_iter.lookup (wpAny_pure ?_))
  simp only [beq_self_eq_true, if_true]
  refine wpAny_bind (wpAny_pure ?_)
  refine merge_copy hdo hoS hnew ho' hh hz fun h' hd' hs' => ?_
  show wpAny _ _ (Builtin.Dict.addKeywords s.heap.objs.size [] >>= _) _ _ _
  refine wpAny_bind (wpAny_pure (wpAny_pure ⟨rfl, h h' hd' fun b u e => ?_⟩))
  exact (hs'.2 b (Nat.ne_of_lt (Heap.lt_size e))).trans (Heap.get?_push_of_some _ e)
end
section
variable {X : Cx}
/-- the hashes of small powers differ -/
theorem hash_small : ∀ i j : Fin 24, reduceHash (Builtin.Tuple.tupleHashOf [hashInt ((i.val : Nat) : Int)]) = reduceHash (Builtin.Tuple.tupleHashOf [hashInt ((j.val : Nat) : Int)]) → i = j := by decide +kernel
def SmallK (k : List Key) : Prop := ∃ n : Nat, n < 24 ∧ k = ik [(n : Int)]
theorem hash_inj {P : Program} {w : World} {k k' : List Key} (h : SmallK k) (h' : SmallK k') (e : (tkd P w).hash k = (tkd P w).hash k') : k = k' := by
  obtain ⟨n, hn, rfl⟩ := h
  obtain ⟨m, hm, rfl⟩ := h'
  have := hash_small ⟨n, hn⟩ ⟨m, hm⟩ e
  cases this
  rfl
def rDictD : List V → Hp → VK → Prop := fun xs H Q => ∃ (a : Addr) (kvs : List (List Key × V)), xs = [.ref a] ∧ Rd H a (.dT kvs) ∧ (∀ p ∈ kvs, SmallK p.1) ∧ New H (.dT kvs) Q
theorem call_dictD : CallR X (.type "dict") rDictD := by
  intro pins s σ H xs us Q I r h
  obtain ⟨a, kvs, rfl, ha, hn, q⟩ := h
  obtain ⟨u, rfl, ru⟩ := vals1 r
  cases ru
  obtain ⟨z, lo, ks, rel, dd⟩ := dt_rd I.hok ha
  have lz := Paired.length rel
  refine dict_copy lo dd ?_ (by omega) fun h' D kk => ?_
  · have e := KTkeys rel
    obtain ⟨_, _, _, _, _, _, _, _, nd⟩ := id dd
    have sm : ∀ x ∈ ks.map (·.1), SmallK x := fun x hx => by
      rw [← e] at hx
      obtain ⟨p, hp, rfl⟩ := List.mem_map.mp hx
      exact hn p hp
    have : (ks.map fun x => (tkd X.prog X.w).hash x.1) = (ks.map (·.1)).map fun k => (tkd X.prog X.w).hash k := by rw [List.map_map]; rfl
    rw [this]
    generalize ks.map (·.1) = l at nd sm
    refine List.pairwise_map.mpr (List.Pairwise.imp_of_mem (fun {a b} ha hb hab hs => hab (hash_inj (sm a ha) (sm b hb) hs)) nd)
  · obtain ⟨ob, es, ep, g1, g2, g3, g4, _, g5⟩ := D
    refine ⟨.ref s.heap.objs.size, _, I.laid (a := s.heap.objs.size) (o := .dT kvs) (t' := s.toks) kk (Nat.le_refl _) ⟨by omega, beq_eq_false_iff_ne.mpr (Ne.symm (Nat.ne_of_lt I.big)), ks, (KT.keeps rel fun c ys e => ?_), ob, es, ep, g1, g2, g3, g4, g5⟩, rfl, q.at (I.hok.fresh (Nat.le_refl _))⟩
    rw [upd_ne (fun z => by rw [z, I.hok.fresh (Nat.le_refl _)] at e; cases e)]
    exact e
end
end LwD

namespace LwD
open PySem PySem.Spec PyProof.Rows L2 Lw
/-! ### d == {} -/
section
variable {prog : Program} {w : World} {A : Around} {E : Value → Shared → Prop} {s : Shared}
theorem same_empty {nm : String} {a b : Addr} {xs : List (List Key × Addr × Value)} {Q : Bool → Shared → Prop} (ha : (a == sysModules) = false) (hb : (b == sysModules) = false)
    (da : s.heap.DictOfH (tkd prog w) a xs) (db : s.heap.DictOfH (tkd prog w) b []) (h : Q (xs.isEmpty) s) : wpAny (model prog w) A (Builtin.Dict.samePairs nm a b) Q E s := by
  obtain ⟨od, esd, epd, hod, hcd, hdd, hed, hid, hnd⟩ := id db
  obtain ⟨oo, eso, epo, hoo, hco, hdo', heo, hio, hno⟩ := id da
  have d0 : esd = #[] := by simpa using hed
  subst d0
  have lz : eso.size = xs.length := size_of_entries heo
  unfold Builtin.Dict.samePairs
  unfold Builtin.Dict.showsAll
  rw [if_neg (by rw [ha]; exact Bool.false_ne_true), if_neg (by rw [hb]; exact Bool.false_ne_true)]
  refine wpAny_bind (wpAny_pure (wpAny_bind (wpAny_pure ?_)))
  refine wpAny_bind (wpAny_dictEntries hoo hdo' ?_)
  refine wpAny_bind (wpAny_dictEntries hod hdd ?_)
  by_cases he : xs = []
  · subst he
    have e0 : eso = #[] := by simpa using heo
    subst e0
    rw [if_neg (by simp)]
    refine wpAny_bind (wpAny_dictEpoch hoo hdo' ?_)
    refine wpAny_bind ?_
    rw [Std.Legacy.Range.forIn_eq_forIn_range']
    refine wpAny_pure ?_
    exact wpAny_pure h
  · rw [if_pos (by
      have : eso.size ≠ 0 := fun z => he (List.length_eq_zero_iff.mp (by omega))
      simpa using this)]
    refine wpAny_bind (wpAny_rule ?_)
    have : xs.isEmpty = false := by cases xs with | nil => exact absurd rfl he | cons x r => rfl
    rw [this] at h
    exact wpAny_pure h
theorem dict_ty {h1 : Heap} {a : Addr} {ys : List (List Key × Addr × Value)} {g : Array GenState} {d : Drawn} {t : Nat} {os : OsState} (D : h1.DictOfH (tkd prog w) a ys) : (⟨h1, g, d, t, os⟩ : Shared).TypeIs (.ref a) "dict" := let ⟨q, _, _, g1, g2, _⟩ := D; ⟨q, g1, g2.1⟩
theorem eq_empty {a b : Addr} {xs : List (List Key × Addr × Value)} {Q : Value → Shared → Prop} (ha : (a == sysModules) = false) (hb : (b == sysModules) = false)
    (da : s.heap.DictOfH (tkd prog w) a xs) (db : s.heap.DictOfH (tkd prog w) b []) (hu : A.units < cLine) (h : Q (.bool xs.isEmpty) s) :
    wpAny (model prog w) A (compareOp .Eq (.ref a) (.ref b)) Q E s := by
  have ta : s.TypeIs (.ref a) "dict" := dict_ty da
  have tb : s.TypeIs (.ref b) "dict" := dict_ty db
  refine wpAny_richCompare_same_room (op := .Eq) ta tb PySem.F.slot_dict_eq (wpAny_call_entry PySem.F.slot_dict_eq ta PySem.F.entry_dict_eq ?_ (PySem.F.args_dict_eq_2 _ _)) hu
  show wpAny _ _ (Builtin.Dict.dictSlotArgs "__eq__" ⟨[.ref a, .ref b], []⟩ >>= _) _ _ s
  refine wpAny_bind ?_
  unfold Builtin.Dict.dictSlotArgs
  refine wpAny_bind (wpAny_notOrdered_dict ta ?_)
  show wpAny _ _ (pure (Value.ref a, Value.ref b)) _ _ s
  refine wpAny_pure ?_
  refine wpAny_bind (wpAny_isInstance (T := "dict") tb PySem.F.sub_dict_dict ?_)
  simp only [Bool.not_true, Bool.false_eq_true, if_false]
  refine wpAny_bind (wpAny_pure (wpAny_bind (wpAny_pure ?_)))
  refine wpAny_bind (same_empty ha hb da db ?_)
  refine wpAny_pure ⟨_, rfl, ?_, ?_⟩
  · exact fun x => nomatch x
  · simpa using h
end
section
variable {X : Cx}
def rEqE : R2 := fun x y H Q => ∃ (a b : Addr) (kvs : List (List Key × V)), x = .ref a ∧ y = .ref b ∧ Rd H a (.dT kvs) ∧ Rd H b (.dT []) ∧ Q (.bl kvs.isEmpty) H
theorem op_eqE (hu : X.A.units < cLine) : OpR X (compareOp .Eq) rEqE := by
  intro pins s σ H x y v u Q I rx ry h
  obtain ⟨a, b, kvs, rfl, rfl, ha, hb, q⟩ := h
  cases rx
  cases ry
  obtain ⟨_, lo, ks, rel, dd⟩ := dt_rd I.hok ha
  obtain ⟨_, lo', ks', rel', dd'⟩ := dt_rd I.hok hb
  cases rel'
  refine eq_empty lo lo' dd dd' hu ⟨.bl kvs.isEmpty, H, I, ?_, q⟩
  have : ks.isEmpty = kvs.isEmpty := by cases rel <;> rfl
  rw [this]
  rfl
end
end LwD

namespace LwD
open PySem PySem.Spec PyProof.Rows L2 Lw
/-! ### {k: v}, the key a tuple -/
section
variable {X : Cx} {k v : Expr} {tk tv : TE} {pos : Pos}
def tDisp1 (tk tv : TE) : TE := fun σ H Q => ∀ p, H p = none → tk σ (upd H p (.dT [])) fun x H1 => tv σ H1 fun y H2 => H2 p = some (.dT []) ∧ ∃ (b : Addr) (ks : List Key), x = .ref b ∧ H2 b = some (.tup (ks.map kV)) ∧ Q (.ref p) (upd H2 p (.dT [(ks, y)]))
theorem pe_disp1 (hu : X.A.units < cLine) (hk : PE X k tk) (hv : PE X v tv) : PE X (.Dict [some k] [v] pos) (tDisp1 tk tv) := by
  intro pins s σ H Q I q
  have hn := I.hok.fresh (Nat.le_refl s.heap.objs.size)
  have I1 := I.laid (a := s.heap.objs.size) (o := .dT []) (h' := s.heap.push { cls := .type "dict", data := .dict #[] }) (t' := s.toks) (fun _ _ q => Heap.get?_push_of_some _ q) (Nat.le_refl _) (dt_empty s.heap I.big)
  refine wpAny_Dict_any rfl rfl (by simp) (by simp) (pairTrees_cons_walk (thn (hk pins _ σ _ _ I1 (q _ hn)) fun u s1 ⟨x, H1, I2, rx, q1⟩ => thn (hv pins s1 σ H1 _ I2 q1) fun u2 s2 ⟨y, H2, I3, ry, e, b, ks, ex, eb, q2⟩ => pairTrees_nil_walk ?_))
  subst ex
  cases rx
  unfold storeAll
  rw [List.forIn_cons]
  obtain ⟨z, hd, xs, rel, dd⟩ := dt_of I3.hok e
  cases rel
  refine wpAny_bind (wpAny_bind (wpAny_dictSet_heap (hsz := by decide) (knd := tkd X.prog X.w) hu (key_of I3.hok eb) dd fun h' dd' hs => wpAny_pure ?_))
  dsimp only
  rw [List.forIn_nil]
  refine wpAny_pure ⟨.ref s.heap.objs.size, _, ?_, rfl, q2⟩
  obtain ⟨o, es, ep, hq, h2, h3, h4, _, h5⟩ := dd'
  refine d_write I3 (by rw [e]; exact True.intro) hs ⟨o, hq⟩ ⟨show 1 ≤ sizeLine by decide, hd, _, ?_, o, es, ep, hq, h2, h3, h4, h5⟩
  refine .cons ⟨rfl, ?_, ry⟩ .nil
  rw [upd_ne (ne_of eb e (fun z => nomatch z))]
  exact eb
end
end LwD

namespace L2
open PySem PySem.Spec PyProof.Rows
/-! ### enumerate(list) -/
def Itel (K : PySem.W.Frag) (a : Addr) : It :=
  ⟨fun i H => ∃ xs x, SqL K H a xs ∧ xs[i]? = some x,
   fun i H v H' => ∃ p x, H p = none ∧ v = .ref p ∧ H' = upd H p (.tup [.int i, x]) ∧ (∀ xs, SqL K H a xs → xs[i]? = some x),
   fun i H => ∃ xs, SqL K H a xs ∧ xs.length ≤ i⟩
theorem turn_enumL {P : Program} {w : World} {K : PySem.W.Frag} {es : List Expr} {x1} {pos : Pos} (l : Addr) {e it : Addr} (hne : e ≠ it) : Turn P w K (.Tuple es x1 pos) (Itel K l) [e, it] e (fun i h => (∃ old, IsEnum h e it i old) ∧ h.IsListIter it l i) where
  mem := by simp
  obj := fun i h Z b hb => by
    simp only [List.mem_cons, List.not_mem_nil, or_false] at hb
    obtain ⟨⟨old, he⟩, ⟨o1, g1, c1, d1⟩⟩ := Z
    rcases hb with rfl | rfl
    · exact ⟨_, he, fun v q => by cases (show Data.fields _ = Data.cell v from q)⟩
    · exact ⟨_, g1, fun v q => by rw [d1] at q; cases q⟩
  keep := fun i h h' Z k => by
    obtain ⟨⟨old, he⟩, s1⟩ := Z
    exact ⟨⟨old, k e (by simp) _ he⟩, Heap.IsListIter.at s1 fun o y => k it (by simp) o y⟩
  item := by
    intro X hP hw hK hc i pins s σ H E I hf Z hg
    subst hP hw hK
    obtain ⟨xs, x, q1, hx⟩ := hg
    obtain ⟨its1, r1, p1, _⟩ := I.list q1
    obtain ⟨u1, hu1, ru1⟩ := r1.get hx
    obtain ⟨⟨old, he⟩, hit⟩ := id Z
    have ae : l ≠ e := FpOk.apartL I (hf e (by simp)) q1
    have ai : l ≠ it := FpOk.apartL I (hf it (by simp)) q1
    refine wpAny_pyNext_enum_item he hit p1.isList (x := u1) (by simpa using hu1) hne fun g out n1 nu _ kk => ⟨_, rfl, ?_⟩
    refine wpAny_letOwnedTupleGo_enum out fun g2 z2 sb => ?_
    have fr : H s.heap.objs.size = none := I.hok.fresh (Nat.le_refl _)
    have el : e < s.heap.objs.size := Heap.lt_size he
    have il : it < s.heap.objs.size := by obtain ⟨_, y, _⟩ := hit; exact Heap.lt_size y
    have fp : ∀ b ∈ [e, it], FpOk X pins (upd H s.heap.objs.size (.tup [.int i, x])) b := fun b hb => by
      have lt : b ≠ s.heap.objs.size := by
        simp only [List.mem_cons, List.not_mem_nil, or_false] at hb
        rcases hb with rfl | rfl
        · exact Nat.ne_of_lt el
        · exact Nat.ne_of_lt il
      exact ⟨by rw [upd_ne lt]; exact (hf b hb).1, (hf b hb).2⟩
    have I1 : Inv X pins σ (upd H s.heap.objs.size (.tup [.int i, x])) { s with heap := s.heap.push { cls := .type "tuple", data := .seq #[.int i s.toks, u1] } } := I.laid (t' := s.toks) (fun b u e => Heap.get?_push_of_some _ e) (Nat.le_refl _) ⟨by simp [sizeLine], [.int i s.toks, u1], .cons ⟨_, rfl⟩ (.cons ru1 .nil), ⟨_, Heap.get?_push_size _ rfl, rfl, _, rfl⟩⟩
    have up : ∀ c o, c ≠ e → g.get? c = some o → g2.get? c = some o := fun c o cz y => sb.extBut _ _ cz y
    have I2 : Inv X pins σ (upd H s.heap.objs.size (.tup [.int i, x])) { s with heap := g2, toks := s.toks + 1 } := by
      refine Inv.turnedL (s := { s with heap := s.heap.push { cls := .type "tuple", data := .seq #[.int i s.toks, u1] } }) (h' := g2) (t' := s.toks + 1) I1 fp fun b o hb y => ?_
      simp only [List.mem_cons, List.not_mem_nil, or_false, not_or] at hb
      rcases Heap.get?_push_cases y with ⟨e1, e2⟩ | e1
      · rw [e1, e2]
        exact up _ _ (Nat.ne_of_gt el) nu
      · exact up _ _ hb.1 (kk b o hb.1 hb.2 e1)
    exact ⟨.ref s.heap.objs.size, _, I2, rfl, ⟨_, x, fr, rfl, rfl, fun xs' h => by rw [I.list_inj h q1]; exact hx⟩, ⟨⟨_, by simpa using z2⟩, Heap.IsListIter.at n1 fun o y => up _ o (Ne.symm hne) y⟩, fun b hb => (fp b hb).1⟩
  done := by
    intro X hP hw hK hc i pins s σ H E I hf Z hg
    subst hP hw hK
    obtain ⟨xs, q1, hl⟩ := hg
    obtain ⟨its1, r1, p1, _⟩ := I.list q1
    obtain ⟨⟨old, he⟩, hit⟩ := id Z
    have e1 := r1.length
    refine wpAny_pyNext_enum_end (I.ok.hd hc) he hit p1.isList (by simp; omega) fun g eb => ⟨rfl, Inv.turnedL (t' := s.toks) I hf fun b o hb y => eb b o (fun z => hb (by simp [z])) y⟩
  self := fun _ _ _ _ _ Z h => by
    obtain ⟨⟨old, he⟩, _⟩ := Z
    exact wpAny_pyIter_enum he h
section
variable {X : Cx}
def iEnumL (K : PySem.W.Frag) (ta : TA) : TI := fun σ H R => ta σ H fun vs H1 => ∃ a, vs = [.ref a] ∧ (∃ xs, SqL K H1 a xs) ∧ R (Itel K a) H1
theorem pi_enumL {es : List Expr} {x1} {tp : Pos} {a : Expr} {ta : TA} {p pos : Pos} (hg : Gl X "enumerate") (hm : X.mg "enumerate" = none) (ha : PA X [a] ta) (hs : starEach [a] X.env = [(false, eval a X.env)] := by rfl) :
    PI X (.Tuple es x1 tp) (.Call (.Name "enumerate" p) [a] [] pos) (iEnumL X.K ta) := by
  intro pins s σ H R I h
  refine Call_ (ld_blt I hg hm (show bootBuiltins "enumerate" = some (.type "enumerate") by decide +kernel) (PyProof.Rows.callWith_type1 (thn (ha pos pins s σ H _ I h) fun us s1 ⟨vs, H1, I1, r1, q1⟩ => ?_) hs rfl))
  obtain ⟨l1, e, ⟨xs, q1⟩, q⟩ := q1
  subst e
  obtain ⟨u, rfl, ru⟩ := vals1 r1
  cases ru
  obtain ⟨its1, _, p1, _⟩ := I1.list q1
  refine call_enumerate_list p1.isList fun g he hit _ k => wpAny_pyIter_enum he ?_
  refine ⟨_, [s1.heap.objs.size + 1, s1.heap.objs.size], _, _, H1, rfl, I1.kept (t' := s1.toks) k, turn_enumL l1 (Nat.ne_of_gt (Nat.lt_succ_self _)), ⟨⟨_, he⟩, hit⟩, fun b hb => ?_, q⟩
  have hb' : s1.heap.objs.size ≤ b := by
    simp only [List.mem_cons, List.not_mem_nil, or_false] at hb
    rcases hb with rfl | rfl <;> first | exact Nat.le_add_right _ _ | exact Nat.le_refl _
  exact I1.fpOk hb' (I1.hok.fresh hb')
end
theorem for_enumL {K : PySem.W.Frag} {a : Addr} {xs : List V} {g : TG} {tb : TS} {D : Ends} {σ : St} {H : Hp} (Pv : Nat → St → Hp → Prop) (h0 : Pv 0 σ H) (hl : ∀ i σ H, i ≤ xs.length → Pv i σ H → SqL K H a xs)
    (hs : ∀ i x p σ H, xs[i]? = some x → H p = none → Pv i σ H → g (.ref p) σ (upd H p (.tup [.int i, x])) fun σ2 H2 => tb { D with nx := Pv (i + 1), ct := Pv (i + 1), bk := D.nx } σ2 H2) (hd : ∀ σ H, Pv xs.length σ H → D.nx σ H) :
    ∃ W : Nat → Nat → St → Hp → Prop, (∃ m, W 0 m σ H) ∧ ∀ i m σ H, W i m σ H →
      ((Itel K a).stop i H ∧ D.nx σ H) ∨ ((Itel K a).go i H ∧ ∃ N : St → Hp → Prop, (∀ σ' H', N σ' H' → ∃ m', m' < m ∧ W (i + 1) m' σ' H') ∧ ∀ x H', (Itel K a).yld i H x H' → g x σ H' fun σ2 H2 => tb { D with nx := N, ct := N, bk := D.nx } σ2 H2) := by
  refine ⟨fun i m σ H => m = xs.length - i ∧ i ≤ xs.length ∧ Pv i σ H, ⟨xs.length, by simp, Nat.zero_le _, h0⟩, ?_⟩
  rintro i m σ H ⟨rfl, hi, p⟩
  have q := hl i σ H hi p
  by_cases hlt : i < xs.length
  · refine .inr ⟨⟨xs, xs[i], q, by simp [hlt]⟩, Pv (i + 1), fun σ' H' p' => ⟨xs.length - (i + 1), by omega, rfl, hlt, p'⟩, fun v H' y => ?_⟩
    obtain ⟨r, x, hr, rfl, rfl, hx⟩ := y
    exact hs i x r σ H (hx xs q) hr p
  · have ei : i = xs.length := by omega
    subst ei
    exact .inl ⟨⟨xs, q, Nat.le_refl _⟩, hd σ H p⟩
end L2

namespace L2
open PySem PySem.Spec PyProof.Rows
/-! ### reversed(range(n)) -/
section
variable {prog : Program} {w : World} {A : Around} {E : Value → Shared → Prop} {s : Shared}
theorem range_rev {r : Addr} {n : Int} {t u v : Tok} {Q : Value → Shared → Prop} (hr : IsRange s.heap r 0 n 1 t u v) (h0 : 0 ≤ n) (h1 : n < 2 ^ 62)
    (h : Q (.ref s.heap.objs.size) { s with heap := s.heap.push { cls := .type "range_iterator", data := .fields #[rawInt (n - 1), rawInt n, rawInt (-1)] } }) :
    wpAny (model prog w) A (call (.builtin "range.__reversed__") [.ref r]) Q E s := by
  have hT : s.TypeIs (.ref r) "range" := ⟨_, hr, rfl⟩
  refine wpAny_call_entry F.slot_range_reversed hT F.entry_range_reversed ?_ (F.args_range_reversed_1 _)
  unfold Builtin.«range.__reversed__»
  refine wpAny_bind (wpAny_of_eq (a := Value.ref r) rfl ?_)
  have rf : ∀ {Q' : Int × Int × Int → Shared → Prop} {E' : Value → Shared → Prop}, Q' (0, n, 1) s → wpAny (model prog w) A.in1 (Builtin.Range.rangeFields (.ref r)) Q' E' s := fun {Q' E'} hq => by
    unfold Builtin.Range.rangeFields
    refine wpAny_bind (wpAny_field hr rfl (x := .int 0 t) rfl (wpAny_bind (wpAny_pure ?_)))
    refine wpAny_bind (wpAny_field hr rfl (x := .int n u) rfl (wpAny_bind (wpAny_pure ?_)))
    refine wpAny_bind (wpAny_field hr rfl (x := .int 1 v) rfl (wpAny_bind (wpAny_pure ?_)))
    exact wpAny_pure hq
  refine wpAny_bind (rf ?_)
  have sz : Builtin.Range.rangeSize 0 n 1 = n := by rw [rangeSize_one]; split <;> omega
  have sm : (Builtin.Range.rangeFitsLong 0 && Builtin.Range.rangeFitsLong n && Builtin.Range.rangeFitsLong 1 && Builtin.Range.rangeFitsLong (-1) && Builtin.Range.rangeFitsLong (0 - 1) && Builtin.Range.rangeFitsLong n) = true := by
    simp only [Builtin.Range.rangeFitsLong, Bool.and_eq_true, decide_eq_true_eq]
    omega
  dsimp only
  rw [sz, sm]
  rw [if_neg (by decide)]
  have e : 0 + (n - 1) * 1 = n - 1 := by omega
  rw [e]
  exact wpAny_bind (wpAny_newObj_type (wpAny_pure ⟨_, rfl, h⟩))
theorem code_rev {r : Addr} {n : Int} {t u v : Tok} {Q₁ : Value → Shared → Prop} (hr : IsRange s.heap r 0 n 1 t u v) (h0 : 0 ≤ n) (h1 : n < 2 ^ 62)
    (h : Q₁ (.ref s.heap.objs.size) { s with heap := s.heap.push { cls := .type "range_iterator", data := .fields #[rawInt (n - 1), rawInt n, rawInt (-1)] } }) :
    codeAny (model prog w) A (.call (.builtin "reversed.__new__") ⟨[.type "reversed", .ref r], []⟩) (wants Q₁ E) s := by
  have hT : s.TypeIs (.ref r) "range" := ⟨_, hr, rfl⟩
  refine codeAny_of_tree ?_
  show wpAny _ A.in1 (do checkBuiltinCall "reversed.__new__" ⟨[.type "reversed", .ref r], []⟩; again (.builtin "reversed.__new__" ⟨[.type "reversed", .ref r], []⟩)) _ _ s
  refine wpAny_bind (wpAny_of_eq (F.newCall_reversed_1 _) (wpAny_pure ⟨plainId_quiet F.plain_reversed_new _, codeAny_builtin F.entry_reversed_new ?_⟩))
  rw [Around.under_plainId F.plain_reversed_new _]
  unfold Builtin.«reversed.__new__»
  refine wpAny_bind (wpAny_of_eq (newClass_reversed _) ?_)
  try dsimp only
  refine wpAny_bind (wpAny_of_eq (a := ()) (by first | rfl | kernel_rfl) ?_)
  refine wpAny_bind (wpAny_of_eq (a := ()) (by first | rfl | kernel_rfl) ?_)
  try dsimp only
  refine wpAny_bind (wpAny_specialOf hT F.slot_range_reversed.lookup ?_)
  try dsimp only
  refine wpAny_bind (wpAny_of_eq (F.slot_range_reversed.bind _) ?_)
  try dsimp only
  first
  | rw [if_neg (show ¬ ((Value.builtin "range.__reversed__" == Value.none) = true) from Bool.false_ne_true)]
  | (show wpAny _ _ (if (Value.builtin "range.__reversed__" == Value.none) = true then _ else _) _ _ _; rw [if_neg (show ¬ ((Value.builtin "range.__reversed__" == Value.none) = true) from Bool.false_ne_true)])
  refine wpAny_bind (wpAny_rule ?_)
  refine wpAny_bind (m := runValue (.call (.builtin "range.__reversed__") ⟨[.ref r], []⟩)) (show wpAny _ _ (call (.builtin "range.__reversed__") [.ref r]) _ _ _ from range_rev hr h0 h1 ?_)
  first
  | exact wpAny_pure h
  | exact wpAny_bind (wpAny_pure (wpAny_pure h))
theorem sub_ri_reversed : isSubtype (.type "range_iterator") (.type "reversed") = pure false := by rw [isSubtype_type]; kernel_rfl
theorem call_rev {r : Addr} {n : Int} {t u v : Tok} {Q : Value → Shared → Prop} (hr : IsRange s.heap r 0 n 1 t u v) (h0 : 0 ≤ n) (h1 : n < 2 ^ 62)
    (h : Q (.ref s.heap.objs.size) { s with heap := s.heap.push { cls := .type "range_iterator", data := .fields #[rawInt (n - 1), rawInt n, rawInt (-1)] } }) :
    wpAny (model prog w) A (call (.type "reversed") [.ref r]) Q E s := by
  refine callType_other (U := "range_iterator") (Q₁ := fun obj s₁ => obj = .ref s.heap.objs.size ∧ s₁ = { s with heap := s.heap.push { cls := .type "range_iterator", data := .fields #[rawInt (n - 1), rawInt n, rawInt (-1)] } }) (by decide +kernel) F.create_reversed ⟨_, _, F.mro_reversed⟩ F.made_reversed sub_ri_reversed (F.typeCall_reversed_1 _) (code_rev hr h0 h1 ⟨rfl, rfl⟩) ?_
  rintro obj s₁ ⟨rfl, rfl⟩
  exact ⟨⟨_, Heap.get?_push_size _ rfl, rfl⟩, h⟩
end
/-- down from n - 1 -/
def Itd (n : Nat) : It := ⟨fun i _ => i < n, fun i H x H' => H' = H ∧ x = .int ((n : Int) - 1 - i), fun i _ => n ≤ i⟩
theorem turn_down {P : Program} {w : World} {K : PySem.W.Frag} {tg : Expr} (it : Addr) (n : Nat) : Turn P w K tg (Itd n) [it] it (fun i h => IsRangeIter h it (((n : Int) - 1) + (i : Nat) * (-1)) ((n : Int) - (i : Nat)) (-1)) where
  mem := by simp
  obj := fun i h st b hb => by
    have e : b = it := by simpa using hb
    subst e
    exact ⟨_, st, fun v z => by
      have z' : Data.fields _ = Data.cell v := z
      cases z'⟩
  keep := fun i h h' st k => k it (by simp) _ st
  item := by
    intro X hP hw hK hc i pins s σ H E I hf st hg
    subst hP hw hK
    obtain ⟨f0, f1, f2, f3, f4, f5⟩ := hf it (by simp)
    have W := Walks.range (prog := X.prog) (w := X.w) (I.ok.hd hc) it ((n : Int) - 1) (-1) n
    refine W.item i s _ _ hg st fun v h' tk hv st' kk => ?_
    obtain ⟨t, rfl⟩ := hv
    have I1 : Inv X pins σ H { s with heap := h', toks := tk } := I.turned (fun b o hb e => kk b o (by simpa using hb) e) f0 f1 f3 f4 f5
    refine ⟨_, rfl, go_of (s := { s with heap := h', toks := tk }) (n := "range_iterator") st' rfl rfl (by decide) ⟨.int ((n : Int) - 1 - i), H, I1, ⟨t, ?_⟩, ⟨rfl, rfl⟩, st', fun b hb => (hf b hb).1⟩⟩
    rw [show (n : Int) - 1 + (i : Int) * (-1) = (n : Int) - 1 - i by omega]
  done := by
    intro X hP hw hK hc i pins s σ H E I hf st hg
    subst hP hw hK
    obtain ⟨f0, f1, f2, f3, f4, f5⟩ := hf it (by simp)
    exact wpAny_pyNext_range_end (I.ok.hd hc) st (by have : n ≤ i := hg; omega) fun h' eb => ⟨rfl, I.turned (t' := s.toks) (fun b o hb e => eb b o hb e) f0 f1 f3 f4 f5⟩
  self := fun _ _ _ _ _ st h => wpAny_pyIter_rangeiter st h
section
variable {X : Cx} {tg : Expr}
/-- range(n), a value -/
def rRange : List V → Hp → VK → Prop := fun xs H Q => ∃ n : Int, xs = [.int n] ∧ ∀ p, H p = none → Q (.ref p) (upd H p (.rng 0 n))
theorem call_range : CallR X (.type "range") rRange := by
  intro pins s σ H xs us Q I r h
  obtain ⟨n, rfl, q⟩ := h
  obtain ⟨u, rfl, t, rfl⟩ := vals1 r
  refine call_range_1 ⟨.ref s.heap.objs.size, _, I.laid (a := s.heap.objs.size) (o := .rng 0 n) (fun b u e => Heap.get?_push_of_some _ e) (Nat.le_refl _) ⟨_, _, _, Heap.get?_push_size _ rfl⟩, rfl, q _ (I.hok.fresh (Nat.le_refl _))⟩
def iRev (ta : TA) : TI := fun σ H R => ta σ H fun vs H1 => ∃ (r : Addr) (n : Nat), vs = [.ref r] ∧ H1 r = some (.rng 0 n) ∧ n < 2 ^ 62 ∧ R (Itd n) H1
theorem pi_rev {a : Expr} {ta : TA} {p pos : Pos} (hg : Gl X "reversed") (hm : X.mg "reversed" = none) (ha : PA X [a] ta) (hs : starEach [a] X.env = [(false, eval a X.env)] := by rfl) : PI X tg (.Call (.Name "reversed" p) [a] [] pos) (iRev ta) := by
  intro pins s σ H R I h
  refine Call_ (ld_blt I hg hm (show bootBuiltins "reversed" = some (.type "reversed") by decide +kernel) (PyProof.Rows.callWith_type1 (thn (ha pos pins s σ H _ I h) fun us s1 ⟨vs, H1, I1, r1, q1⟩ => ?_) hs rfl))
  obtain ⟨r, n, e, hr, hn, q⟩ := q1
  subst e
  obtain ⟨u, rfl, ru⟩ := vals1 r1
  cases ru
  obtain ⟨t, u, v, ho⟩ := (show ObjOk X.prog X.w H1 s1.heap r (.rng 0 n) from I1.hok r _ hr)
  refine call_rev ho (by omega) (by omega) (wpAny_pyIter_rangeiter (Heap.get?_push_size _ rfl) ?_)
  refine ⟨s1.heap.objs.size, [s1.heap.objs.size], _, _, H1, rfl, I1.kept (t' := s1.toks) fun b o e => Heap.get?_push_of_some _ e, turn_down _ n, ?_, fun b hb => ?_, q⟩
  · show IsRangeIter _ _ _ _ _
    rw [show (n : Int) - 1 + ((0 : Nat) : Int) * (-1) = n - 1 by omega, show (n : Int) - ((0 : Nat) : Int) = n by omega]
    exact Heap.get?_push_size _ rfl
  · have e : b = s1.heap.objs.size := by simpa using hb
    subst e
    exact I1.fpOk (Nat.le_refl _) (I1.hok.fresh (Nat.le_refl _))
end
end L2

namespace Lw
open PySem PySem.Spec PyProof.Rows L2
/-! ### a list comprehension of one clause with a test, no name of the def's own within -/
section
variable {prog : Program} {w : World} {A : Around} {R : Result → Shared → Prop} {s : Shared}
theorem compLoop_if {elt target iter c : Expr} {scope : Scope} {pos : Pos} {it acc : Value} {env : Env} (I : Nat → Shared → Prop)
    (turn : ∀ n s, I n s → wpAny (model prog w) A (pyNext it) (fun r s₁ => match r with
      | none => R (.ok .next) s₁
      | some v => wpAny (model prog w) A (letOwnedTupleGo target it v) (fun _ s₁' => wpAny (model prog w) A (assign target env v) (fun _ s₂ => wpAny (model prog w) A (isTrue c env (eval c env)) (fun b s₂' => if b = true then wpAny (model prog w) A (eval elt env) (fun x s₃ =>
          wpAny (model prog w) A (call (.builtin "list.append") [acc, x]) (fun _ s₄ => ∃ m, m < n ∧ I m s₄) (notedBy (model prog w) A env fun e s' => R (.error e) s') s₃)
          (notedBy (model prog w) A env fun e s' => R (.error e) s') s₂' else ∃ m, m < n ∧ I m s₂') (notedBy (model prog w) A env fun e s' => R (.error e) s') s₂) (notedBy (model prog w) A env fun e s' => R (.error e) s') s₁') (notedBy (model prog w) A env fun e s' => R (.error e) s') s₁) (notedBy (model prog w) A env fun e s' => R (.error e) s') s)
    (n : Nat) (h : I n s) :
    codeAny (model prog w) A (.compLoop (.ListComp elt [⟨target, iter, [c], 0⟩] scope pos) 0 it acc env) R s := by
  refine codeAny_loop rfl I (fun n s hI => ?_) n h
  show wpAny _ _ ((compTurn (.ListComp elt [⟨target, iter, [c], 0⟩] scope pos) 0 it acc env).onRaise (fun x => do noteFrame x env; theTreesLotGoes x)) _ _ s
  refine wpAny_noted ?_
  rw [compTurn_list]
  refine wpAny_bind (wpAny_standAt (wpAny_bind (wpAny_mono (turn n s hI) (fun r s₁ h₁ => ?_) fun _ _ h' => h')))
  cases r with
  | none => exact wpAny_pure h₁
  | some v =>
    refine wpAny_bind (wpAny_mono h₁ (fun _ s₁' h₁' => ?_) fun _ _ h' => h')
    refine wpAny_bind (wpAny_mono h₁' (fun _ s₂ h₂ => ?_) fun _ _ h' => h')
    refine wpAny_bind ?_
    rw [List.forIn_cons]
    dsimp only
    rw [if_pos rfl]
    refine wpAny_bind (wpAny_bind (wpAny_mono h₂ (fun b s₂' hb => wpAny_pure ?_) fun _ _ h' => h'))
    dsimp only
    rw [List.forIn_nil]
    refine wpAny_pure ?_
    cases b with
    | true =>
      rw [if_pos rfl] at hb ⊢
      refine wpAny_bind ?_
      exact (wpAny_bind (wpAny_mono hb (fun x s₃ h₃ => wpAny_bind (wpAny_mono h₃
        (fun _ s₄ h₄ => wpAny_pure (wpAny_pure ⟨rfl, h₄⟩)) fun _ _ h' => h')) fun _ _ h' => h'))
    | false =>
      rw [if_neg Bool.false_ne_true] at hb ⊢
      exact wpAny_pure ⟨rfl, hb⟩
end
def CompGoI (n : Nat) (J : It) (g : TG) (tt : TT) (te : TE) (Q : VK) (p : Addr) (H' : Hp) : Prop :=
  ∃ W : Nat → Nat → List V → Hp → Prop, (∃ m, W 0 m [] H') ∧ ∀ i m ys H2, W i m ys H2 → H2 p = some (.lst ys) ∧ ys.length < sizeLine ∧
    ((J.stop i H2 ∧ Q (.ref p) H2) ∨ (J.go i H2 ∧ ∀ x H3, J.yld i H2 x H3 → g x (List.replicate n none) H3 fun σ4 H4 => tt σ4 H4 fun b H5 => if b = true then te σ4 H5 fun y H6 => H6 p = some (.lst ys) ∧ ∃ m', m' < m ∧ W (i + 1) m' (ys ++ [y]) (upd H6 p (.lst (ys ++ [y]))) else ∃ m', m' < m ∧ W (i + 1) m' ys H5))
def tCompI (n : Nat) (wi : TI) (g : TG) (tt : TT) (te : TE) : TE := fun σ H Q => wi σ H fun J H1 => ∀ p H', H1 p = none → Same H1 H' → H' p = some (.lst []) → CompGoI n J g tt te Q p H'
section
variable {X : Cx}
theorem pe_compI {N : List Str} {elt target iter c : Expr} {scope : Scope} {pos : Pos} {wi : TI} {g : TG} {tt : TT} {te : TE} (hc : X.calm = true)
    (hk : scope.kind = .function) (hn : ∀ x, scope.names.lookup x ≠ some .cell ∧ scope.names.lookup x ≠ some .free) (hfree : ∀ x ∈ scope.names, x.2 ≠ .free) (hcell : ∀ x ∈ scope.names, x.2 ≠ .cell) (hnames : ∀ x ∈ scope.names, x.2 = .local → scope.names.lookup x.1 = some .local)
    (hi : PI X target iter wi) (hg : ∀ C fp s2 H2, PG (cxComp X N scope C fp s2 H2) target g) (ht : ∀ C fp s2 H2, PT (cxComp X N scope C fp s2 H2) c tt) (he : ∀ C fp s2 H2, PE (cxComp X N scope C fp s2 H2) elt te)
    (hs : ∀ x, foldedSetIterable iter X.env x = pure x := by intro _; rfl) : PE X (.ListComp elt [⟨target, iter, [c], 0⟩] scope pos) (tCompI N.length wi g tt te) := by
  intro pins s σ H Q I h
  refine wpAny_ListComp hfree hk hnames (thn (hi pins s σ H _ I h) fun v s1 h1 => thn h1 fun itv s2 h2 => ?_) hs
  obtain ⟨it, fp, tn, J, H1, e, I2, T, st2, f2, hR⟩ := h2
  subst e
  have hlt : ∀ b ∈ fp, b < s2.heap.objs.size := fun b hb => by
    obtain ⟨o, ho, _⟩ := T.obj 0 _ st2 b hb
    exact Heap.lt_size ho
  refine wpAny_newObj_type (wpAny_newFunctionEnv hcell (by intro y hy; simp at hy) (fun h₁ hns₁ hsb₁ => ?_) hk)
  dsimp only at hns₁ hsb₁ ⊢
  generalize hHH : s2.heap.push { cls := .type "list", dict := none, data := .seq ([] : List Value).toArray } = HH at hns₁ hsb₁ ⊢
  have hCe : HH.objs.size = s2.heap.objs.size + 1 := by rw [← hHH, Heap.size_push]
  have hDC : s2.heap.objs.size ≠ HH.objs.size := by rw [hCe]; exact Nat.ne_of_lt (Nat.lt_succ_self _)
  have hCle : s2.heap.objs.size ≤ HH.objs.size := by rw [hCe]; exact Nat.le_succ _
  have old : ∀ b o, s2.heap.get? b = some o → h₁.get? b = some o := fun b o e => hsb₁.extBut b o (by rw [hCe]; exact Nat.ne_of_lt (Nat.lt_succ_of_lt (Heap.lt_size e))) (Heap.get?_push_of_some _ (hHH ▸ Heap.get?_push_of_some _ e))
  have hD : h₁.get? s2.heap.objs.size = some { cls := .type "list", dict := none, data := .seq ([] : List Value).toArray } := hsb₁.extBut _ _ hDC (Heap.get?_push_of_some _ (hHH ▸ Heap.get?_push_size _ rfl))
  have nD : H1 s2.heap.objs.size = none := I2.hok.fresh (Nat.le_refl _)
  obtain ⟨W, ⟨m0, w0⟩, turn⟩ := hR s2.heap.objs.size _ nD (same_upd (.lst []) nD) upd_same
  have ok := cxComp_ok (N := N) (C := HH.objs.size) I2 hk hn hCle f2 hlt
  have I4 : Inv (cxComp X N scope HH.objs.size fp s2 H1) [] (List.replicate N.length none) (upd H1 s2.heap.objs.size (.lst [])) { s2 with heap := h₁, toks := s2.toks + ([] : List (Str × Value)).length } := by
    refine ⟨ok, rfl, I2.bare, Un.laid old (Nat.le_refl _) nD, ⟨_, hns₁, fun i x v _ e2 _ => ?_⟩, (fun x c z => nomatch z), ?_, (fun x c z => nomatch z), (fun p hp => nomatch hp), I2.hok.laid old (Nat.le_refl _) ?_, by rw [List.length_replicate]; rfl⟩
    · rw [List.getElem?_replicate] at e2
      split at e2 <;> cases e2
    · show (upd H1 s2.heap.objs.size (.lst [])) HH.objs.size = none
      rw [upd_ne (Ne.symm hDC)]
      exact I2.hok.fresh hCle
    · exact ⟨by show 0 ≤ sizeLine; decide, [], 0, .nil, hD⟩
  have stat : ∀ {H' : Hp}, (∀ b ∈ fp, H' b = none) → ∀ b ∈ fp, FpOk (cxComp X N scope HH.objs.size fp s2 H1) [] H' b := fun hn b hb =>
    ⟨hn b hb, (ok.exf b hb).1, ok.exfs b hb, .inl hb, (ok.exf b hb).2, fun p hp => nomatch hp⟩
  have st4 : tn 0 h₁ := T.keep _ _ _ st2 fun b _ o e => old b o e
  have fr4 : ∀ b ∈ fp, (upd H1 s2.heap.objs.size (.lst [])) b = none := fun b hb => by
    rw [upd_ne (Nat.ne_of_lt (hlt b hb))]
    exact (f2 b hb).1
  -- the loop
  have loop : codeAny (model X.prog X.w) X.A (.compLoop (.ListComp elt [⟨target, iter, [c], 0⟩] scope pos) 0 (.ref it) (.ref s2.heap.objs.size) (compEnv scope HH.objs.size X.env))
      (fun r s' => ∃ m, s'.heap.Ns HH.objs.size m ∧ ∀ h', Heap.SameBut HH.objs.size s'.heap h' →
            match r with | .ok _ => EP X pins σ Q (.ref s2.heap.objs.size) { s' with heap := h' } | .error x => wpAny (model X.prog X.w) X.A (passOn "comprehension.variables-let-go" x (compEnv scope HH.objs.size X.env)) (EP X pins σ Q) X.xe { s' with heap := h' })
      { s2 with heap := h₁, toks := s2.toks + ([] : List (Str × Value)).length } := by
    refine compLoop_if (fun n s' => ∃ i ys H', Inv (cxComp X N scope HH.objs.size fp s2 H1) [] (List.replicate N.length none) H' s' ∧ tn i s'.heap ∧ (∀ b ∈ fp, H' b = none) ∧ W i n ys H') ?_ m0 ⟨0, [], _, I4, st4, fr4, w0⟩
    rintro n s3 ⟨i, ys, H3, I3, st3, fr3, w3⟩
    obtain ⟨hp3, hz3, hw⟩ := turn i n ys H3 w3
    rcases hw with ⟨stop, qn⟩ | ⟨go, step⟩
    · refine thn (T.done (cxComp X N scope HH.objs.size fp s2 H1) rfl rfl rfl hc i [] s3 _ H3 _ I3 (stat fr3) st3 stop) fun r s4 ⟨hr, I5⟩ => ?_
      subst hr
      obtain ⟨m, hm, _⟩ := id I5.loc
      refine ⟨m, hm, fun h' sb => ⟨.ref s2.heap.objs.size, H3, ?_, rfl, qn⟩⟩
      have k : ∀ b o, b ≠ HH.objs.size → s4.heap.get? b = some o → h'.get? b = some o := fun b o hb e => sb.extBut b o hb e
      have nb : ∀ b o, s2.heap.get? b = some o → b ≠ HH.objs.size := fun b o e => by rw [hCe]; exact Nat.ne_of_lt (Nat.lt_succ_of_lt (Heap.lt_size e))
      have U := I5.base
      have fC : H3 HH.objs.size = none := I5.free
      refine I2.call' (ch := fp) (s' := { s4 with heap := h' }) I5.os ⟨fun b o e n hb hx => k b o (nb b o e) (U.keep b o e n hb hx), fun b o e n hb hx => ?_, U.free, fun b o e hx => ?_, U.tups, U.frzs, U.tbls⟩ (fun b u e => ?_) I5.bare (fun b hb => ⟨(f2 b hb).2.2.2.1, (f2 b hb).2.1, (f2 b hb).2.2.2.2.1, (f2 b hb).2.2.2.2.2⟩)
      · obtain ⟨sl, q⟩ := U.slot b o e n hb hx
        exact ⟨sl, k b _ (nb b o e) q⟩
      · obtain ⟨o', q⟩ := U.there b o e hx
        exact ⟨o', k b _ (nb b o e) q⟩
      · refine (I5.hok b u e).stay (fun c v hcc q => k c v ?_ q) (fun _ q => q) fun _ _ q => q
        rcases hcc with z | z
        · rw [z]
          intro y
          rw [y, fC] at e
          cases e
        · intro y
          rw [y, fC] at z
          cases z
    · refine wpAny_mono (T.item (cxComp X N scope HH.objs.size fp s2 H1) rfl rfl rfl hc i [] s3 _ H3 (fun _ _ => False) I3 (stat fr3) st3 go) (fun r s4 ⟨u, hr, h4⟩ => ?_) fun _ _ z => z.elim
      subst hr
      refine wpAny_mono h4 (fun _ s5 ⟨x, H5, I5, r5, y5, st5, fr5⟩ => ?_) fun _ _ z => z.elim
      have I5' := I5.pinned (stat fr5) (T.obj _ _ st5)
      refine wpAny_mono (hg _ _ _ _ _ s5 _ H5 x u _ I5' r5 (step x H5 y5)) (fun _ s6 ⟨σ6, H6, I6, q6⟩ => ?_) fun _ _ z => z.elim
      refine wpAny_mono (ht _ _ _ _ _ s6 σ6 H6 _ I6 q6) (fun b s6' ⟨H6', I6', q6'⟩ => ?_) fun _ _ z => z.elim
      cases b with
      | false =>
        rw [if_neg Bool.false_ne_true] at q6' ⊢
        obtain ⟨m', hm', w7⟩ := q6'
        refine ⟨m', hm', i + 1, _, _, (I6'.unpinned).weak (by rw [List.length_replicate, I6'.len]; rfl) (fun j v ev => ?_), T.keep _ _ _ st5 fun b hb o e => (I6'.pin (b, o) (List.mem_append_right _ (List.mem_append_right _ (mem_pinsAt hb e)))).1, fun b hb => ?_, w7⟩
        · rw [List.getElem?_replicate] at ev
          split at ev <;> cases ev
        · obtain ⟨o, e, d⟩ := T.obj _ _ st5 b hb
          exact (I6'.pin (b, o) (List.mem_append_right _ (List.mem_append_right _ (mem_pinsAt hb e)))).2.1
      | true =>
        rw [if_pos rfl] at q6' ⊢
        refine wpAny_mono (he _ _ _ _ _ s6' σ6 H6' _ I6' q6') (fun y s7 ⟨yv, H7, I7, r7, q7⟩ => ?_) fun _ _ z => z.elim
        obtain ⟨e7, m', hm', w7⟩ := q7
        refine wpAny_mono (mt_append (X := cxComp X N scope HH.objs.size fp s2 H1) _ s7 σ6 H7 (.ref s2.heap.objs.size) [yv] (.ref s2.heap.objs.size) [y] (fun _ H8 => H8 = upd H7 s2.heap.objs.size (.lst (ys ++ [yv]))) I7 rfl (.cons r7 .nil) ⟨_, ys, yv, rfl, rfl, e7, hz3, rfl⟩) (fun _ s8 ⟨_, H8, I8, _, q8⟩ => ?_) fun _ _ z => z.elim
        subst q8
        refine ⟨m', hm', i + 1, _, _, (I8.unpinned).weak (by rw [List.length_replicate, I8.len]; rfl) (fun j v ev => ?_), T.keep _ _ _ st5 fun b hb o e => (I8.pin (b, o) (List.mem_append_right _ (List.mem_append_right _ (mem_pinsAt hb e)))).1, fun b hb => ?_, w7⟩
        · rw [List.getElem?_replicate] at ev
          split at ev <;> cases ev
        · obtain ⟨o, e, d⟩ := T.obj _ _ st5 b hb
          exact (I8.pin (b, o) (List.mem_append_right _ (List.mem_append_right _ (mem_pinsAt hb e)))).2.1
  exact codeAny_compStart_list loop (T.self _ 0 _ _ _ st4 loop)
end
end Lw

namespace Lw
open PySem PySem.Spec PyProof.Rows L2
def top (i : Nat) : Stmt := PySem.Challenge.pw_lowwater_k46_quotients_and_rests.main.body.getD i (.Pass ⟨0, 0, 0, 0⟩)
abbrev sGcd : Stmt := top 8
abbrev sAdded : Stmt := top 9
abbrev sLess : Stmt := top 10
abbrev sMul : Stmt := top 11
abbrev sDiv : Stmt := top 12
abbrev sDegree : Stmt := top 14
abbrev sNumbers : Stmt := top 17
abbrev sSumFrom : Stmt := top 18
abbrev sQuot : Stmt := top 19
abbrev sDraw : Stmt := top 21
abbrev sLow : Stmt := top 22
abbrev sPlus : Stmt := top 23
abbrev sLMul : Stmt := top 24
abbrev sLike : Stmt := top 25
abbrev sPut : Stmt := top 26
abbrev sLAdded : Stmt := top 27
abbrev sProduct : Stmt := top 28
abbrev sSame : Stmt := top 30
abbrev sLSum : Stmt := top 32
abbrev sNumber : Stmt := top 34
abbrev sPoly : Stmt := top 35
abbrev sDeg : Stmt := top 36
abbrev sRefused : Stmt := top 38
abbrev sRight : Stmt := top 39
abbrev sLaw : Stmt := top 40
/-- the tape of draws: at most B are drawn -/
def Tape (cl : Addr) (H : Hp) (tp : Addr) (B : Int) : Prop := ∃ (ns : List Int) (spot rest left : Int), H tp = some (.lst [.ref cl, .int spot, .int rest, .int left]) ∧ H cl = some (.lst (ns.map V.int)) ∧ ns.length ≤ 63 ∧ 0 ≤ spot ∧ spot ≤ B
theorem Tape.mono {cl : Addr} {H H' : Hp} {tp : Addr} {B B' : Int} (e : Same H H') (hB : B ≤ B') (h : Tape cl H tp B) : Tape cl H' tp B' := by
  obtain ⟨ns, spot, rest, left, h1, h2, h3, h4, h5⟩ := h
  exact ⟨ns, spot, rest, left, e _ _ h1, e _ _ h2, h3, h4, by omega⟩

/-! ### the promises -/
def spGcd : Sp := fun vs H Q _ => ∃ a b : Int, vs = [.int a, .int b] ∧ 0 < b ∧ b.natAbs < 2 ^ 8000 ∧ Q (.int (Int.gcd a b)) H
def spDraw : Sp := fun vs H Q _ => ∃ (tp : Addr) (many B : Int), vs = [.ref tp, .int many] ∧ ∃ cl, Tape cl H tp B ∧ B < 2 ^ 40 ∧ 0 < many ∧ many < 2 ^ 100 ∧
  ∀ (r : Int) (H' : Hp), 0 ≤ r → r < many → Tape cl H' tp (B + 1) → But tp H H' → Q (.int r) H'
def lowT (t b : Int) : Int := (if b < 0 then 0 - t else t) / (Int.gcd t b : Int)
def lowB (t b : Int) : Int := (if b < 0 then 0 - b else b) / (Int.gcd t b : Int)
/-- // by their divisor needs no more than the plain way -/
def LowFit (t b : Int) : Prop := b.natAbs < 2 ^ 8000 ∨ (t.natAbs < 2 ^ 13400 ∧ b.natAbs < 2 ^ 13400)
def spLow : Sp := fun vs H Q _ => ∃ t b : Int, vs = [.int t, .int b] ∧ b ≠ 0 ∧ LowFit t b ∧
  ∀ (p : Addr) (H' : Hp), H p = none → Same H H' → H' p = some (.tup [.int (lowT t b), .int (lowB t b)]) → Q (.ref p) H'
/-- the names that are no one's but Python's -/
structure Txt (mg : Str → Option Value) : Prop where
  isi : mg "isinstance" = none
  len : mg "len" = none
  int : mg "int" = none
  bool : mg "bool" = none
  tup : mg "tuple" = none
  lst : mg "list" = none
  str : mg "str" = none
  abs : mg "abs" = none
  rng : mg "range" = none
  lbits : ∃ t, mg "LONG_BITS" = some (.int 8000 t)
  sum : mg "sum" = none
  zip : mg "zip" = none
  sorted : mg "sorted" = none
  max : mg "max" = none
  enum : mg "enumerate" = none
  rev : mg "reversed" = none
  all : mg "all" = none
  dct : mg "dict" = none
/-- a def of the text, under its name -/
structure Df (K : PySem.W.Frag) (mg : Str → Option Value) (x : Str) (st : Stmt) (ps : List Str) (f : Addr) (fd : FuncData) : Prop where
  F : Fun K x x st f fd
  b : Binds K fd ps []
  m : mg x = some (.ref f)
section
variable {P : Program} {w : World} {K : PySem.W.Frag} {mg : Str → Option Value} {base : Heap} {f fd : _}
theorem scGcd : FnScope ["one", "other"] ["one", "other"] (defScope sGcd) := ⟨rfl, rfl, rfl, by decide +kernel, rfl, by decide +kernel, by decide +kernel⟩
theorem mt_bits {X : Cx} : MtR X "int.bit_length" (fun x xs H Q => ∃ i : Int, x = .int i ∧ xs = [] ∧ Q (.int (Builtin.Int.intBits i : Nat)) H) := by
  intro pins s σ H x xs v us Q I rx rs q
  obtain ⟨i, rfl, rfl, q⟩ := q
  obtain ⟨t, rfl⟩ := rx
  cases rs
  exact call_int_bit_length ⟨.int (Builtin.Int.intBits i : Nat), H, I.tok _, ⟨_, rfl⟩, q⟩
theorem ok_gcd (F : Fun K "greatest_divisor" "greatest_divisor" sGcd f fd) (T : Txt mg) : FnOk P w K mg base CX0 1 f fd ["one", "other"] spGcd := by
  obtain ⟨tl, hl⟩ := T.lbits
  refine F.ok scGcd (fun vs H Q E h => ?_) (fun cdv A outer s H vs Q E hr h => ?_)
  · obtain ⟨a, b, rfl, _⟩ := h
    rfl
  · obtain ⟨a, b, rfl, hb, hs, k⟩ := h
    refine ⟨_, pss_cons (ps_while PassesOwn.never (pt_cmpR op_ne (pv 1) pe_int (nomark _))
        (pss_one (ps_if (pt_cmpR op_gt (pe_bm0 PySem.F.plainAttrs_int slot_int_bit_length type_int_bit_length mt_bits (pv 1)) (pe_glob (v := .int 8000) (by rfl) hl ⟨_, rfl⟩) (nomark _)) pss_never
          (pss_one (ps_par (i := 0) (j := 1) rfl scGcd.nd rfl rfl (by decide) rfl rfl (pa_cons (pv 1) (pa_cons (pe_op op_mod (pv 0) (pv 1)) pa_nil)) rfl)))))
      (pss_one (ps_ret (pv 0))), ?_⟩
    refine while_by (fun σ H1 => H1 = H ∧ ∃ p q : Int, σ = [some (.int p), some (.int q)] ∧ 0 ≤ q ∧ (0 < q ∨ 0 ≤ p) ∧ q.natAbs < 2 ^ 8000 ∧ Int.gcd p q = Int.gcd a b)
      (fun σ _ => match σ with | [_, some (.int q)] => q.toNat | _ => 0) ⟨rfl, a, b, rfl, by omega, .inl hb, hs, rfl⟩ ?_ ?_
    · rintro σ H1 ⟨rfl, p, q, rfl, h0, h1, hq8, h2⟩
      refine ⟨_, rfl, rfl, _, rfl, ?_⟩
      refine ite2 (fun e => ?_) (fun e => ?_)
      · have hq : 0 < q := by
          have : q ≠ 0 := fun z => by simp [z] at e
          omega
        have hbits : (Builtin.Int.intBits q) ≤ 8000 := PySem.intBits_le_iff.mpr hq8
        refine ⟨_, rfl, rfl, _, rfl, rfl, _, _, rfl, rfl, _, rfl, iteN (decide_eq_false (by omega)) ?_⟩
        refine ⟨_, rfl, _, rfl, _, rfl, _, _, rfl, rfl, hq, _, _, rfl, ?_⟩
        have m1 := Int.emod_nonneg p (b := q) (by omega)
        have m2 := Int.emod_lt_of_pos p hq
        have m3 : (p % q).natAbs ≤ q.natAbs := by omega
        refine ⟨⟨rfl, q, p % q, rfl, m1, .inr h0, Nat.lt_of_le_of_lt m3 hq8, (LwM.gcd_step p q).trans h2⟩, ?_⟩
        show (p % q).toNat < q.toNat
        omega
      · have hq : q = 0 := by
          by_cases z : q = 0
          · exact z
          · exact absurd (by simp [z]) e
        subst hq
        refine ⟨_, rfl, ?_⟩
        have : p = ((Int.gcd a b : Nat) : Int) := by
          rw [← h2, Int.gcd_zero_right]
          omega
        rw [this]
        exact k
    · rintro σ H1 Q1 Q2 hQ ⟨v, e, hs, k', ek, q⟩
      exact ⟨v, e, hs, k', ek, hQ _ _ q⟩
theorem scLow : FnScope ["top", "bottom", "one", "other"] ["top", "bottom"] (defScope sLow) := ⟨rfl, rfl, rfl, by decide +kernel, rfl, by decide +kernel, by decide +kernel⟩
/-- the search for the divisor, behind the signs -/
theorem ok_low (F : Fun K "_law_low" "_law_low" sLow f fd) (T : Txt mg) : FnOk P w K mg base CX0 1 f fd ["top", "bottom"] spLow := by
  refine F.ok scLow (fun vs H Q E h => ?_) (fun cdv A outer s H vs Q E hr h => ?_)
  · obtain ⟨t, b, rfl, _⟩ := h
    rfl
  · obtain ⟨t, b, rfl, hb, hs, k⟩ := h
    refine ⟨_, pss_cons (ps_if (pt_cmpR op_lt (pv 1) pe_int (nomark _)) (pss_one (ps_par (i := 0) (j := 1) rfl scLow.nd rfl rfl (by decide) rfl rfl (pa_cons (pe_op op_sub pe_int (pv 0)) (pa_cons (pe_op op_sub pe_int (pv 1)) pa_nil)) rfl)) pss_nil)
      (pss_cons (ps_set (i := 2) scLow.nd rfl (Or.inl rfl) (pe_callB call_abs (by rfl) T.abs boot_abs (pa_cons (pv 0) pa_nil)))
      (pss_cons (ps_set (i := 3) scLow.nd rfl (Or.inl rfl) (pv 1))
      (pss_cons (ps_while PassesOwn.never (pt_cmpR op_gt (pv 2) pe_int (nomark _)) (pss_one (ps_par (i := 2) (j := 3) rfl scLow.nd rfl rfl (by decide) rfl rfl (pa_cons (pe_op op_mod (pv 3) (pv 2)) (pa_cons (pv 2) pa_nil)) rfl)))
      (pss_one (ps_ret (pe_tup (pa_cons (pe_op LwD.op_fdivP (pv 0) (pv 3)) (pa_cons (pe_op LwD.op_fdivP (pv 1) (pv 3)) pa_nil)))))))), ?_⟩
    refine ⟨_, rfl, _, _, rfl, rfl, _, rfl, ?_⟩
    -- behind the signs
    have fin : ∀ t' b' : Int, 0 < b' → (∀ q : Int, 0 < q → q ≤ b' → LwD.CDivP t' q ∧ LwD.CDivP b' q) → t' = (if b < 0 then 0 - t else t) → b' = (if b < 0 then 0 - b else b) → Int.gcd t' b' = Int.gcd t b →
        (tSeq (tAsg (tCB (fun xs H Q => ∃ i, xs = [V.int i] ∧ Q (.int (if i < 0 then -i else i)) H) (tCons (tVar 0) tNil)) (gName 2)) (tSeq (tAsg (tVar 1) (gName 3)) (tSeq (tWhile (tTest (tOp (rI0 fun i j => V.bl (decide (j < i))) (tVar 2) (tC (.int 0)))) (tPar 2 3 (tCons (tOp (rI (fun _ j => 0 < j) fun i j => .int (i % j)) (tVar 3) (tVar 2)) (tCons (tVar 2) tNil)))) (tRet (tTup (tCons (tOp (rI LwD.CDivP fun i j => .int (i / j)) (tVar 0) (tVar 3)) (tCons (tOp (rI LwD.CDivP fun i j => .int (i / j)) (tVar 1) (tVar 3)) tNil))))))) { nx := fun _ H' => Q .non H', rt := Q } [some (.int t'), some (.int b'), none, none] H := by
      intro t' b' hb' hs' et eb hg
      refine ⟨_, rfl, _, rfl, _, rfl, ?_⟩
      refine while_by (fun σ H1 => H1 = H ∧ ∃ p q : Int, σ = [some (.int t'), some (.int b'), some (.int p), some (.int q)] ∧ 0 ≤ p ∧ 0 < q ∧ Int.gcd q p = Int.gcd t b)
        (fun σ _ => match σ with | [_, _, some (.int p), _] => p.toNat | _ => 0) ⟨rfl, _, b', rfl, by split <;> omega, hb', ?_⟩ ?_ ?_
      · rw [← hg, Int.gcd_comm t']
        split
        · exact Int.gcd_neg
        · rfl
      · rintro σ H1 ⟨rfl, p, q, rfl, h0, h1, h2⟩
        refine ⟨_, rfl, _, _, rfl, rfl, _, rfl, ?_⟩
        refine ite2 (fun e => ?_) (fun e => ?_)
        · have hp : 0 < p := of_decide_eq_true e
          refine ⟨_, rfl, _, rfl, _, _, rfl, rfl, hp, _, rfl, _, _, rfl, ?_⟩
          have m1 := Int.emod_nonneg q (b := p) (by omega)
          have m2 := Int.emod_lt_of_pos q hp
          refine ⟨⟨rfl, q % p, p, rfl, m1, hp, (LwM.gcd_step q p).trans h2⟩, ?_⟩
          show (q % p).toNat < p.toNat
          omega
        · have hp : p = 0 := by
            have : ¬ 0 < p := fun z => e (decide_eq_true z)
            omega
          subst hp
          have hq : q = ((Int.gcd t b : Nat) : Int) := by
            rw [← h2, Int.gcd_zero_right]
            omega
          have gb : q ≤ b' := by
            rw [hq, ← hg]
            exact LwM.gcd_le t' b' hb'
          obtain ⟨c1, c2⟩ := hs' q h1 gb
          refine ⟨_, rfl, _, rfl, _, _, rfl, rfl, c1, _, rfl, _, rfl, _, _, rfl, rfl, c2, (by show 2 ≤ sizeLine; decide), ?_⟩
          refine fresh fun p H' n s1 e1 => k p H' n s1 ?_
          rw [e1, hq, et, eb]
          rfl
      · rintro σ H1 Q1 Q2 hQ ⟨v, e, i, j, e1, e2, k', ek, q⟩
        exact ⟨v, e, i, j, e1, e2, k', ek, hQ _ _ q⟩
    have hs2 : ∀ t' b' : Int, t'.natAbs = t.natAbs → b'.natAbs = b.natAbs → 0 < b' → ∀ q : Int, 0 < q → q ≤ b' → LwD.CDivP t' q ∧ LwD.CDivP b' q := fun t' b' e1 e2 h0 q h1 h2 => by
      rcases hs with hs | ⟨ha, hb2⟩
      · have hq : q.natAbs < 2 ^ 8000 := Nat.lt_of_le_of_lt (by omega) hs
        exact ⟨LwD.cdivp_of ⟨h1, hq⟩, LwD.cdivp_of ⟨h1, hq⟩⟩
      · exact ⟨LwD.cdivp_near h1 (Nat.le_refl _) (by rw [e1]; exact ha), LwD.cdivp_near h1 (Nat.le_refl _) (by rw [e2]; exact hb2)⟩
    by_cases n : b < 0
    · refine iteP (decide_eq_true n) ?_
      refine ⟨_, rfl, _, _, rfl, rfl, _, rfl, _, _, rfl, rfl, _, _, rfl, ?_⟩
      refine fin (0 - t) (0 - b) (by omega) (hs2 _ _ (by omega) (by omega) (by omega)) (by rw [if_pos n]) (by rw [if_pos n]) ?_
      rw [Int.zero_sub, Int.zero_sub, Int.neg_gcd, Int.gcd_neg]
    · refine iteN (decide_eq_false n) ?_
      exact fin t b (by omega) (hs2 _ _ rfl rfl (by omega)) (by rw [if_neg n]) (by rw [if_neg n]) rfl
theorem low_pos {t b : Int} (h : 0 < b) : lowT t b = t / (Int.gcd t b : Int) ∧ lowB t b = b / (Int.gcd t b : Int) := by
  unfold lowT lowB
  rw [if_neg (by omega), if_neg (by omega)]
  exact ⟨rfl, rfl⟩
theorem at_ints {ns : List Int} {i : Int} (h0 : 0 ≤ i) (h1 : i < ns.length) : ∃ c : Int, atI (ns.map V.int) i = some (.int c) := by
  obtain ⟨j, rfl⟩ := Int.eq_ofNat_of_zero_le h0
  have hj : j < ns.length := by omega
  exact ⟨ns[j], atI_nat (by simp [hj])⟩
theorem scDraw : FnScope ["tape", "many", "spot", "cell", "some", "rest"] ["tape", "many"] (defScope sDraw) := ⟨rfl, rfl, rfl, by decide +kernel, rfl, by decide +kernel, by decide +kernel⟩
theorem ok_draw (F : Fun K "_law_draw" "_law_draw" sDraw f fd) (T : Txt mg) : FnOk P w K mg base CX0 1 f fd ["tape", "many"] spDraw := by
  refine F.ok scDraw (fun vs H Q E h => ?_) (fun cdv A outer s H vs Q E hr h => ?_)
  · obtain ⟨tp, many, B, rfl, _⟩ := h
    rfl
  · obtain ⟨tp, many, B, rfl, cl, ⟨ns, spot, rest, left, h1, h2, h3, h4, h5⟩, hB, hm, hm2, k⟩ := h
    have hne : cl ≠ tp := by
      rintro rfl
      rw [h1] at h2
      injection h2 with h2
      injection h2 with h2
      cases ns with
      | nil => cases h2
      | cons n r => injection h2 with z; cases z
    -- tape[i]
    refine ⟨_, pss_cons (ps_if (pt_cmpR op_eq (pe_ix ix_list (pv 0) pe_int (fun _ _ => rfl)) pe_int (nomark _))
        (pss_cons (ps_set (i := 2) scDraw.nd rfl (Or.inl rfl) (pe_ix ix_list (pv 0) pe_int (fun _ _ => rfl)))
        (pss_cons (ps_asg (pe_op op_add (pv 2) pe_int) (pg_sub (pv 0) pe_int set_list))
        (pss_cons (ps_set (i := 3) scDraw.nd rfl (Or.inl rfl) pe_int)
        (pss_cons (ps_if (pt_cmpR op_gt (pe_callB call_len_seq (by rfl) T.len PySem.boot_len (pa_cons (pe_ix ix_list (pv 0) pe_int (fun _ _ => rfl)) pa_nil)) pe_int (nomark _))
          (pss_one (ps_set (i := 3) scDraw.nd rfl (Or.inl rfl) (pe_ix ix_list (pe_ix ix_list (pv 0) pe_int (fun _ _ => rfl)) (pe_op op_mod (pv 2) (pe_callB call_len_seq (by rfl) T.len PySem.boot_len (pa_cons (pe_ix ix_list (pv 0) pe_int (fun _ _ => rfl)) pa_nil))) (fun _ _ => rfl)))) pss_nil)
        (pss_cons (ps_if (PW.pt (pw_or (pt_cmpR op_ge (pv 2) (pe_callB call_len_seq (by rfl) T.len PySem.boot_len (pa_cons (pe_ix ix_list (pv 0) pe_int (fun _ _ => rfl)) pa_nil)) (nomark _)) (pw_or1 (pt_cmpR op_lt (pv 3) (pe_op op_pow pe_int pe_int) (nomark _)))))
          (pss_cons (ps_set (i := 4) scDraw.nd rfl (Or.inl rfl) (pe_op op_add (pe_op op_add (pe_op op_mod (pe_op op_mul (pv 2) (pv 2)) pe_int) (pe_op op_mul pe_int (pv 2))) pe_int))
          (pss_cons (ps_set (i := 4) scDraw.nd rfl (Or.inl rfl) (pe_op op_mod (pe_op op_mul (pe_op op_add (pe_op op_mod (pv 3) pe_int) pe_int) (pv 4)) pe_int))
          (pss_one (ps_ret (pe_op op_mod (pe_op op_mod (pe_op op_add (pe_op op_fdiv (pe_op op_mod (pe_op op_mul (pv 4) (pv 4)) pe_int) pe_int) (pe_op op_mul pe_int (pv 2))) pe_int) (pv 1)))))) pss_nil)
        (pss_cons (ps_asg (pe_op op_sub (pv 3) (pe_op op_pow pe_int pe_int)) (pg_sub (pv 0) pe_int set_list))
        (pss_one (ps_asg pe_int (pg_sub (pv 0) pe_int set_list))))))))) pss_nil)
      (pss_cons (ps_asg (pe_op op_sub (pe_ix ix_list (pv 0) pe_int (fun _ _ => rfl)) pe_int) (pg_sub (pv 0) pe_int set_list))
      (pss_cons (ps_set (i := 5) scDraw.nd rfl (Or.inl rfl) (pe_ix ix_list (pv 0) pe_int (fun _ _ => rfl)))
      (pss_cons (ps_asg (pe_op op_fdivL (pv 5) (pv 1)) (pg_sub (pv 0) pe_int set_list))
      (pss_one (ps_ret (pe_op op_mod (pv 5) (pv 1))))))), ?_⟩
    have hmd : many.natAbs < 2 ^ 8000 := by
      have : many.natAbs < 2 ^ 100 := by
        have h : ((2 ^ 100 : Nat) : Int) = 2 ^ 100 := by decide
        omega
      exact Nat.lt_of_lt_of_le this (Nat.pow_le_pow_right (by decide) (by decide))
    -- what is done behind the first test: one digit of rest is taken
    have tail : ∀ (spot' rest' left' : Int) (a b c d : Option V) (H1 : Hp), H1 tp = some (.lst [.ref cl, .int spot', .int rest', .int left']) → But tp H H1 → 0 ≤ spot' → spot' ≤ B + 1 →
        (tSeq (tAsg (tOp (rI0 fun i j => V.int (i - j)) (tOp (rIxL K) (tVar 0) (tC (.int 3))) (tC (.int 1))) (gSub (tVar 0) (tC (.int 3)) rSetL))
          (tSeq (tAsg (tOp (rIxL K) (tVar 0) (tC (.int 2))) (gName 5))
          (tSeq (tAsg (tOp (rI CDivL fun i j => .int (i / j)) (tVar 5) (tVar 1)) (gSub (tVar 0) (tC (.int 2)) rSetL))
          (tRet (tOp (rI (fun _ j => 0 < j) fun i j => .int (i % j)) (tVar 5) (tVar 1)))))) { nx := fun _ H' => Q .non H', rt := Q } [some (.ref tp), some (.int many), a, b, c, d] H1 := by
      intro spot' rest' left' a b c d H1 g1 g2 g3 g4
      refine ⟨_, rfl, tp, _, _, _, rfl, rfl, SqL.of g1, rfl, _, _, rfl, rfl, ?_⟩
      refine ⟨_, rfl, tp, _, _, _, rfl, rfl, g1, rfl, ?_⟩
      refine ⟨_, rfl, tp, _, _, _, rfl, rfl, SqL.of upd_same, rfl, ?_⟩
      refine ⟨_, rfl, _, rfl, _, _, rfl, rfl, ⟨hm, hmd⟩, _, rfl, tp, _, _, _, rfl, rfl, upd_same, rfl, ?_⟩
      refine ⟨_, rfl, _, rfl, _, _, rfl, rfl, hm, ?_⟩
      refine k _ _ (Int.emod_nonneg _ (by omega)) (Int.emod_lt_of_pos _ hm) ⟨ns, spot', _, _, upd_same, ?_, h3, g3, g4⟩ ?_
      · rw [upd_ne hne, upd_ne hne]
        exact g2 _ _ h2 hne
      · exact (g2.trans (But.upd _ _ _)).trans (But.upd _ _ _)
    refine ⟨_, rfl, tp, _, _, _, rfl, rfl, SqL.of h1, rfl, rfl, _, rfl, ?_⟩
    by_cases hl : left = 0
    · subst hl
      refine iteP (by decide) ?_
      -- spot = tape[1]; tape[1] = spot + 1; cell = 0
      refine ⟨_, rfl, tp, _, _, _, rfl, rfl, SqL.of h1, rfl, ?_⟩
      refine ⟨_, rfl, _, _, rfl, rfl, _, rfl, tp, _, _, _, rfl, rfl, h1, rfl, ?_⟩
      -- the tape, one spot on
      have T1 : ∀ o, (upd H tp o) cl = some (.lst (ns.map V.int)) := fun o => by
        rw [upd_ne hne]
        exact h2
      -- behind the second test, the cell known
      have mid : ∀ (cell : Int) (b c : Option V), (tSeq (tIfS (tOr (tTest (tOp (rI0 fun i j => V.bl (decide (j ≤ i))) (tVar 2) (tCB (fun xs H Q => ∃ p ys, xs = [V.ref p] ∧ (SqL K H p ys ∨ SqT K H p ys) ∧ Q (.int ys.length) H) (tCons (tOp (rIxL K) (tVar 0) (tC (.int 0))) tNil))))
            (tTest (tOp (rI0 fun i j => V.bl (decide (i < j))) (tVar 3) (tOp (rI CPow fun i j => .int (i ^ j.toNat)) (tC (.int 10)) (tC (.int 18))))))
          (tSeq (tAsg (tOp (rI0 fun i j => V.int (i + j)) (tOp (rI0 fun i j => V.int (i + j)) (tOp (rI (fun _ j => 0 < j) fun i j => .int (i % j)) (tOp (rI CMul fun i j => .int (i * j)) (tVar 2) (tVar 2)) (tC (.int 10007))) (tOp (rI CMul fun i j => .int (i * j)) (tC (.int 61)) (tVar 2))) (tC (.int 7))) (gName 4))
          (tSeq (tAsg (tOp (rI (fun _ j => 0 < j) fun i j => .int (i % j)) (tOp (rI CMul fun i j => .int (i * j)) (tOp (rI0 fun i j => V.int (i + j)) (tOp (rI (fun _ j => 0 < j) fun i j => .int (i % j)) (tVar 3) (tC (.int 999983))) (tC (.int 3))) (tVar 4)) (tC (.int 1000003))) (gName 4))
          (tRet (tOp (rI (fun _ j => 0 < j) fun i j => .int (i % j)) (tOp (rI (fun _ j => 0 < j) fun i j => .int (i % j)) (tOp (rI0 fun i j => V.int (i + j)) (tOp (rI CDiv fun i j => .int (i / j)) (tOp (rI (fun _ j => 0 < j) fun i j => .int (i % j)) (tOp (rI CMul fun i j => .int (i * j)) (tVar 4) (tVar 4)) (tC (.int 999979))) (tC (.int 3))) (tOp (rI CMul fun i j => .int (i * j)) (tC (.int 131)) (tVar 2))) (tC (.int 99991))) (tVar 1)))))
          tNext)
          (tSeq (tAsg (tOp (rI0 fun i j => V.int (i - j)) (tVar 3) (tOp (rI CPow fun i j => .int (i ^ j.toNat)) (tC (.int 10)) (tC (.int 18)))) (gSub (tVar 0) (tC (.int 2)) rSetL))
          (tAsg (tC (.int 40)) (gSub (tVar 0) (tC (.int 3)) rSetL))))
          { nx := (tSeq (tAsg (tOp (rI0 fun i j => V.int (i - j)) (tOp (rIxL K) (tVar 0) (tC (.int 3))) (tC (.int 1))) (gSub (tVar 0) (tC (.int 3)) rSetL))
          (tSeq (tAsg (tOp (rIxL K) (tVar 0) (tC (.int 2))) (gName 5))
          (tSeq (tAsg (tOp (rI CDivL fun i j => .int (i / j)) (tVar 5) (tVar 1)) (gSub (tVar 0) (tC (.int 2)) rSetL))
          (tRet (tOp (rI (fun _ j => 0 < j) fun i j => .int (i % j)) (tVar 5) (tVar 1)))))) { nx := fun _ H' => Q .non H', rt := Q }, rt := Q } [some (.ref tp), some (.int many), some (.int spot), some (.int cell), b, c] (upd H tp (.lst [.ref cl, .int (spot + 1), .int rest, .int 0])) := by
        intro cell b c
        have pw : CPow 10 18 := ⟨by decide, by decide, by decide⟩
        have drawn : (tSeq (tAsg (tOp (rI0 fun i j => V.int (i + j)) (tOp (rI0 fun i j => V.int (i + j)) (tOp (rI (fun _ j => 0 < j) fun i j => .int (i % j)) (tOp (rI CMul fun i j => .int (i * j)) (tVar 2) (tVar 2)) (tC (.int 10007))) (tOp (rI CMul fun i j => .int (i * j)) (tC (.int 61)) (tVar 2))) (tC (.int 7))) (gName 4))
          (tSeq (tAsg (tOp (rI (fun _ j => 0 < j) fun i j => .int (i % j)) (tOp (rI CMul fun i j => .int (i * j)) (tOp (rI0 fun i j => V.int (i + j)) (tOp (rI (fun _ j => 0 < j) fun i j => .int (i % j)) (tVar 3) (tC (.int 999983))) (tC (.int 3))) (tVar 4)) (tC (.int 1000003))) (gName 4))
          (tRet (tOp (rI (fun _ j => 0 < j) fun i j => .int (i % j)) (tOp (rI (fun _ j => 0 < j) fun i j => .int (i % j)) (tOp (rI0 fun i j => V.int (i + j)) (tOp (rI CDiv fun i j => .int (i / j)) (tOp (rI (fun _ j => 0 < j) fun i j => .int (i % j)) (tOp (rI CMul fun i j => .int (i * j)) (tVar 4) (tVar 4)) (tC (.int 999979))) (tC (.int 3))) (tOp (rI CMul fun i j => .int (i * j)) (tC (.int 131)) (tVar 2))) (tC (.int 99991))) (tVar 1))))) { nx := fun _ _ => False, rt := Q } [some (.ref tp), some (.int many), some (.int spot), some (.int cell), b, c] (upd H tp (.lst [.ref cl, .int (spot + 1), .int rest, .int 0])) := by
          refine ⟨_, rfl, _, rfl, _, _, rfl, rfl, .inl ⟨by omega, by omega⟩, _, _, rfl, rfl, (by show (0 : Int) < _; decide), ?_⟩
          refine ⟨_, rfl, _, _, rfl, rfl, .inl ⟨by omega, by omega⟩, _, _, rfl, rfl, _, _, rfl, rfl, ?_⟩
          have c1 := Int.emod_nonneg cell (b := 999983) (by decide)
          have c2 := Int.emod_lt_of_pos cell (b := 999983) (by decide)
          refine ⟨_, rfl, _, _, rfl, rfl, (by show (0 : Int) < _; decide), _, _, rfl, rfl, _, rfl, _, _, rfl, rfl, .inl ⟨by omega, by omega⟩, _, _, rfl, rfl, (by show (0 : Int) < _; decide), ?_⟩
          generalize hx : ((cell % 999983 + 3) * (spot * spot % 10007 + 61 * spot + 7)) = x
          have d1 := Int.emod_nonneg x (b := 1000003) (by decide)
          have d2 := Int.emod_lt_of_pos x (b := 1000003) (by decide)
          refine ⟨_, rfl, _, rfl, _, _, rfl, rfl, .inl ⟨by omega, by omega⟩, _, _, rfl, rfl, (by show (0 : Int) < _; decide), _, _, rfl, rfl, ⟨by decide, by decide⟩, ?_⟩
          refine ⟨_, rfl, _, _, rfl, rfl, .inl ⟨by decide, by decide⟩, _, _, rfl, rfl, _, _, rfl, rfl, (by show (0 : Int) < _; decide), _, rfl, _, _, rfl, rfl, hm, ?_⟩
          exact k _ _ (Int.emod_nonneg _ (by omega)) (Int.emod_lt_of_pos _ hm) ⟨ns, spot + 1, _, _, upd_same, T1 _, h3, by omega, by omega⟩ (But.upd _ _ _)
        refine ⟨_, rfl, _, rfl, tp, _, _, _, rfl, rfl, SqL.of upd_same, rfl, cl, _, rfl, .inl (SqL.of (T1 _)), _, _, rfl, rfl, _, rfl, ?_⟩
        by_cases z1 : ((ns.map V.int).length : Int) ≤ spot
        · refine iteP (decide_eq_true z1) (iteT ?_)
          exact drawn
        · refine iteN (decide_eq_false z1) ?_
          refine ⟨_, rfl, _, _, rfl, rfl, pw, _, _, rfl, rfl, _, rfl, ?_⟩
          by_cases z2 : cell < (10 : Int) ^ (18 : Int).toNat
          · refine iteP (decide_eq_true z2) ?_
            exact drawn
          · refine iteN (decide_eq_false z2) ?_
            refine ⟨_, rfl, _, _, rfl, rfl, pw, _, _, rfl, rfl, _, rfl, tp, _, _, _, rfl, rfl, upd_same, rfl, ?_⟩
            refine ⟨_, rfl, tp, _, _, _, rfl, rfl, upd_same, rfl, ?_⟩
            exact tail (spot + 1) _ 40 _ _ _ _ _ upd_same (((But.upd _ _ _).trans (But.upd _ _ _)).trans (But.upd _ _ _)) (by omega) (by omega)
      refine ⟨_, rfl, tp, _, _, _, rfl, rfl, SqL.of upd_same, rfl, cl, _, rfl, .inl (SqL.of (T1 _)), _, _, rfl, rfl, _, rfl, ?_⟩
      by_cases hn : (0 : Int) < ((ns.map V.int).length : Int)
      · refine iteP (decide_eq_true hn) ?_
        obtain ⟨c, hc⟩ := at_ints (ns := ns) (i := spot % ((ns.map V.int).length : Int)) (Int.emod_nonneg _ (by omega)) (by have := Int.emod_lt_of_pos spot hn; rw [List.length_map] at this ⊢; exact this)
        refine ⟨_, rfl, tp, _, _, _, rfl, rfl, SqL.of upd_same, rfl, _, rfl, _, rfl, tp, _, _, _, rfl, rfl, SqL.of upd_same, rfl, cl, _, rfl, .inl (SqL.of (T1 _)), _, _, rfl, rfl, hn, cl, _, _, _, rfl, rfl, SqL.of (T1 _), hc, ?_⟩
        exact mid c _ _
      · refine iteN (decide_eq_false hn) ?_
        exact mid 0 _ _
    · refine iteN (decide_eq_false (by intro z; injection z with z; exact hl z)) ?_
      exact tail spot rest left _ _ _ _ H h1 (But.refl _ _) h4 (by omega)
end
end Lw

namespace Lw
open PySem PySem.Spec PyProof.Rows L2
/-- a fraction's two numbers, of some size -/
structure FrOk (n : Nat) (t b : Int) : Prop where
  pos : 0 < b
  low : Int.gcd t b = 1
  st : t.natAbs < 2 ^ n
  sb : b.natAbs < 2 ^ n
/-- the tuple of two ints at p -/
def At2 (H : Hp) (p : Addr) (t b : Int) : Prop := H p = some (.tup [.int t, .int b])
theorem abs_mul {a b : Int} {m n : Nat} (ha : a.natAbs < 2 ^ m) (hb : b.natAbs < 2 ^ n) : (a * b).natAbs < 2 ^ (m + n) := by
  rw [Int.natAbs_mul, Nat.pow_add]
  exact Nat.mul_lt_mul'' ha hb
theorem abs_add {a b : Int} {n : Nat} (ha : a.natAbs < 2 ^ n) (hb : b.natAbs < 2 ^ n) : (a + b).natAbs < 2 ^ (n + 1) := by
  rw [Nat.pow_succ]
  omega
theorem abs_up {a : Int} {m n : Nat} (ha : a.natAbs < 2 ^ m) (h : m ≤ n) : a.natAbs < 2 ^ n := Nat.lt_of_lt_of_le ha (Nat.pow_le_pow_right (by decide) h)
theorem abs_div {a g : Int} {n : Nat} (ha : a.natAbs < 2 ^ n) (hg : 1 ≤ g) : (a / g).natAbs < 2 ^ n := Nat.lt_of_le_of_lt (LwM.ediv_abs a g hg) ha
theorem gcd_abs {a b : Int} {n : Nat} (hb : 0 < b) (hs : b.natAbs < 2 ^ n) : ((Int.gcd a b : Nat) : Int).natAbs < 2 ^ n := by
  have := LwM.gcd_le a b hb
  have := LwM.gcd_pos a b hb
  omega
theorem low_posT {t b : Int} (h : 0 < b) : lowT t b = t / (Int.gcd t b : Int) := (low_pos h).1
theorem low_posB {t b : Int} (h : 0 < b) : lowB t b = b / (Int.gcd t b : Int) := (low_pos h).2
/-- what a def of two fractions tells: the fraction lowest of (nt, nb) -/
def spTwo (K : PySem.W.Frag) (nt nb : Int → Int → Int → Int → Int) : Sp := fun vs H Q _ => ∃ (p q : Addr) (t b o u : Int), vs = [.ref p, .ref q] ∧ SqT K H p [.int t, .int b] ∧ SqT K H q [.int o, .int u] ∧ FrOk 7900 t b ∧ FrOk 7900 o u ∧
  ∀ (r : Addr) (H' : Hp), H r = none → Same H H' → At2 H' r (lowT (nt t b o u) (nb t b o u)) (lowB (nt t b o u) (nb t b o u)) → Q (.ref r) H'
abbrev spAdded (K : PySem.W.Frag) : Sp := spTwo K (fun t b o u => t * u + o * b) (fun _ b _ u => b * u)
abbrev spLess (K : PySem.W.Frag) : Sp := spTwo K (fun t b o u => t * u - o * b) (fun _ b _ u => b * u)
abbrev spMul (K : PySem.W.Frag) : Sp := spTwo K (fun t _ o _ => t * o) (fun _ b _ u => b * u)
theorem sqT_same {K : PySem.W.Frag} {H H' : Hp} {a : Addr} {xs : List V} (s : Same H H') (h : SqT K H a xs) : SqT K H' a xs := by
  rcases h with (h | ⟨o, h⟩) | h
  · exact .inl (.inl (s _ _ h))
  · exact .inl (.inr ⟨o, s _ _ h⟩)
  · exact .inr h
section
variable {P : Program} {w : World} {K : PySem.W.Frag} {mg : Str → Option Value} {base : Heap} {f fd : _}
theorem scAdded : FnScope ["one", "other", "top", "bottom", "over", "under", "shared", "total", "left"] ["one", "other"] (defScope sAdded) := ⟨rfl, rfl, rfl, by decide +kernel, rfl, by decide +kernel, by decide +kernel⟩
theorem ok_added {fG : Addr} {fdG : FuncData} (F : Fun K "added" "added" sAdded f fd) (T : Txt mg) (DG : Df K mg "greatest_divisor" sGcd ["one", "other"] fG fdG) : FnOk P w K mg base CX0 2 f fd ["one", "other"] (spAdded K) := by
  have GG : FnOk P w K mg base CX0 1 fG fdG ["one", "other"] spGcd := ok_gcd DG.F T
  refine F.ok scAdded (fun vs H Q E h => ?_) (fun cdv A outer s H vs Q E hr h => ?_)
  · obtain ⟨p, q, t, b, o, u, rfl, _⟩ := h
    rfl
  · obtain ⟨p, q, t, b, o, u, rfl, hp, hq, f1, f2, k⟩ := h
    refine ⟨_, pss_cons (ps_asg (pv 0) (pg_tup rfl (pgs_cons (pg_name (i := 2) scAdded.nd rfl (Or.inl rfl)) (pgs_cons (pg_name (i := 3) scAdded.nd rfl (Or.inl rfl)) pgs_nil))))
      (pss_cons (ps_asg (pv 1) (pg_tup rfl (pgs_cons (pg_name (i := 4) scAdded.nd rfl (Or.inl rfl)) (pgs_cons (pg_name (i := 5) scAdded.nd rfl (Or.inl rfl)) pgs_nil))))
      (pss_cons (ps_set (i := 6) scAdded.nd rfl (Or.inl rfl) (pe_call GG hr rfl DG.m DG.F.kp DG.b .nil pass0 (pa_cons (pv 3) (pa_cons (pv 5) pa_nil))))
      (pss_cons (ps_set (i := 7) scAdded.nd rfl (Or.inl rfl) (pe_op op_add (pe_op op_mulL (pv 2) (pe_op op_fdivL (pv 5) (pv 6))) (pe_op op_mulL (pv 4) (pe_op op_fdivL (pv 3) (pv 6)))))
      (pss_cons (ps_set (i := 8) scAdded.nd rfl (Or.inl rfl) (pe_call GG hr rfl DG.m DG.F.kp DG.b .nil pass0 (pa_cons (pv 7) (pa_cons (pv 6) pa_nil))))
      (pss_one (ps_ret (pe_tupF (pa_cons (pe_op op_fdivL (pv 7) (pv 8)) (pa_cons (pe_op op_mulL (pe_op op_fdivL (pv 3) (pv 6)) (pe_op op_fdivL (pv 5) (pv 8))) pa_nil))))))))), ?_⟩
    refine ⟨_, rfl, p, _, rfl, hp, rfl, _, _, rfl, _, _, rfl, rfl, ?_⟩
    refine ⟨_, rfl, q, _, rfl, hq, rfl, _, _, rfl, _, _, rfl, rfl, ?_⟩
    have s1 := LwM.gcd_pos b u f2.pos
    have sA : ((Int.gcd b u : Nat) : Int).natAbs < 2 ^ 7900 := gcd_abs f2.pos f2.sb
    have sD : CDivL u (Int.gcd b u : Int) := ⟨by omega, abs_up sA (by decide)⟩
    refine ⟨_, rfl, _, rfl, b, u, rfl, f2.pos, abs_up f2.sb (by decide), ?_⟩
    refine ⟨_, rfl, _, rfl, _, rfl, _, _, rfl, rfl, sD, _, _, rfl, rfl, ⟨abs_up f1.st (by decide), abs_up (abs_div f2.sb s1) (by decide)⟩, ?_⟩
    refine ⟨_, rfl, _, rfl, _, rfl, _, _, rfl, rfl, sD, _, _, rfl, rfl, ⟨abs_up f2.st (by decide), abs_up (abs_div f1.sb s1) (by decide)⟩, _, _, rfl, rfl, ?_⟩
    have tA : (t * (u / (Int.gcd b u : Int)) + o * (b / (Int.gcd b u : Int))).natAbs < 2 ^ 15801 := abs_add (n := 15800) (abs_mul (m := 7900) (n := 7900) f1.st (abs_div f2.sb s1)) (abs_mul (m := 7900) (n := 7900) f2.st (abs_div f1.sb s1))
    refine ⟨_, rfl, _, rfl, _, _, rfl, by omega, abs_up sA (by decide), ?_⟩
    have m := LwM.add_low f1.pos f2.pos f1.low f2.low
    have l1 := LwM.gcd_pos (t * (u / (Int.gcd b u : Int)) + o * (b / (Int.gcd b u : Int))) (Int.gcd b u : Int) (by omega)
    have lA : ((Int.gcd (t * (u / (Int.gcd b u : Int)) + o * (b / (Int.gcd b u : Int))) (Int.gcd b u : Int) : Nat) : Int).natAbs < 2 ^ 7900 := gcd_abs (by omega) sA
    generalize hT : t * (u / (Int.gcd b u : Int)) + o * (b / (Int.gcd b u : Int)) = T at *
    generalize hl : (Int.gcd T (Int.gcd b u : Int) : Int) = l at *
    have lD : CDivL u l := ⟨by omega, abs_up lA (by decide)⟩
    refine ⟨_, rfl, _, rfl, _, _, rfl, rfl, lD, _, rfl, _, rfl, _, _, rfl, rfl, sD, _, rfl, _, rfl, _, _, rfl, rfl, lD, _, _, rfl, rfl, ⟨abs_up (abs_div f1.sb s1) (by decide), abs_up (abs_div f2.sb (by omega)) (by decide)⟩, (by show 2 ≤ sizeLine; decide), fun r H' n s e => ?_⟩
    refine k r H' n s ?_
    have bu := Int.mul_pos f1.pos f2.pos
    show H' r = _
    rw [e, low_posT bu, low_posB bu]
    dsimp only
    rw [hT, m.1, m.2]
theorem scLess : FnScope ["one", "other", "over", "under"] ["one", "other"] (defScope sLess) := ⟨rfl, rfl, rfl, by decide +kernel, rfl, by decide +kernel, by decide +kernel⟩
theorem ok_less {fA fG : Addr} {fdA fdG : FuncData} (F : Fun K "less" "less" sLess f fd) (T : Txt mg) (DA : Df K mg "added" sAdded ["one", "other"] fA fdA) (DG : Df K mg "greatest_divisor" sGcd ["one", "other"] fG fdG) : FnOk P w K mg base CX0 3 f fd ["one", "other"] (spLess K) := by
  have GA : FnOk P w K mg base CX0 2 fA fdA ["one", "other"] (spAdded K) := ok_added DA.F T DG
  refine F.ok scLess (fun vs H Q E h => ?_) (fun cdv A outer s H vs Q E hr h => ?_)
  · obtain ⟨p, q, t, b, o, u, rfl, _⟩ := h
    rfl
  · obtain ⟨p, q, t, b, o, u, rfl, hp, hq, f1, f2, k⟩ := h
    refine ⟨_, pss_cons (ps_asg (pv 1) (pg_tup rfl (pgs_cons (pg_name (i := 2) scLess.nd rfl (Or.inl rfl)) (pgs_cons (pg_name (i := 3) scLess.nd rfl (Or.inl rfl)) pgs_nil))))
      (pss_one (ps_ret (pe_call GA hr rfl DA.m DA.F.kp DA.b .nil pass0 (pa_cons (pv 0) (pa_cons (pe_tupF (pa_cons (pe_un un_neg (pv 2)) (pa_cons (pv 3) pa_nil))) pa_nil))))), ?_⟩
    refine ⟨_, rfl, q, _, rfl, hq, rfl, _, _, rfl, _, _, rfl, rfl, ?_⟩
    refine ⟨_, rfl, _, rfl, _, rfl, _, rfl, (by show 2 ≤ sizeLine; decide), fun z H1 n1 s1 e1 => ?_⟩
    refine ⟨p, z, t, b, -o, u, rfl, sqT_same s1 hp, SqT.of e1, f1, ⟨f2.pos, by rw [Int.neg_gcd]; exact f2.low, by rw [Int.natAbs_neg]; exact f2.st, f2.sb⟩, fun r H' n s e => ?_⟩
    refine k r H' (s1.free n) (s1.trans s) ?_
    have ee : t * u + -o * b = t * u - o * b := by rw [Int.neg_mul]; omega
    dsimp only at e
    rw [ee] at e
    exact e
theorem scMul : FnScope ["one", "other", "top", "bottom", "over", "under", "first", "second"] ["one", "other"] (defScope sMul) := ⟨rfl, rfl, rfl, by decide +kernel, rfl, by decide +kernel, by decide +kernel⟩
theorem ok_mul {fG : Addr} {fdG : FuncData} (F : Fun K "multiplied" "multiplied" sMul f fd) (T : Txt mg) (DG : Df K mg "greatest_divisor" sGcd ["one", "other"] fG fdG) : FnOk P w K mg base CX0 2 f fd ["one", "other"] (spMul K) := by
  have GG : FnOk P w K mg base CX0 1 fG fdG ["one", "other"] spGcd := ok_gcd DG.F T
  refine F.ok scMul (fun vs H Q E h => ?_) (fun cdv A outer s H vs Q E hr h => ?_)
  · obtain ⟨p, q, t, b, o, u, rfl, _⟩ := h
    rfl
  · obtain ⟨p, q, t, b, o, u, rfl, hp, hq, f1, f2, k⟩ := h
    refine ⟨_, pss_cons (ps_asg (pv 0) (pg_tup rfl (pgs_cons (pg_name (i := 2) scMul.nd rfl (Or.inl rfl)) (pgs_cons (pg_name (i := 3) scMul.nd rfl (Or.inl rfl)) pgs_nil))))
      (pss_cons (ps_asg (pv 1) (pg_tup rfl (pgs_cons (pg_name (i := 4) scMul.nd rfl (Or.inl rfl)) (pgs_cons (pg_name (i := 5) scMul.nd rfl (Or.inl rfl)) pgs_nil))))
      (pss_cons (ps_set (i := 6) scMul.nd rfl (Or.inl rfl) (pe_call GG hr rfl DG.m DG.F.kp DG.b .nil pass0 (pa_cons (pv 2) (pa_cons (pv 5) pa_nil))))
      (pss_cons (ps_set (i := 7) scMul.nd rfl (Or.inl rfl) (pe_call GG hr rfl DG.m DG.F.kp DG.b .nil pass0 (pa_cons (pv 4) (pa_cons (pv 3) pa_nil))))
      (pss_one (ps_ret (pe_tupF (pa_cons (pe_op op_mulL (pe_op op_fdivL (pv 2) (pv 6)) (pe_op op_fdivL (pv 4) (pv 7))) (pa_cons (pe_op op_mulL (pe_op op_fdivL (pv 3) (pv 7)) (pe_op op_fdivL (pv 5) (pv 6))) pa_nil)))))))), ?_⟩
    refine ⟨_, rfl, p, _, rfl, hp, rfl, _, _, rfl, _, _, rfl, rfl, ?_⟩
    refine ⟨_, rfl, q, _, rfl, hq, rfl, _, _, rfl, _, _, rfl, rfl, ?_⟩
    refine ⟨_, rfl, _, rfl, t, u, rfl, f2.pos, abs_up f2.sb (by decide), ?_⟩
    refine ⟨_, rfl, _, rfl, o, b, rfl, f1.pos, abs_up f1.sb (by decide), ?_⟩
    have a1 := LwM.gcd_pos t u f2.pos
    have a2 := LwM.gcd_pos o b f1.pos
    have d1 : CDivL t (Int.gcd t u : Int) := ⟨by omega, abs_up (gcd_abs f2.pos f2.sb) (by decide)⟩
    have d2 : CDivL t (Int.gcd o b : Int) := ⟨by omega, abs_up (gcd_abs f1.pos f1.sb) (by decide)⟩
    have m := LwM.mul_low f1.pos f2.pos f1.low f2.low
    refine ⟨_, rfl, _, rfl, _, _, rfl, rfl, d1, _, rfl, _, rfl, _, _, rfl, rfl, d2, _, _, rfl, rfl, ⟨abs_up (abs_div f1.st a1) (by decide), abs_up (abs_div f2.st a2) (by decide)⟩, ?_⟩
    refine ⟨_, rfl, _, rfl, _, _, rfl, rfl, d2, _, rfl, _, rfl, _, _, rfl, rfl, d1, _, _, rfl, rfl, ⟨abs_up (abs_div f1.sb a2) (by decide), abs_up (abs_div f2.sb a1) (by decide)⟩, (by show 2 ≤ sizeLine; decide), fun r H' n s e => ?_⟩
    refine k r H' n s ?_
    have bu := Int.mul_pos f1.pos f2.pos
    show H' r = _
    rw [e, low_posT bu, low_posB bu]
    dsimp only
    rw [m.1, m.2]
end
/-- divided, where the second is not 0 -/
def spDivN (K : PySem.W.Frag) : Sp := fun vs H Q _ => ∃ (p q : Addr) (t b o u : Int), vs = [.ref p, .ref q] ∧ SqT K H p [.int t, .int b] ∧ SqT K H q [.int o, .int u] ∧ FrOk 7900 t b ∧ FrOk 7900 o u ∧ o ≠ 0 ∧
  ∀ (r : Addr) (H' : Hp), H r = none → Same H H' → At2 H' r (lowT (t * u) (b * o)) (lowB (t * u) (b * o)) → Q (.ref r) H'
theorem low_neg {t b : Int} (h : b < 0) : lowT (-t) (-b) = lowT t b ∧ lowB (-t) (-b) = lowB t b := by
  unfold lowT lowB
  simp only [if_neg (show ¬ (-b < 0) by omega), if_pos h, Int.neg_gcd, Int.gcd_neg, Int.zero_sub]
  exact ⟨trivial, trivial⟩
section
variable {P : Program} {w : World} {K : PySem.W.Frag} {mg : Str → Option Value} {base : Heap} {f fd : _}
theorem scDiv : FnScope ["one", "other", "over", "under"] ["one", "other"] (defScope sDiv) := ⟨rfl, rfl, rfl, by decide +kernel, rfl, by decide +kernel, by decide +kernel⟩
theorem ok_divN {fM fG : Addr} {fdM fdG : FuncData} (F : Fun K "divided" "divided" sDiv f fd) (T : Txt mg) (DM : Df K mg "multiplied" sMul ["one", "other"] fM fdM) (DG : Df K mg "greatest_divisor" sGcd ["one", "other"] fG fdG) : FnOk P w K mg base CX0 3 f fd ["one", "other"] (spDivN K) := by
  have GM : FnOk P w K mg base CX0 2 fM fdM ["one", "other"] (spMul K) := ok_mul DM.F T DG
  refine F.ok scDiv (fun vs H Q E h => ?_) (fun cdv A outer s H vs Q E hr h => ?_)
  · obtain ⟨p, q, t, b, o, u, rfl, _⟩ := h
    rfl
  · obtain ⟨p, q, t, b, o, u, rfl, hp, hq, f1, f2, ho, k⟩ := h
    refine ⟨_, pss_cons (ps_asg (pv 1) (pg_tup rfl (pgs_cons (pg_name (i := 2) scDiv.nd rfl (Or.inl rfl)) (pgs_cons (pg_name (i := 3) scDiv.nd rfl (Or.inl rfl)) pgs_nil))))
      (pss_cons (ps_if (pt_cmpR op_eq (pv 2) pe_int (nomark _)) (pss_one ps_never) pss_nil)
      (pss_cons (ps_if (pt_cmpR op_lt (pv 2) pe_int (nomark _)) (pss_one (ps_ret (pe_call GM hr rfl DM.m DM.F.kp DM.b .nil pass0 (pa_cons (pv 0) (pa_cons (pe_tupF (pa_cons (pe_un un_neg (pv 3)) (pa_cons (pe_un un_neg (pv 2)) pa_nil))) pa_nil))))) pss_nil)
      (pss_one (ps_ret (pe_call GM hr rfl DM.m DM.F.kp DM.b .nil pass0 (pa_cons (pv 0) (pa_cons (pe_tupF (pa_cons (pv 3) (pa_cons (pv 2) pa_nil))) pa_nil))))))), ?_⟩
    refine ⟨_, rfl, q, _, rfl, hq, rfl, _, _, rfl, _, _, rfl, rfl, ?_⟩
    refine ⟨_, rfl, rfl, _, rfl, iteN (decide_eq_false (by intro z; injection z with z; exact ho z)) ?_⟩
    refine ⟨_, rfl, _, _, rfl, rfl, _, rfl, ?_⟩
    have gc : Int.gcd u o = 1 := by rw [Int.gcd_comm]; exact f2.low
    by_cases hn : o < 0
    · refine iteP (decide_eq_true hn) ?_
      refine ⟨_, rfl, _, rfl, _, rfl, _, rfl, _, rfl, (by show 2 ≤ sizeLine; decide), fun z H1 n1 s1 e1 => ?_⟩
      refine ⟨p, z, t, b, -u, -o, rfl, sqT_same s1 hp, SqT.of e1, f1, ⟨by omega, by rw [Int.neg_gcd, Int.gcd_neg]; exact gc, by rw [Int.natAbs_neg]; exact f2.sb, by rw [Int.natAbs_neg]; exact f2.st⟩, fun r H' n s e => ?_⟩
      refine k r H' (s1.free n) (s1.trans s) ?_
      dsimp only at e
      rw [Int.mul_neg, Int.mul_neg, (low_neg (Int.mul_neg_of_pos_of_neg f1.pos hn)).1, (low_neg (Int.mul_neg_of_pos_of_neg f1.pos hn)).2] at e
      exact e
    · refine iteN (decide_eq_false hn) ?_
      refine ⟨_, rfl, _, rfl, _, rfl, (by show 2 ≤ sizeLine; decide), fun z H1 n1 s1 e1 => ?_⟩
      refine ⟨p, z, t, b, u, o, rfl, sqT_same s1 hp, SqT.of e1, f1, ⟨by omega, gc, f2.sb, f2.st⟩, fun r H' n s e => ?_⟩
      exact k r H' (s1.free n) (s1.trans s) e
end
end Lw

namespace Lw
open PySem PySem.Spec PyProof.Rows L2
/-- a drawn fraction's two numbers -/
structure FrS (t b : Int) : Prop where
  pos : 0 < b
  low : Int.gcd t b = 1
  st : t.natAbs < 2 ^ 40
  sb : b.natAbs < 2 ^ 10
section
variable {P : Program} {w : World} {K : PySem.W.Frag} {mg : Str → Option Value} {base : Heap} {f fd : _}
/-- a drawn number, a drawn fraction -/
def spDrawn (c M : Int) : Sp := fun vs H Q _ => ∃ (tp : Addr) (B : Int), vs = [.ref tp] ∧ ∃ cl, Tape cl H tp B ∧ B < M ∧
  ∀ (r : Addr) (t b : Int) (H' : Hp), FrS t b → At2 H' r t b → r ≠ tp → Tape cl H' tp (B + c) → But tp H H' → (∀ c o, H c = some o → c ≠ r) → Q (.ref r) H'
theorem low_fr {t b : Int} (hb : 0 < b) (ht : t.natAbs < 2 ^ 40) (hs : b.natAbs < 2 ^ 10) : FrS (lowT t b) (lowB t b) := by
  have g1 := LwM.gcd_pos t b hb
  have gp : 0 < Int.gcd t b := by omega
  rw [low_posT hb, low_posB hb]
  refine ⟨?_, Int.gcd_ediv_gcd_ediv_gcd gp, abs_div ht g1, abs_div hs g1⟩
  exact Int.ediv_pos_of_pos_of_dvd hb (by omega) (Int.gcd_dvd_right ..)
theorem tape_ne {cl : Addr} {H : Hp} {tp r : Addr} {B : Int} (T : Tape cl H tp B) (n : H r = none) : r ≠ tp := by
  obtain ⟨ns, spot, rest, left, z, _⟩ := T
  rintro rfl
  rw [n] at z
  cases z
theorem none_of_but {p : Addr} {H H' : Hp} {r : Addr} (b : But p H H') (n : H' r = none) (hr : r ≠ p) : H r = none := by
  cases q : H r with
  | none => rfl
  | some o => rw [b r o q hr] at n; cases n
theorem scNumber : FnScope ["tape", "way", "top", "great"] ["tape"] (defScope sNumber) := ⟨rfl, rfl, rfl, by decide +kernel, rfl, by decide +kernel, by decide +kernel⟩
theorem ok_number {fD fL : Addr} {fdD fdL : FuncData} (F : Fun K "_law_number" "_law_number" sNumber f fd) (T : Txt mg) (DD : Df K mg "_law_draw" sDraw ["tape", "many"] fD fdD) (DL : Df K mg "_law_low" sLow ["top", "bottom"] fL fdL) : FnOk P w K mg base CX0 2 f fd ["tape"] (spDrawn 6 (2 ^ 38)) := by
  have GD : FnOk P w K mg base CX0 1 fD fdD ["tape", "many"] spDraw := ok_draw DD.F T
  have GL : FnOk P w K mg base CX0 1 fL fdL ["top", "bottom"] spLow := ok_low DL.F T
  refine F.ok scNumber (fun vs H Q E h => ?_) (fun cdv A outer s H vs Q E hr h => ?_)
  · obtain ⟨tp, B, rfl, _⟩ := h
    rfl
  · obtain ⟨tp, B, rfl, cl, hT, hB, k⟩ := h
    refine ⟨_, pss_cons (ps_set (i := 1) scNumber.nd rfl (Or.inl rfl) (pe_call GD hr rfl DD.m DD.F.kp DD.b .nil pass0 (pa_cons (pv 0) (pa_cons pe_int pa_nil))))
      (pss_cons (ps_set (i := 2) scNumber.nd rfl (Or.inl rfl) (pe_op op_sub (pe_call GD hr rfl DD.m DD.F.kp DD.b .nil pass0 (pa_cons (pv 0) (pa_cons pe_int pa_nil))) pe_int))
      (pss_cons (ps_if (pt_cmpR op_lt (pv 1) pe_int (nomark _)) (pss_one (ps_ret (pe_tupF (pa_cons (pv 2) (pa_cons pe_int pa_nil))))) pss_nil)
      (pss_cons (ps_if (pt_cmpR op_lt (pv 1) pe_int (nomark _)) (pss_one (ps_ret (pe_call GL hr rfl DL.m DL.F.kp DL.b .nil pass0 (pa_cons (pv 2) (pa_cons (pe_op op_add pe_int (pe_call GD hr rfl DD.m DD.F.kp DD.b .nil pass0 (pa_cons (pv 0) (pa_cons pe_int pa_nil)))) pa_nil))))) pss_nil)
      (pss_cons (ps_set (i := 3) scNumber.nd rfl (Or.inl rfl) (pe_op op_mul (pe_call GD hr rfl DD.m DD.F.kp DD.b .nil pass0 (pa_cons (pv 0) (pa_cons (pe_op op_pow pe_int pe_int) pa_nil))) (pe_op op_sub pe_int (pe_op op_mul pe_int (pe_call GD hr rfl DD.m DD.F.kp DD.b .nil pass0 (pa_cons (pv 0) (pa_cons pe_int pa_nil)))))))
      (pss_one (ps_ret (pe_call GL hr rfl DL.m DL.F.kp DL.b .nil pass0 (pa_cons (pv 3) (pa_cons (pe_op op_add pe_int (pe_call GD hr rfl DD.m DD.F.kp DD.b .nil pass0 (pa_cons (pv 0) (pa_cons pe_int pa_nil)))) pa_nil)))))))))
      , ?_⟩
    refine ⟨_, rfl, tp, 8, B, rfl, _, hT, by omega, by decide, by decide, fun way H1 w0 w1 T1 b1 => ?_⟩
    refine ⟨_, rfl, tp, 13, _, rfl, _, T1, by omega, by decide, by decide, fun top H2 t0 t1 T2 b2 => ⟨_, _, rfl, rfl, ?_⟩⟩
    have p10 : ∀ n : Int, 0 ≤ n → n ≤ 1000000 → CPow 10 n := fun n h0 h1 => ⟨h0, h1, by decide⟩
    -- a lowest pair, told
    have tell : ∀ (t b B' : Int) (H3 : Hp), 0 < b → t.natAbs < 2 ^ 40 → b.natAbs < 2 ^ 10 → Tape cl H3 tp B' → B' ≤ B + 6 → But tp H H3 → spLow [.int t, .int b] H3 Q E0 := by
      intro t b B' H3 hb ht hs T3 hB' b3
      refine ⟨t, b, rfl, by omega, .inl (abs_up hs (by decide)), fun p H4 n4 s4 e4 => ?_⟩
      refine k p _ _ H4 (low_fr hb ht hs) e4 (tape_ne T3 n4) (T3.mono s4 (by omega)) (b3.trans (But.of s4)) (fun c o hc hp => ?_)
      subst hp
      have := none_of_but b3 n4 (tape_ne T3 n4)
      rw [hc] at this
      cases this
    refine ⟨_, rfl, _, _, rfl, rfl, _, rfl, ?_⟩
    refine ite2 (fun _ => ?_) (fun _ => ?_)
    · refine ⟨_, rfl, (by show 2 ≤ sizeLine; decide), fun p H3 n3 s3 e3 => ?_⟩
      refine k p (top - 6) 1 H3 ⟨by decide, by simp, by omega, by decide⟩ e3 (tape_ne T2 n3) (T2.mono s3 (by omega)) ((b1.trans b2).trans (But.of s3)) (fun c o hc hp => ?_)
      subst hp
      have := none_of_but (b1.trans b2) n3 (tape_ne T2 n3)
      rw [hc] at this
      cases this
    · refine ⟨_, rfl, _, _, rfl, rfl, _, rfl, ?_⟩
      refine ite2 (fun _ => ?_) (fun _ => ?_)
      · refine ⟨_, rfl, _, rfl, tp, 5, _, rfl, _, T2, by omega, by decide, by decide, fun c H3 c0 c1 T3 b3 => ⟨_, _, rfl, rfl, ?_⟩⟩
        exact tell _ _ _ H3 (by omega) (by omega) (by omega) T3 (by omega) ((b1.trans b2).trans b3)
      · refine ⟨_, rfl, _, _, rfl, rfl, p10 12 (by decide) (by decide), tp, _, _, rfl, _, T2, by omega, by decide, by decide, fun g H3 g0 g1 T3 b3 => ?_⟩
        refine ⟨_, rfl, tp, 2, _, rfl, _, T3, by omega, by decide, by decide, fun r H4 r0 r1 T4 b4 => ?_⟩
        refine ⟨_, _, rfl, rfl, .inl ⟨by decide, by decide⟩, _, _, rfl, rfl, _, _, rfl, rfl, .inr ⟨by omega, by omega⟩, ?_⟩
        refine ⟨_, rfl, _, rfl, tp, 999, _, rfl, _, T4, by omega, by decide, by decide, fun c H5 c0 c1 T5 b5 => ⟨_, _, rfl, rfl, ?_⟩⟩
        have e12 : (10 : Int) ^ (12 : Int).toNat = 1000000000000 := by decide +kernel
        rw [e12] at g1
        have hr2 : r = 0 ∨ r = 1 := by omega
        refine tell _ _ _ H5 (by omega) ?_ (by omega) T5 (by omega) ((((b1.trans b2).trans b3).trans b4).trans b5)
        rcases hr2 with rfl | rfl
        · simp only [Int.mul_zero, Int.sub_zero, Int.mul_one]
          omega
        · rw [show (1 : Int) - 2 * 1 = -1 by decide, Int.mul_neg, Int.mul_one, Int.natAbs_neg]
          omega
end
end Lw

namespace LwQ
/-! ### fractions as rationals -/
def fv (t b : Int) : Rat := (t : Rat) / (b : Rat)
theorem cne {b : Int} (h : 0 < b) : (b : Rat) ≠ 0 := by
  intro z
  have : b = 0 := Rat.intCast_inj.mp (by rw [z]; rfl)
  omega
theorem fv_eq {t b o u : Int} (hb : 0 < b) (hu : 0 < u) (h : t * u = o * b) : fv t b = fv o u := by
  have h1 := cne hb
  have h2 := cne hu
  have h3 : (t : Rat) * (u : Rat) = (o : Rat) * (b : Rat) := by rw [← Rat.intCast_mul, ← Rat.intCast_mul, h]
  unfold fv
  grind
theorem fv_inj {t b o u : Int} (hb : 0 < b) (hu : 0 < u) (h : fv t b = fv o u) : t * u = o * b := by
  have h1 := cne hb
  have h2 := cne hu
  unfold fv at h
  have h3 : (t : Rat) * (u : Rat) = (o : Rat) * (b : Rat) := by grind
  rw [← Rat.intCast_mul, ← Rat.intCast_mul] at h3
  exact Rat.intCast_inj.mp h3
theorem fv_add {t b o u : Int} (hb : 0 < b) (hu : 0 < u) : fv (t * u + o * b) (b * u) = fv t b + fv o u := by
  have h1 := cne hb
  have h2 := cne hu
  unfold fv
  rw [Rat.intCast_add, Rat.intCast_mul, Rat.intCast_mul, Rat.intCast_mul]
  grind
theorem fv_mul {t b o u : Int} (hb : 0 < b) (hu : 0 < u) : fv (t * o) (b * u) = fv t b * fv o u := by
  have h1 := cne hb
  have h2 := cne hu
  unfold fv
  rw [Rat.intCast_mul, Rat.intCast_mul]
  grind
theorem fv_plus {t b o u t' b' : Int} (hb : 0 < b) (hu : 0 < u) (hb' : 0 < b') (h : t' * (b * u) = (t * u + o * b) * b') : fv t' b' = fv t b + fv o u := by
  rw [← fv_add hb hu]
  exact fv_eq hb' (Int.mul_pos hb hu) h
theorem fv_one (t : Int) : fv t 1 = (t : Rat) := by
  unfold fv
  have : ((1 : Int) : Rat) = 1 := rfl
  rw [this]
  grind
theorem fv_zero : fv 0 1 = 0 := by rw [fv_one]; rfl
theorem dvd_cop {b t u : Int} (g : Int.gcd t b = 1) (h : b ∣ t * u) : b ∣ u := by
  have h := Int.natAbs_dvd_natAbs.mpr h
  rw [Int.natAbs_mul] at h
  have c : Nat.Coprime b.natAbs t.natAbs := by
    have : Nat.gcd t.natAbs b.natAbs = 1 := g
    rw [Nat.gcd_comm] at this
    exact this
  exact Int.natAbs_dvd_natAbs.mp (c.dvd_of_dvd_mul_left h)
theorem low_uniq {t b o u : Int} (hb : 0 < b) (hu : 0 < u) (g1 : Int.gcd t b = 1) (g2 : Int.gcd o u = 1) (h : t * u = o * b) : t = o ∧ b = u := by
  have d1 : b ∣ u := by
    have : b ∣ t * u := ⟨o, by rw [h, Int.mul_comm]⟩
    exact dvd_cop g1 this
  have d2 : u ∣ b := by
    have : u ∣ o * b := ⟨t, by rw [← h, Int.mul_comm]⟩
    exact dvd_cop g2 this
  have e : b = u := Int.dvd_antisymm (by omega) (by omega) d1 d2
  subst e
  exact ⟨Int.eq_of_mul_eq_mul_right (by omega) h, rfl⟩
theorem fv_num (x : Rat) : fv x.num x.den = x := by
  unfold fv
  have := Rat.num_divInt_den x
  rw [Rat.divInt_eq_div] at this
  exact this
theorem num_low (x : Rat) : 0 < (x.den : Int) ∧ Int.gcd x.num x.den = 1 := ⟨by have := x.den_pos; omega, x.reduced⟩
theorem num_of {t b : Int} (hb : 0 < b) (g : Int.gcd t b = 1) : (fv t b).num = t ∧ ((fv t b).den : Int) = b := by
  have n := num_low (fv t b)
  have e := fv_inj n.1 hb (fv_num (fv t b))
  exact low_uniq n.1 hb n.2 g e
/-- x times D is whole -/
def Wh (D : Int) (x : Rat) : Prop := ∃ z : Int, x * (D : Rat) = (z : Rat)
theorem Wh.dvd {D t b : Int} (hb : 0 < b) (g : Int.gcd t b = 1) (h : Wh D (fv t b)) : b ∣ D := by
  obtain ⟨z, hz⟩ := h
  have h1 := cne hb
  have e : (t : Rat) * (D : Rat) = (z : Rat) * (b : Rat) := by unfold fv at hz; grind
  rw [← Rat.intCast_mul, ← Rat.intCast_mul] at e
  have e := Rat.intCast_inj.mp e
  have : b ∣ t * D := ⟨z, by rw [e, Int.mul_comm]⟩
  exact dvd_cop g this
theorem Wh.mul {D D' : Int} {x y : Rat} (h : Wh D x) (h' : Wh D' y) : Wh (D * D') (x * y) := by
  obtain ⟨z, e⟩ := h
  obtain ⟨z', e'⟩ := h'
  exact ⟨z * z', by rw [Rat.intCast_mul, Rat.intCast_mul]; grind⟩
theorem Wh.up {D : Int} {x : Rat} (h : Wh D x) (k : Int) : Wh (D * k) x := by
  obtain ⟨z, e⟩ := h
  exact ⟨z * k, by rw [Rat.intCast_mul, Rat.intCast_mul]; grind⟩
theorem Wh.add {D : Int} {x y : Rat} (h : Wh D x) (h' : Wh D y) : Wh D (x + y) := by
  obtain ⟨z, e⟩ := h
  obtain ⟨z', e'⟩ := h'
  exact ⟨z + z', by rw [Rat.intCast_add]; grind⟩
theorem Wh.sub {D : Int} {x y : Rat} (h : Wh D x) (h' : Wh D y) : Wh D (x - y) := by
  obtain ⟨z, e⟩ := h
  obtain ⟨z', e'⟩ := h'
  exact ⟨z - z', by rw [Rat.intCast_sub]; grind⟩
theorem Wh.zero (D : Int) : Wh D 0 := ⟨0, by rw [Rat.zero_mul]; rfl⟩
theorem Wh.of {t b : Int} (hb : 0 < b) : Wh b (fv t b) := ⟨t, by have h1 := cne hb; unfold fv; grind⟩
end LwQ

namespace Lw
open PySem PySem.Spec PyProof.Rows L2 LwQ
/-- one + other, not in lowest terms -/
def spPlus : Sp := fun vs H Q _ => ∃ (p q : Addr) (t b o u : Int), vs = [.ref p, .ref q] ∧ At2 H p t b ∧ At2 H q o u ∧ 0 < b ∧ 0 < u ∧ t.natAbs < 2 ^ 50000 ∧ b.natAbs < 2 ^ 50000 ∧ o.natAbs < 2 ^ 50000 ∧ u.natAbs < 2 ^ 8000 ∧
  ∀ (r : Addr) (t' b' : Int) (H' : Hp), H r = none → Same H H' → At2 H' r t' b' → 0 < b' → b'.natAbs ≤ b.natAbs * u.natAbs → t' * (b * u) = (t * u + o * b) * b' → Q (.ref r) H'
def spLMul : Sp := fun vs H Q _ => ∃ (p q : Addr) (t b o u : Int), vs = [.ref p, .ref q] ∧ At2 H p t b ∧ At2 H q o u ∧ t.natAbs < 2 ^ 50000 ∧ b.natAbs < 2 ^ 50000 ∧ o.natAbs < 2 ^ 50000 ∧ u.natAbs < 2 ^ 50000 ∧
  ∀ (r : Addr) (H' : Hp), H r = none → Same H H' → At2 H' r (t * o) (b * u) → Q (.ref r) H'
theorem mod_div {b u : Int} (h : decide (V.int (b % u) = V.int 0) = true) : b = u * (b / u) := by
  have e : b % u = 0 := by
    have := of_decide_eq_true h
    injection this
  have := Int.mul_ediv_add_emod b u
  omega
section
variable {P : Program} {w : World} {K : PySem.W.Frag} {mg : Str → Option Value} {base : Heap} {f fd : _}
theorem scPlus : FnScope ["one", "other", "top"] ["one", "other"] (defScope sPlus) := ⟨rfl, rfl, rfl, by decide +kernel, rfl, by decide +kernel, by decide +kernel⟩
theorem ok_plus (F : Fun K "_law_plus" "_law_plus" sPlus f fd) : FnOk P w K mg base CX0 1 f fd ["one", "other"] spPlus := by
  refine F.ok scPlus (fun vs H Q E h => ?_) (fun cdv A outer s H vs Q E hr h => ?_)
  · obtain ⟨p, q, t, b, o, u, rfl, _⟩ := h
    rfl
  · obtain ⟨p, q, t, b, o, u, rfl, hp, hq, hb, hu, st, sb, so, su, k⟩ := h
    refine ⟨_, pss_cons (ps_if (pt_cmpR op_eq (pe_op op_mod (pe_ix ix_tup (pv 0) pe_int (fun _ _ => rfl)) (pe_ix ix_tup (pv 1) pe_int (fun _ _ => rfl))) pe_int (nomark _))
        (pss_one (ps_ret (pe_tupF (pa_cons (pe_op op_add (pe_ix ix_tup (pv 0) pe_int (fun _ _ => rfl)) (pe_op op_mulL (pe_ix ix_tup (pv 1) pe_int (fun _ _ => rfl)) (pe_op op_fdivL (pe_ix ix_tup (pv 0) pe_int (fun _ _ => rfl)) (pe_ix ix_tup (pv 1) pe_int (fun _ _ => rfl))))) (pa_cons (pe_ix ix_tup (pv 0) pe_int (fun _ _ => rfl)) pa_nil))))) pss_nil)
      (pss_cons (ps_if (pt_cmpR op_eq (pe_op op_mod (pe_ix ix_tup (pv 1) pe_int (fun _ _ => rfl)) (pe_ix ix_tup (pv 0) pe_int (fun _ _ => rfl))) pe_int (nomark _))
        (pss_one (ps_ret (pe_tupF (pa_cons (pe_op op_add (pe_ix ix_tup (pv 1) pe_int (fun _ _ => rfl)) (pe_op op_mulL (pe_ix ix_tup (pv 0) pe_int (fun _ _ => rfl)) (pe_op op_fdivL (pe_ix ix_tup (pv 1) pe_int (fun _ _ => rfl)) (pe_ix ix_tup (pv 0) pe_int (fun _ _ => rfl))))) (pa_cons (pe_ix ix_tup (pv 1) pe_int (fun _ _ => rfl)) pa_nil))))) pss_nil)
      (pss_cons (ps_set (i := 2) scPlus.nd rfl (Or.inl rfl) (pe_op op_add (pe_op op_mulL (pe_ix ix_tup (pv 0) pe_int (fun _ _ => rfl)) (pe_ix ix_tup (pv 1) pe_int (fun _ _ => rfl))) (pe_op op_mulL (pe_ix ix_tup (pv 1) pe_int (fun _ _ => rfl)) (pe_ix ix_tup (pv 0) pe_int (fun _ _ => rfl)))))
      (pss_one (ps_ret (pe_tupF (pa_cons (pv 2) (pa_cons (pe_op op_mulL (pe_ix ix_tup (pv 0) pe_int (fun _ _ => rfl)) (pe_ix ix_tup (pv 1) pe_int (fun _ _ => rfl))) pa_nil))))))), ?_⟩
    have P := SqT.of (K := K) hp
    have R := SqT.of (K := K) hq
    have d1 : (b / u).natAbs < 2 ^ 100000 := abs_up (abs_div sb hu) (by decide)
    have d2 : (u / b).natAbs < 2 ^ 100000 := abs_up (abs_div su hb) (by decide)
    have st' : t.natAbs < 2 ^ 100000 := abs_up st (by decide)
    have sb' : b.natAbs < 2 ^ 100000 := abs_up sb (by decide)
    have so' : o.natAbs < 2 ^ 100000 := abs_up so (by decide)
    have su' : u.natAbs < 2 ^ 100000 := abs_up su (by decide)
    have lb : b.natAbs ≤ b.natAbs * u.natAbs := Nat.le_mul_of_pos_right _ (by omega)
    have lu : u.natAbs ≤ b.natAbs * u.natAbs := Nat.le_mul_of_pos_left _ (by omega)
    refine ⟨_, rfl, p, _, _, _, rfl, rfl, P, rfl, _, rfl, q, _, _, _, rfl, rfl, R, rfl, _, _, rfl, rfl, hu, rfl, _, rfl, ?_⟩
    refine ite2 (fun e => ?_) (fun _ => ?_)
    · refine ⟨_, rfl, p, _, _, _, rfl, rfl, P, rfl, _, rfl, q, _, _, _, rfl, rfl, R, rfl, _, rfl, p, _, _, _, rfl, rfl, P, rfl, _, rfl, q, _, _, _, rfl, rfl, R, rfl, _, _, rfl, rfl, ⟨hu, su⟩, _, _, rfl, rfl, ⟨so', d1⟩, _, _, rfl, rfl, _, rfl, p, _, _, _, rfl, rfl, P, rfl, (by show 2 ≤ sizeLine; decide), fun r H1 n1 s1 e1 => ?_⟩
      refine k r _ _ H1 n1 s1 e1 hb lb ?_
      have m := mod_div e
      generalize b / u = x at m
      subst m
      grind
    refine ⟨_, rfl, q, _, _, _, rfl, rfl, R, rfl, _, rfl, p, _, _, _, rfl, rfl, P, rfl, _, _, rfl, rfl, hb, rfl, _, rfl, ?_⟩
    refine ite2 (fun e => ?_) (fun _ => ?_)
    · have m := mod_div e
      have bu : b.natAbs < 2 ^ 8000 := by
        have : b ∣ u := ⟨_, m⟩
        have := Int.le_of_dvd hu this
        exact Nat.lt_of_le_of_lt (by omega) su
      refine ⟨_, rfl, q, _, _, _, rfl, rfl, R, rfl, _, rfl, p, _, _, _, rfl, rfl, P, rfl, _, rfl, q, _, _, _, rfl, rfl, R, rfl, _, rfl, p, _, _, _, rfl, rfl, P, rfl, _, _, rfl, rfl, ⟨hb, bu⟩, _, _, rfl, rfl, ⟨st', d2⟩, _, _, rfl, rfl, _, rfl, q, _, _, _, rfl, rfl, R, rfl, (by show 2 ≤ sizeLine; decide), fun r H1 n1 s1 e1 => ?_⟩
      refine k r _ _ H1 n1 s1 e1 hu lu ?_
      generalize u / b = x at m
      subst m
      grind
    · refine ⟨_, rfl, p, _, _, _, rfl, rfl, P, rfl, _, rfl, q, _, _, _, rfl, rfl, R, rfl, _, _, rfl, rfl, ⟨st', su'⟩, _, rfl, q, _, _, _, rfl, rfl, R, rfl, _, rfl, p, _, _, _, rfl, rfl, P, rfl, _, _, rfl, rfl, ⟨so', sb'⟩, _, _, rfl, rfl, ?_⟩
      refine ⟨_, rfl, _, rfl, p, _, _, _, rfl, rfl, P, rfl, _, rfl, q, _, _, _, rfl, rfl, R, rfl, _, _, rfl, rfl, ⟨sb', su'⟩, (by show 2 ≤ sizeLine; decide), fun r H1 n1 s1 e1 => ?_⟩
      exact k r _ _ H1 n1 s1 e1 (Int.mul_pos hb hu) (Nat.le_of_eq (Int.natAbs_mul _ _)) rfl
theorem scLMul : FnScope ["one", "other"] ["one", "other"] (defScope sLMul) := ⟨rfl, rfl, rfl, by decide +kernel, rfl, by decide +kernel, by decide +kernel⟩
theorem ok_lmul (F : Fun K "_law_mul" "_law_mul" sLMul f fd) : FnOk P w K mg base CX0 1 f fd ["one", "other"] spLMul := by
  refine F.ok scLMul (fun vs H Q E h => ?_) (fun cdv A outer s H vs Q E hr h => ?_)
  · obtain ⟨p, q, t, b, o, u, rfl, _⟩ := h
    rfl
  · obtain ⟨p, q, t, b, o, u, rfl, hp, hq, st, sb, so, su, k⟩ := h
    refine ⟨_, pss_one (ps_ret (pe_tupF (pa_cons (pe_op op_mulL (pe_ix ix_tup (pv 0) pe_int (fun _ _ => rfl)) (pe_ix ix_tup (pv 1) pe_int (fun _ _ => rfl))) (pa_cons (pe_op op_mulL (pe_ix ix_tup (pv 0) pe_int (fun _ _ => rfl)) (pe_ix ix_tup (pv 1) pe_int (fun _ _ => rfl))) pa_nil)))), ?_⟩
    have P := SqT.of (K := K) hp
    have R := SqT.of (K := K) hq
    refine ⟨_, rfl, p, _, _, _, rfl, rfl, P, rfl, _, rfl, q, _, _, _, rfl, rfl, R, rfl, _, _, rfl, rfl, ⟨abs_up st (by decide), abs_up so (by decide)⟩, _, rfl, p, _, _, _, rfl, rfl, P, rfl, _, rfl, q, _, _, _, rfl, rfl, R, rfl, _, _, rfl, rfl, ⟨abs_up sb (by decide), abs_up su (by decide)⟩, (by show 2 ≤ sizeLine; decide), fun r H1 n1 s1 e1 => ?_⟩
    exact k r H1 n1 s1 e1
theorem scLike : FnScope ["one", "other"] ["one", "other"] (defScope sLike) := ⟨rfl, rfl, rfl, by decide +kernel, rfl, by decide +kernel, by decide +kernel⟩
def spLike : Sp := fun vs H Q _ => ∃ (p q : Addr) (t b o u : Int), vs = [.ref p, .ref q] ∧ At2 H p t b ∧ At2 H q o u ∧ t.natAbs < 2 ^ 50000 ∧ b.natAbs < 2 ^ 50000 ∧ o.natAbs < 2 ^ 50000 ∧ u.natAbs < 2 ^ 50000 ∧ t * u = o * b ∧ Q (.bl true) H
theorem ok_like (F : Fun K "_law_like" "_law_like" sLike f fd) : FnOk P w K mg base CX0 1 f fd ["one", "other"] spLike := by
  refine F.ok scLike (fun vs H Q E h => ?_) (fun cdv A outer s H vs Q E hr h => ?_)
  · obtain ⟨p, q, t, b, o, u, rfl, _⟩ := h
    rfl
  · obtain ⟨p, q, t, b, o, u, rfl, hp, hq, st, sb, so, su, e, k⟩ := h
    refine ⟨_, pss_one (ps_ret (pe_cmpR op_eq (pe_op op_mulL (pe_ix ix_tup (pv 0) pe_int (fun _ _ => rfl)) (pe_ix ix_tup (pv 1) pe_int (fun _ _ => rfl))) (pe_op op_mulL (pe_ix ix_tup (pv 1) pe_int (fun _ _ => rfl)) (pe_ix ix_tup (pv 0) pe_int (fun _ _ => rfl))) (nomark _))), ?_⟩
    have P := SqT.of (K := K) hp
    have R := SqT.of (K := K) hq
    refine ⟨_, rfl, p, _, _, _, rfl, rfl, P, rfl, _, rfl, q, _, _, _, rfl, rfl, R, rfl, _, _, rfl, rfl, ⟨abs_up st (by decide), abs_up su (by decide)⟩, _, rfl, q, _, _, _, rfl, rfl, R, rfl, _, rfl, p, _, _, _, rfl, rfl, P, rfl, _, _, rfl, rfl, ⟨abs_up so (by decide), abs_up sb (by decide)⟩, rfl, ?_⟩
    have ee : decide ((fun i j => V.int (i * j)) t u = (fun i j => V.int (i * j)) o b) = true := decide_eq_true (by dsimp only; rw [e])
    rw [ee]
    exact k
end
end Lw

namespace Lw
open PySem PySem.Spec PyProof.Rows L2 LwQ
/-! ### the dict of a sum of one letter: what stands at each power, and how many bits it may have -/
/-- a power, where the number lies, its two numbers -/
structure Ent where
  n : Nat
  c : Addr
  t : Int
  b : Int
def Ent.kv (e : Ent) : List Key × V := (LwD.ik [(e.n : Int)], .ref e.c)
structure EntP (H : Hp) (c : Nat → Rat) (s : Nat → Nat) (e : Ent) : Prop where
  lt : e.n < 24
  at' : At2 H e.c e.t e.b
  pos : 0 < e.b
  nz : e.t ≠ 0
  val : fv e.t e.b = c e.n
  st : e.t.natAbs < 2 ^ s e.n
  sb : e.b.natAbs < 2 ^ s e.n
structure RepE (H : Hp) (E : List Ent) (c : Nat → Rat) (s : Nat → Nat) : Prop where
  nd : (E.map Ent.n).Nodup
  each : ∀ e ∈ E, EntP H c s e
  all : ∀ j, c j ≠ 0 → ∃ e ∈ E, e.n = j
theorem RepE.map {H H' : Hp} {E : List Ent} {c : Nat → Rat} {s : Nat → Nat} (h : RepE H E c s) (k : ∀ a xs, H a = some (.tup xs) → H' a = some (.tup xs)) : RepE H' E c s :=
  ⟨h.nd, fun e he => let x := h.each e he; ⟨x.lt, k _ _ x.at', x.pos, x.nz, x.val, x.st, x.sb⟩, h.all⟩
theorem fv_nz {t b : Int} (hb : 0 < b) (h : t ≠ 0) : fv t b ≠ 0 := by
  intro z
  rw [← fv_zero] at z
  have := fv_inj hb (by decide) z
  omega
theorem RepE.out {H : Hp} {E : List Ent} {c : Nat → Rat} {s : Nat → Nat} (h : RepE H E c s) {j : Nat} (hj : ∀ e ∈ E, e.n ≠ j) : c j = 0 := by
  by_cases z : c j = 0
  · exact z
  · obtain ⟨e, he, rfl⟩ := h.all j z
    exact absurd rfl (hj e he)
theorem nodup_lt : ∀ (m : Nat) {l : List Nat}, l.Nodup → (∀ x ∈ l, x < m) → l.length ≤ m
  | 0, l, _, k => by
    cases l with
    | nil => exact Nat.le_refl _
    | cons x r => exact absurd (k x (List.mem_cons_self ..)) (Nat.not_lt_zero _)
  | m + 1, l, h, k => by
    have := nodup_lt m (h.erase m) fun x hx => by
      have y := (List.Nodup.mem_erase_iff h).mp hx
      have := k x y.2
      have := y.1
      omega
    rw [List.length_erase] at this
    split at this <;> omega
theorem RepE.few {H : Hp} {E : List Ent} {c : Nat → Rat} {s : Nat → Nat} (h : RepE H E c s) : E.length ≤ 24 := by
  have := nodup_lt 24 h.nd fun x hx => by
    obtain ⟨e, he, rfl⟩ := List.mem_map.mp hx
    exact (h.each e he).lt
  rwa [List.length_map] at this
theorem plus_bits {t b o u t' b' : Int} {k m : Nat} (hb : 0 < b) (hu : 0 < u) (h1 : t.natAbs < 2 ^ k) (h2 : b.natAbs < 2 ^ k) (h3 : o.natAbs < 2 ^ m) (h4 : u.natAbs < 2 ^ m) (lb : b'.natAbs ≤ b.natAbs * u.natAbs) (eq : t' * (b * u) = (t * u + o * b) * b') :
    t'.natAbs < 2 ^ (k + m + 1) ∧ b'.natAbs < 2 ^ (k + m + 1) := by
  have hbu : (b * u).natAbs < 2 ^ (k + m) := abs_mul h2 h4
  constructor
  · have e1 := congrArg Int.natAbs eq
    rw [Int.natAbs_mul t', Int.natAbs_mul (t * u + o * b)] at e1
    have h5 : (t * u + o * b).natAbs < 2 ^ (k + m + 1) := by
      refine abs_add (abs_mul h1 h4) ?_
      rw [Nat.add_comm k m]
      exact abs_mul h3 h2
    have h6 : 0 < (b * u).natAbs := by have := Int.mul_pos hb hu; omega
    have h7 : t'.natAbs * (b * u).natAbs ≤ (t * u + o * b).natAbs * (b * u).natAbs := by
      rw [e1]
      refine Nat.mul_le_mul_left _ ?_
      rw [Int.natAbs_mul]
      exact lb
    exact Nat.lt_of_le_of_lt (Nat.le_of_mul_le_mul_right h7 h6) h5
  · rw [← Int.natAbs_mul] at lb
    exact Nat.lt_of_le_of_lt lb (Nat.lt_of_lt_of_le hbu (Nat.pow_le_pow_right (by decide) (Nat.le_succ _)))
theorem ik_inj {ns ms : List Int} (h : LwD.ik ns = LwD.ik ms) : ns = ms := by
  have := congrArg (List.map kV) h
  rw [LwD.ik_map, LwD.ik_map] at this
  exact (List.map_inj_right (f := V.int) (fun a b e => by injection e)).mp this
section
variable {k : List Key} {v v0 : V} {L R l : List (List Key × V)}
theorem val_out (h : ∀ p ∈ l, p.1 ≠ k) : valV l k = none := by
  unfold valV
  rw [List.find?_eq_none.mpr fun p hp => by simp [h p hp]]
  rfl
theorem val_mid (h : ∀ p ∈ L, p.1 ≠ k) : valV (L ++ (k, v) :: R) k = some v := by
  unfold valV
  rw [List.find?_append, List.find?_eq_none.mpr fun p hp => by simp [h p hp]]
  simp
theorem put_out (h : ∀ p ∈ l, p.1 ≠ k) : putK l k v = l ++ [(k, v)] := by
  unfold putK
  rw [if_neg]
  intro z
  obtain ⟨p, hp, e⟩ := List.any_eq_true.mp z
  exact h p hp (of_decide_eq_true e)
theorem map_out (h : ∀ p ∈ l, p.1 ≠ k) : l.map (fun kv => if kv.1 = k then (kv.1, v) else kv) = l := by
  conv => rhs; rw [← List.map_id l]
  exact List.map_congr_left fun p hp => by rw [if_neg (h p hp)]; rfl
theorem put_mid (h1 : ∀ p ∈ L, p.1 ≠ k) (h2 : ∀ p ∈ R, p.1 ≠ k) : putK (L ++ (k, v0) :: R) k v = L ++ (k, v) :: R := by
  unfold putK
  rw [if_pos (by simp), List.map_append, List.map_cons, map_out h1, map_out h2]
  simp
theorem drop_mid (h1 : ∀ p ∈ L, p.1 ≠ k) (h2 : ∀ p ∈ R, p.1 ≠ k) : dropK (L ++ (k, v0) :: R) k = L ++ R := by
  unfold dropK
  rw [List.filter_append, List.filter_cons, List.filter_eq_self.mpr (fun p hp => decide_eq_true (h1 p hp)), List.filter_eq_self.mpr (fun p hp => decide_eq_true (h2 p hp))]
  simp
end
theorem key_ne {E : List Ent} {n : Nat} (h : n ∉ E.map Ent.n) : ∀ p ∈ E.map Ent.kv, p.1 ≠ LwD.ik [(n : Int)] := by
  intro p hp z
  obtain ⟨e, he, rfl⟩ := List.mem_map.mp hp
  have := ik_inj z
  refine h (List.mem_map.mpr ⟨e, he, ?_⟩)
  have : (e.n : Int) = n := by simpa using this
  omega
/-- the dict at d holds c -/
def DictP (H : Hp) (d : Addr) (c : Nat → Rat) (s : Nat → Nat) : Prop := ∃ E, H d = some (.dT (E.map Ent.kv)) ∧ RepE H E c s
def bump (c : Nat → Rat) (n : Nat) (x : Rat) : Nat → Rat := fun j => c j + if j = n then x else 0
def bumpN (s : Nat → Nat) (n m : Nat) : Nat → Nat := fun j => s j + if j = n then m else 0
def spPut : Sp := fun vs H Q _ => ∃ (d b q : Addr) (n m : Nat) (o u : Int) (c : Nat → Rat) (s : Nat → Nat), vs = [.ref d, .ref b, .ref q] ∧ DictP H d c s ∧ H b = some (.tup [.int n]) ∧ n < 24 ∧ At2 H q o u ∧ 0 < u ∧ o.natAbs < 2 ^ m ∧ u.natAbs < 2 ^ m ∧ m ≤ 8000 ∧ s n ≤ 50000 ∧
  ∀ (H' : Hp), But d H H' → DictP H' d (bump c n (fv o u)) (bumpN s n (m + 1)) → Q .non H'
section
variable {P : Program} {w : World} {K : PySem.W.Frag} {mg : Str → Option Value} {base : Heap} {f fd : _}
theorem scPut : FnScope ["found", "powers", "number", "some"] ["found", "powers", "number"] (defScope sPut) := ⟨rfl, rfl, rfl, by decide +kernel, rfl, by decide +kernel, by decide +kernel⟩
theorem ent_up {H H' : Hp} {c : Nat → Rat} {s : Nat → Nat} {e : Ent} {n m : Nat} {x : Rat} (h : EntP H c s e) (ne : e.n ≠ n) (k : ∀ a xs, H a = some (.tup xs) → H' a = some (.tup xs)) : EntP H' (bump c n x) (bumpN s n m) e := by
  refine ⟨h.lt, k _ _ h.at', h.pos, h.nz, ?_, ?_, ?_⟩
  · rw [h.val]; unfold bump; rw [if_neg ne, Rat.add_zero]
  · unfold bumpN; rw [if_neg ne, Nat.add_zero]; exact h.st
  · unfold bumpN; rw [if_neg ne, Nat.add_zero]; exact h.sb
theorem ok_put {fP : Addr} {fdP : FuncData} (F : Fun K "_law_put" "_law_put" sPut f fd) (DP : Df K mg "_law_plus" sPlus ["one", "other"] fP fdP) : FnOk P w K mg base CX0 2 f fd ["found", "powers", "number"] spPut := by
  have GP : FnOk P w K mg base CX0 1 fP fdP ["one", "other"] spPlus := ok_plus DP.F
  refine F.ok scPut (fun vs H Q E h => ?_) (fun cdv A outer s H vs Q E hr h => ?_)
  · obtain ⟨d, b, q, n, m, o, u, c, sz, rfl, _⟩ := h
    rfl
  · obtain ⟨d, b, q, n, m, o, u, c, sz, rfl, ⟨EE, hd, hD⟩, hb, hn, hq, pu, ho, hu', hm, hs, go⟩ := h
    have hu : _ + 1 < cLine := Nat.lt_of_le_of_lt (Nat.add_le_add_left (by decide : 1 ≤ 64) _) hr.units
    refine ⟨_, pss_cons (ps_set (i := 3) scPut.nd rfl (Or.inl rfl) (pe_call GP hr rfl DP.m DP.F.kp DP.b .nil pass0 (pa_cons (pe_dget2 hu (pv 0) (pv 1) (pe_tupF (pa_cons pe_int (pa_cons pe_int pa_nil))) ⟨rfl, rfl, rfl, rfl⟩) (pa_cons (pv 2) pa_nil))))
      (pss_one (ps_if (pt_cmpR op_ne (pe_ix ix_tup (pv 3) pe_int (fun _ _ => rfl)) pe_int (nomark _)) (pss_one (ps_dput hu (pv 0) (pv 1) (pv 3) rfl))
        (pss_one (ps_if (pt_cmp (pc_din hu (pv 1) (pv 0))) (pss_one (ps_expr (LwD.pe_dpopT hu (pv 0) (pv 1) ⟨rfl, rfl, rfl, rfl⟩))) pss_nil)))), ?_⟩
    have hb' : H b = some (.tup ((LwD.ik [(n : Int)]).map kV)) := by rw [LwD.ik_map]; exact hb
    have few := hD.few
    have kz : (EE.map Ent.kv).length < sizeLine := by rw [List.length_map]; exact Nat.lt_of_le_of_lt few (by decide)
    refine ⟨_, rfl, d, rfl, .inr ⟨_, .inl hd⟩, _, rfl, (by show 2 ≤ sizeLine; decide), fun z H1 n1 s1 e1 => ⟨valV (EE.map Ent.kv) (LwD.ik [(n : Int)]), DGet.t (s1 _ _ hd) (s1 _ _ hb'), _, rfl, ?_⟩⟩
    -- behind the sum
    have fin : ∀ (L R : List Ent) (H2 : Hp) (r : Addr) (t' b' : Int), Same H H2 → H1 r = none → At2 H2 r t' b' → 0 < b' → fv t' b' = c n + fv o u → t'.natAbs < 2 ^ (sz n + m + 1) → b'.natAbs < 2 ^ (sz n + m + 1) → n ∉ L.map Ent.n → n ∉ R.map Ent.n → ((L ++ R).map Ent.n).Nodup → (∀ e ∈ L ++ R, EntP H c sz e) → (∀ j, c j ≠ 0 → j ≠ n → ∃ e ∈ L ++ R, e.n = j) →
        (t' ≠ 0 → DictP (upd H2 d (.dT (L.map Ent.kv ++ (LwD.ik [(n : Int)], V.ref r) :: R.map Ent.kv))) d (bump c n (fv o u)) (bumpN sz n (m + 1))) ∧ (t' = 0 → ∀ H3, (∀ a xs, H a = some (.tup xs) → H3 a = some (.tup xs)) → H3 d = some (.dT ((L ++ R).map Ent.kv)) → DictP H3 d (bump c n (fv o u)) (bumpN sz n (m + 1))) := by
      intro L R H2 r t' b' s12 n2 e2 pb ev st sb nL nR nd each all
      have rd : r ≠ d := fun zz => by rw [zz, s1 _ _ hd] at n2; cases n2
      have tu : ∀ (o : HO) a xs, H a = some (.tup xs) → upd H2 d o a = some (.tup xs) := fun o a xs ea => by
        rw [upd_ne (fun y => by rw [y, hd] at ea; cases ea)]
        exact s12 _ _ ea
      have ne : ∀ e ∈ L ++ R, e.n ≠ n := fun e he z => (List.mem_append.mp he).elim (fun y => nL (List.mem_map.mpr ⟨e, y, z⟩)) (fun y => nR (List.mem_map.mpr ⟨e, y, z⟩))
      refine ⟨fun tz => ⟨L ++ ⟨n, r, t', b'⟩ :: R, ?_, ?_, fun e he => ?_, fun j hj => ?_⟩, fun tz H3 tu3 hd3 => ⟨L ++ R, hd3, nd, fun e he => ?_, fun j hj => ?_⟩⟩
      · rw [upd_same, List.map_append, List.map_cons]
        rfl
      · rw [List.map_append, List.map_cons]
        rw [List.map_append, List.nodup_append] at nd
        rw [List.nodup_append]
        refine ⟨nd.1, List.nodup_cons.mpr ⟨nR, nd.2.1⟩, fun a ha b hb => ?_⟩
        rcases List.mem_cons.mp hb with rfl | hb
        · rintro rfl; exact nL ha
        · exact nd.2.2 a ha b hb
      · rcases List.mem_append.mp he with he | he
        · exact ent_up (each e (List.mem_append_left _ he)) (ne e (List.mem_append_left _ he)) (tu _)
        · rcases List.mem_cons.mp he with rfl | he
          · refine ⟨hn, by show At2 _ r t' b'; rw [At2, upd_ne rd]; exact e2, pb, tz, ?_, ?_, ?_⟩
            · show fv t' b' = bump c n (fv o u) n
              unfold bump
              rw [if_pos rfl]
              exact ev
            · show t'.natAbs < 2 ^ bumpN sz n (m + 1) n
              unfold bumpN
              rw [if_pos rfl]
              exact st
            · show b'.natAbs < 2 ^ bumpN sz n (m + 1) n
              unfold bumpN
              rw [if_pos rfl]
              exact sb
          · exact ent_up (each e (List.mem_append_right _ he)) (ne e (List.mem_append_right _ he)) (tu _)
      · by_cases jn : j = n
        · exact ⟨⟨n, r, t', b'⟩, by simp, jn.symm⟩
        · unfold bump at hj
          rw [if_neg jn, Rat.add_zero] at hj
          obtain ⟨e, he, ee⟩ := all j hj jn
          refine ⟨e, ?_, ee⟩
          rcases List.mem_append.mp he with he | he
          · exact List.mem_append_left _ he
          · exact List.mem_append_right _ (List.mem_cons_of_mem _ he)
      · exact ent_up (each e he) (ne e he) tu3
      · by_cases jn : j = n
        · subst jn
          refine absurd ?_ hj
          unfold bump
          rw [if_pos rfl, ← ev, tz]
          exact fv_eq pb (by decide) (by simp) |>.trans fv_zero
        · unfold bump at hj
          rw [if_neg jn, Rat.add_zero] at hj
          exact all j hj jn
    by_cases hin : n ∈ EE.map Ent.n
    · obtain ⟨e, he, en⟩ := List.mem_map.mp hin
      obtain ⟨L, R, eE⟩ := List.append_of_mem he
      have hE := hD.each e he
      have nd := hD.nd
      rw [eE, List.map_append, List.map_cons] at nd
      have nL : n ∉ L.map Ent.n := fun y => by
        rw [← en] at y
        exact (List.nodup_append.mp nd).2.2 _ y _ (List.mem_cons_self ..) rfl
      have nR : n ∉ R.map Ent.n := fun y => by
        rw [← en] at y
        exact (List.nodup_cons.mp (List.nodup_append.mp nd).2.1).1 y
      have km : EE.map Ent.kv = L.map Ent.kv ++ (LwD.ik [(n : Int)], V.ref e.c) :: R.map Ent.kv := by
        rw [eE, List.map_append, List.map_cons, ← en]
        rfl
      have ev : valV (EE.map Ent.kv) (LwD.ik [(n : Int)]) = some (.ref e.c) := by rw [km]; exact val_mid (key_ne nL)
      rw [ev]
      have est := hE.st
      have esb := hE.sb
      rw [en] at est esb
      refine ⟨e.c, q, e.t, e.b, o, u, rfl, s1 _ _ hE.at', s1 _ _ hq, hE.pos, pu, abs_up est hs, abs_up esb hs, abs_up ho (by omega), abs_up hu' hm, fun r t' b' H2 n2 s2 e2 pb lb eq => ?_⟩
      have s12 : Same H H2 := s1.trans s2
      have hd2 : H2 d = some (.dT (EE.map Ent.kv)) := s12 _ _ hd
      have hb2 : H2 b = some (.tup ((LwD.ik [(n : Int)]).map kV)) := s12 _ _ hb'
      have bd : ∀ o, But d H (upd H2 d o) := fun o x y hx hn => by
        rw [upd_ne hn]
        exact s12 _ _ hx
      have bits := plus_bits hE.pos pu est esb ho hu' lb eq
      have fv1 : fv t' b' = c n + fv o u := by rw [fv_plus hE.pos pu pb eq, hE.val, en]
      have ndL : ((L ++ R).map Ent.n).Nodup := by
        rw [List.map_append]
        rw [List.nodup_append] at nd ⊢
        exact ⟨nd.1, (List.nodup_cons.mp nd.2.1).2, fun a ha b hb => nd.2.2 a ha b (List.mem_cons_of_mem _ hb)⟩
      have sub : ∀ x ∈ L ++ R, x ∈ EE := fun x hx => by
        rw [eE]
        rcases List.mem_append.mp hx with hx | hx
        · exact List.mem_append_left _ hx
        · exact List.mem_append_right _ (List.mem_cons_of_mem _ hx)
      have ff := fin L R H2 r t' b' s12 n2 e2 pb fv1 bits.1 bits.2 nL nR ndL (fun x hx => hD.each x (sub x hx)) (fun j hj jn => by
        obtain ⟨x, hx, ex⟩ := hD.all j hj
        refine ⟨x, ?_, ex⟩
        rw [eE] at hx
        rcases List.mem_append.mp hx with hx | hx
        · exact List.mem_append_left _ hx
        · rcases List.mem_cons.mp hx with rfl | hx
          · exact absurd (ex.symm.trans en) jn
          · exact List.mem_append_right _ hx)
      refine ⟨_, rfl, r, _, _, _, rfl, rfl, SqT.of e2, rfl, rfl, _, rfl, ?_⟩
      refine ite2 (fun nz => ?_) (fun z0 => ?_)
      · refine ⟨_, rfl, _, rfl, _, rfl, d, _, rfl, DPut.t (k := LwD.ik [(n : Int)]) hd2 hb2 kz, ?_⟩
        have tz : t' ≠ 0 := fun y => by rw [y] at nz; simp at nz
        refine go _ (bd _) ?_
        have := ff.1 tz
        rw [km, put_mid (key_ne nL) (key_ne nR)]
        exact this
      · have tz : t' = 0 := by
          by_cases y : t' = 0
          · exact y
          · exact absurd (by simp [y]) z0
        refine ⟨_, rfl, _, rfl, d, _, rfl, DGet.t (k := LwD.ik [(n : Int)]) hd2 hb2, _, rfl, ?_⟩
        rw [ev]
        refine iteT ⟨_, rfl, d, rfl, .inr ⟨_, .inl hd2⟩, _, rfl, _, LwD.ik [(n : Int)], _, b, hd2, rfl, hb2, ev, ?_⟩
        refine go _ (bd _) (ff.2 tz _ (fun a xs ea => ?_) ?_)
        · rw [upd_ne (fun y => by rw [y, hd] at ea; cases ea)]
          exact s12 _ _ ea
        · rw [upd_same, km, drop_mid (key_ne nL) (key_ne nR), List.map_append]
    · have ev : valV (EE.map Ent.kv) (LwD.ik [(n : Int)]) = none := val_out (key_ne hin)
      rw [ev]
      have c0 : c n = 0 := hD.out fun e he z => hin (List.mem_map.mpr ⟨e, he, z⟩)
      refine ⟨z, q, 0, 1, o, u, rfl, e1, s1 _ _ hq, by decide, pu, by show 0 < _; exact Nat.pow_pos (by decide), by show 1 < _; exact Nat.one_lt_pow (by decide) (by decide), abs_up ho (by omega), abs_up hu' hm, fun r t' b' H2 n2 s2 e2 pb lb eq => ?_⟩
      have s12 : Same H H2 := s1.trans s2
      have hd2 : H2 d = some (.dT (EE.map Ent.kv)) := s12 _ _ hd
      have hb2 : H2 b = some (.tup ((LwD.ik [(n : Int)]).map kV)) := s12 _ _ hb'
      have bd : ∀ o, But d H (upd H2 d o) := fun o x y hx hn => by
        rw [upd_ne hn]
        exact s12 _ _ hx
      have fv1 : fv t' b' = c n + fv o u := by rw [fv_plus (by decide) pu pb eq, fv_zero, c0]
      have bits : t'.natAbs < 2 ^ (sz n + m + 1) ∧ b'.natAbs < 2 ^ (sz n + m + 1) := by
        have hb1 : b'.natAbs ≤ u.natAbs := by simpa using lb
        have eq1 : t' * u = o * b' := by simpa using eq
        have e3 := congrArg Int.natAbs eq1
        rw [Int.natAbs_mul, Int.natAbs_mul] at e3
        have h6 : 0 < u.natAbs := by omega
        have h7 : t'.natAbs ≤ o.natAbs := Nat.le_of_mul_le_mul_right (by rw [e3]; exact Nat.mul_le_mul_left _ hb1) h6
        have up : (2 : Nat) ^ m ≤ 2 ^ (sz n + m + 1) := Nat.pow_le_pow_right (by decide) (by omega)
        exact ⟨Nat.lt_of_le_of_lt h7 (Nat.lt_of_lt_of_le ho up), Nat.lt_of_le_of_lt hb1 (Nat.lt_of_lt_of_le hu' up)⟩
      have ff := fin EE [] H2 r t' b' s12 n2 e2 pb fv1 bits.1 bits.2 hin (by simp) (by rw [List.append_nil]; exact hD.nd) (fun x hx => hD.each x (by simpa using hx)) (fun j hj _ => by rw [List.append_nil]; exact hD.all j hj)
      refine ⟨_, rfl, r, _, _, _, rfl, rfl, SqT.of e2, rfl, rfl, _, rfl, ?_⟩
      refine ite2 (fun nz => ?_) (fun z0 => ?_)
      · refine ⟨_, rfl, _, rfl, _, rfl, d, _, rfl, DPut.t (k := LwD.ik [(n : Int)]) hd2 hb2 kz, ?_⟩
        have tz : t' ≠ 0 := fun y => by rw [y] at nz; simp at nz
        refine go _ (bd _) ?_
        have := ff.1 tz
        rw [put_out (key_ne hin)]
        exact this
      · have tz : t' = 0 := by
          by_cases y : t' = 0
          · exact y
          · exact absurd (by simp [y]) z0
        refine ⟨_, rfl, _, rfl, d, _, rfl, DGet.t (k := LwD.ik [(n : Int)]) hd2 hb2, _, rfl, ?_⟩
        rw [ev]
        refine iteF ?_
        refine go H2 (But.of s12) (ff.2 tz H2 (fun a xs ea => s12 _ _ ea) ?_)
        rw [List.append_nil]
        exact hd2
end
end Lw

namespace Lw
open PySem PySem.Spec PyProof.Rows L2 LwQ
theorem Tape.ne {cl : Addr} {H : Hp} {tp : Addr} {B : Int} (T : Tape cl H tp B) {d : Addr} {o : HO} (e : H d = some o) (ho : ∀ xs, o ≠ .lst xs) : d ≠ tp ∧ d ≠ cl := by
  obtain ⟨ns, spot, rest, left, h1, h2, _⟩ := T
  refine ⟨fun z => ?_, fun z => ?_⟩
  · rw [z, h1] at e; cases e; exact ho _ rfl
  · rw [z, h2] at e; cases e; exact ho _ rfl
theorem Tape.off {cl : Addr} {H : Hp} {tp : Addr} {B : Int} (T : Tape cl H tp B) {d : Addr} (e : H d = none) : d ≠ tp ∧ d ≠ cl := by
  obtain ⟨ns, spot, rest, left, h1, h2, _⟩ := T
  refine ⟨fun z => ?_, fun z => ?_⟩
  · rw [z, h1] at e; cases e
  · rw [z, h2] at e; cases e
theorem Tape.upd {cl : Addr} {H : Hp} {tp : Addr} {B B' : Int} (T : Tape cl H tp B) {l : Addr} (o : HO) (h1 : l ≠ tp) (h2 : l ≠ cl) (hB : B ≤ B') : Tape cl (upd H l o) tp B' := by
  obtain ⟨ns, spot, rest, left, e1, e2, e3, e4, e5⟩ := T
  exact ⟨ns, spot, rest, left, by rw [upd_ne (Ne.symm h1)]; exact e1, by rw [upd_ne (Ne.symm h2)]; exact e2, e3, e4, by omega⟩
theorem but_put {p l : Addr} {H H' : Hp} {o : HO} (b : But p H H') (n : H l = none) : But p H (upd H' l o) := fun c u h hc => by
  rw [upd_ne (ne_of_none h n)]
  exact b c u h hc
theorem DictP.map {H H' : Hp} {d : Addr} {c : Nat → Rat} {s : Nat → Nat} (h : DictP H d c s) (hd : ∀ kvs, H d = some (.dT kvs) → H' d = some (.dT kvs)) (hc : ∀ a xs, H a = some (.tup xs) → H' a = some (.tup xs)) : DictP H' d c s := by
  obtain ⟨E, e, r⟩ := h
  exact ⟨E, hd _ e, r.map hc⟩
theorem DictP.same {H H' : Hp} {d : Addr} {c : Nat → Rat} {z : Nat → Nat} (h : DictP H d c z) (s : Same H H') : DictP H' d c z := h.map (fun _ e => s _ _ e) fun _ _ e => s _ _ e
theorem DictP.but {cl : Addr} {H H' : Hp} {tp : Addr} {B : Int} {d : Addr} {c : Nat → Rat} {z : Nat → Nat} (h : DictP H d c z) (T : Tape cl H tp B) (b : But tp H H') : DictP H' d c z :=
  h.map (fun _ e => b _ _ e (T.ne e (fun _ z => by cases z)).1) fun _ _ e => b _ _ e (T.ne e (fun _ z => by cases z)).1
/-- drawn numbers at the powers below m -/
def Drawn (c : Nat → Rat) (m : Nat) : Prop := (∀ j, m ≤ j → c j = 0) ∧ ∀ j, ∃ t u : Int, 0 < u ∧ t.natAbs < 2 ^ 40 ∧ u.natAbs < 2 ^ 10 ∧ c j = fv t u
theorem drawn_nil : Drawn (fun _ => 0) 0 := ⟨fun _ _ => rfl, fun _ => ⟨0, 1, by decide, by decide, by decide, fv_zero.symm⟩⟩
theorem rep_nil {H : Hp} (s : Nat → Nat) : RepE H [] (fun _ => 0) s := ⟨List.nodup_nil, (fun _ h => nomatch h), fun _ h => absurd rfl h⟩
theorem rep_new {H H' : Hp} {E : List Ent} {c : Nat → Rat} {s : Nat → Nat} (h : RepE H E c s) {n : Nat} {r : Addr} {t b : Int} (hn : n < 24) (c0 : ∀ e ∈ E, e.n ≠ n) (k : ∀ a xs, H a = some (.tup xs) → H' a = some (.tup xs)) (at' : At2 H' r t b) (pos : 0 < b) (nz : t ≠ 0) (st : t.natAbs < 2 ^ s n) (sb : b.natAbs < 2 ^ s n) :
    RepE H' (E ++ [⟨n, r, t, b⟩]) (bump c n (fv t b)) s := by
  have cz : c n = 0 := h.out c0
  refine ⟨?_, fun e he => ?_, fun j hj => ?_⟩
  · rw [List.map_append, List.nodup_append]
    refine ⟨h.nd, by simp, fun a ha b hb => ?_⟩
    have hb : b = n := by simpa using hb
    obtain ⟨e, he, rfl⟩ := List.mem_map.mp ha
    rw [hb]
    exact c0 e he
  · rcases List.mem_append.mp he with he | he
    · have x := h.each e he
      refine ⟨x.lt, k _ _ x.at', x.pos, x.nz, ?_, x.st, x.sb⟩
      rw [x.val]; unfold bump; rw [if_neg (c0 e he), Rat.add_zero]
    · rw [List.mem_singleton] at he
      subst he
      refine ⟨hn, at', pos, nz, ?_, st, sb⟩
      show fv t b = bump c n (fv t b) n
      unfold bump
      rw [if_pos rfl, cz, Rat.zero_add]
  · by_cases jn : j = n
    · exact ⟨⟨n, r, t, b⟩, by simp, jn.symm⟩
    · unfold bump at hj
      rw [if_neg jn, Rat.add_zero] at hj
      obtain ⟨e, he, ee⟩ := h.all j hj
      exact ⟨e, List.mem_append_left _ he, ee⟩
def spPoly : Sp := fun vs H Q _ => ∃ (tp : Addr) (most : Nat) (B : Int), vs = [.ref tp, .int most] ∧ most ≤ 10 ∧ ∃ cl, Tape cl H tp B ∧ B < 2 ^ 30 ∧
  ∀ (d : Addr) (c : Nat → Rat) (H' : Hp), H d = none → But tp H H' → Tape cl H' tp (B + 200) → DictP H' d c (fun _ => 40) → Drawn c (most + 1) → Q (.ref d) H'
section
variable {P : Program} {w : World} {K : PySem.W.Frag} {mg : Str → Option Value} {base : Heap} {f fd : _}
theorem scPoly : FnScope ["tape", "most", "found", "power", "number"] ["tape", "most"] (defScope sPoly) := ⟨rfl, rfl, rfl, by decide +kernel, rfl, by decide +kernel, by decide +kernel⟩
theorem ok_poly {fD fL fN : Addr} {fdD fdL fdN : FuncData} (F : Fun K "_law_poly" "_law_poly" sPoly f fd) (T : Txt mg) (DD : Df K mg "_law_draw" sDraw ["tape", "many"] fD fdD) (DL : Df K mg "_law_low" sLow ["top", "bottom"] fL fdL) (DN : Df K mg "_law_number" sNumber ["tape"] fN fdN) : FnOk P w K mg base CX0 3 f fd ["tape", "most"] spPoly := by
  have GD : FnOk P w K mg base CX0 1 fD fdD ["tape", "many"] spDraw := ok_draw DD.F T
  have GN : FnOk P w K mg base CX0 2 fN fdN ["tape"] (spDrawn 6 (2 ^ 38)) := ok_number DN.F T DD DL
  refine F.ok scPoly (fun vs H Q E h => ?_) (fun cdv A outer s H vs Q E hr h => ?_)
  · obtain ⟨tp, most, B, rfl, _⟩ := h
    rfl
  · obtain ⟨tp, most, B, rfl, m10, cl, hT, hB, go⟩ := h
    have hr1 : Room 1 _ := hr.mono (by decide)
    have hr2 : Room 2 _ := hr.mono (by decide)
    have hu : _ + 1 < cLine := Nat.lt_of_le_of_lt (Nat.add_le_add_left (by decide : 1 ≤ 64) _) hr.units
    refine ⟨_, pss_cons (ps_set (i := 2) scPoly.nd rfl (Or.inl rfl) (pe_dnewT))
      (pss_cons (ps_for PassesOwn.never rfl (pi_range1 (by rfl) T.rng (pa_cons (pe_call GD hr1 rfl DD.m DD.F.kp DD.b .nil pass0 (pa_cons (pv 0) (pa_cons (pe_op op_add (pv 1) pe_int) pa_nil))) pa_nil)) (pg_name (i := 3) scPoly.nd rfl (Or.inl rfl))
        (pss_cons (ps_set (i := 4) scPoly.nd rfl (Or.inl rfl) (pe_call GN hr2 rfl DN.m DN.F.kp DN.b .nil pass0 (pa_cons (pv 0) pa_nil)))
          (pss_one (ps_if (PW.pt (pw_and (pt_cmpR op_gt (pe_call GD hr1 rfl DD.m DD.F.kp DD.b .nil pass0 (pa_cons (pv 0) (pa_cons pe_int pa_nil))) pe_int (nomark _)) (pw_and1 (pt_cmpR op_ne (pe_ix ix_tup (pv 4) pe_int (fun _ _ => rfl)) pe_int (nomark _)))))
            (pss_one (ps_dput hu (pv 2) (pe_tupF (pa_cons (pv 3) pa_nil)) (pv 4) rfl)) pss_nil))))
      (pss_one (ps_ret (pv 2)))), ?_⟩
    intro d nd
    have T0 : Tape cl (upd H d (.dT [])) tp B := hT.upd _ (hT.off nd).1 (hT.off nd).2 (Int.le_refl _)
    refine ⟨_, rfl, _, rfl, _, _, rfl, rfl, tp, _, B, rfl, cl, T0, by omega, by omega, by omega, fun n H1 c0 c1 T1 b1 => ⟨n, rfl, by omega, by omega, ?_⟩⟩
    have B1 : But tp H H1 := (but_put (But.refl tp H) nd).trans b1
    have D1 : DictP H1 d (fun _ => 0) (fun _ => 40) := ⟨[], b1 _ _ upd_same (hT.off nd).1, rep_nil _⟩
    have cn : n.toNat ≤ most + 1 := by omega
    refine for_range (fun i σ H2 => (∃ u v, σ = [some (.ref tp), some (.int most), some (.ref d), u, v]) ∧ But tp H H2 ∧ Tape cl H2 tp (B + 1 + 7 * i) ∧ ∃ c, DictP H2 d c (fun _ => 40) ∧ Drawn c i)
      ⟨⟨_, _, rfl⟩, B1, T1.mono (Same.refl _) (by omega), _, D1, drawn_nil⟩ ?_ ?_
    · rintro i σ H2 hi ⟨⟨u, v, rfl⟩, B2, T2, c, D2, r2⟩
      have i11 : i ≤ 10 := by omega
      have p38 : (2 : Int) ^ 30 + 300 < 2 ^ 38 := by decide
      refine ⟨_, rfl, tp, _, rfl, cl, T2, by omega, fun r t b H3 fr e3 rne T3 b3 nw => ?_⟩
      have D3 := D2.but T2 b3
      refine ⟨_, rfl, tp, 4, _, rfl, cl, T3, by omega, by decide, by decide, fun g H4 g0 g1 T4 b4 => ?_⟩
      have B4 : But tp H H4 := (B2.trans b3).trans b4
      have D4 := D3.but T3 b4
      have e4 : At2 H4 r t b := b4 _ _ e3 rne
      have nxt : (∃ c, DictP H4 d c (fun _ => 40) ∧ Drawn c (i + 1)) := ⟨c, D4, fun j hj => r2.1 j (by omega), r2.2⟩
      refine ⟨_, _, rfl, rfl, _, rfl, ?_⟩
      refine ite2 (fun _ => ?_) (fun _ => iteN rfl ⟨⟨_, _, rfl⟩, B4, T4.mono (Same.refl _) (by omega), nxt⟩)
      refine ⟨_, rfl, r, _, _, _, rfl, rfl, SqT.of e4, rfl, rfl, _, rfl, ?_⟩
      refine ite2 (fun nz => ?_) (fun _ => ⟨⟨_, _, rfl⟩, B4, T4.mono (Same.refl _) (by omega), nxt⟩)
      have tz : t ≠ 0 := fun y => by rw [y] at nz; simp at nz
      obtain ⟨E, ed, rE⟩ := D4
      have few := rE.few
      have kz : (E.map Ent.kv).length < sizeLine := by rw [List.length_map]; exact Nat.lt_of_le_of_lt few (by decide)
      have ne : ∀ e ∈ E, e.n ≠ i := fun e he z => by
        have x := rE.each e he
        have := r2.1 e.n (by omega)
        rw [← x.val] at this
        exact fv_nz x.pos x.nz this
      refine ⟨_, rfl, _, rfl, _, rfl, (by show 1 ≤ sizeLine; decide), fun z H5 n5 s5 e5 => ?_⟩
      have ei : (0 : Int) + (i : Int) = (i : Int) := by omega
      rw [ei] at e5
      have hb5 : H5 z = some (.tup ((LwD.ik [(i : Int)]).map kV)) := by rw [LwD.ik_map]; exact e5
      have hd5 : H5 d = some (.dT (E.map Ent.kv)) := s5 _ _ ed
      have dn := T4.ne ed (fun _ z => by cases z)
      have ti : i ∉ E.map Ent.n := fun y => by
        obtain ⟨e, he, ee⟩ := List.mem_map.mp y
        exact ne e he ee
      refine ⟨d, _, rfl, DPut.t (k := LwD.ik [(i : Int)]) hd5 hb5 kz, ⟨_, _, rfl⟩, fun x y hx hn => ?_, ?_, bump c i (fv t b), ⟨E ++ [⟨i, r, t, b⟩], ?_, ?_⟩, ?_, ?_⟩
      · rw [upd_ne (fun z => by rw [z, nd] at hx; cases hx)]
        exact s5 _ _ (B4 _ _ hx hn)
      · exact (T4.mono s5 (Int.le_refl _)).upd _ dn.1 dn.2 (by omega)
      · rw [upd_same, put_out (key_ne ti), List.map_append]
        rfl
      · have tu : ∀ a xs, H4 a = some (.tup xs) → upd H5 d (.dT (putK (E.map Ent.kv) (LwD.ik [(i : Int)]) (V.ref r))) a = some (.tup xs) := fun a xs ea => by
          rw [upd_ne (fun y => by rw [y, ed] at ea; cases ea)]
          exact s5 _ _ ea
        exact rep_new rE (by omega) ne tu (tu _ _ e4) fr.pos tz fr.st (abs_up fr.sb (by decide))
      · intro j hj
        unfold bump
        rw [if_neg (by omega), Rat.add_zero]
        exact r2.1 j (by omega)
      · intro j
        unfold bump
        by_cases jn : j = i
        · rw [if_pos jn, r2.1 j (by omega), Rat.zero_add]
          exact ⟨t, b, fr.pos, fr.st, fr.sb, rfl⟩
        · rw [if_neg jn, Rat.add_zero]
          exact r2.2 j
    · rintro σ H2 ⟨⟨u, v, rfl⟩, B2, T2, c, D2, r2⟩
      refine ⟨_, rfl, go d c H2 nd B2 (T2.mono (Same.refl _) (by omega)) D2 ⟨fun j hj => r2.1 j (by omega), r2.2⟩⟩
end
end Lw

namespace Lw
open PySem PySem.Spec PyProof.Rows L2 LwQ
theorem low_cross {n d : Int} (hd : 0 < d) : lowT n d * d = n * lowB n d := by
  rw [low_posT hd, low_posB hd]
  obtain ⟨a, ha⟩ := Int.gcd_dvd_left (a := n) (b := d)
  obtain ⟨b, hb⟩ := Int.gcd_dvd_right (a := n) (b := d)
  have g1 := LwM.gcd_pos n d hd
  generalize (Int.gcd n d : Int) = g at ha hb g1
  subst ha hb
  rw [Int.mul_ediv_cancel_left _ (by omega), Int.mul_ediv_cancel_left _ (by omega)]
  grind
theorem low_pos1 {n d : Int} (hd : 0 < d) : 0 < lowB n d := by
  have g1 := LwM.gcd_pos n d hd
  rw [low_posB hd]
  exact Int.ediv_pos_of_pos_of_dvd hd (by omega) (Int.gcd_dvd_right ..)
theorem low_gcd {n d : Int} (hd : 0 < d) : Int.gcd (lowT n d) (lowB n d) = 1 := by
  have g1 := LwM.gcd_pos n d hd
  rw [low_posT hd, low_posB hd]
  exact Int.gcd_ediv_gcd_ediv_gcd (by omega)
theorem fv_low {n d : Int} (hd : 0 < d) : fv (lowT n d) (lowB n d) = fv n d := fv_eq (low_pos1 hd) hd (low_cross hd)
theorem perm_lift {α β : Type} {f : α → β} {zs l : List β} (p : zs.Perm l) : ∀ E : List α, l = E.map f → ∃ E' : List α, E'.Perm E ∧ zs = E'.map f := by
  induction p with
  | nil =>
    intro E h
    have : E = [] := by simpa using h.symm
    exact ⟨[], by rw [this], rfl⟩
  | @cons x l1 l2 _ ih =>
    intro E h
    match E, h with
    | e :: E2, h =>
      rw [List.map_cons] at h
      injection h with h1 h2
      obtain ⟨E', p', rfl⟩ := ih E2 h2
      exact ⟨e :: E', p'.cons e, by rw [List.map_cons, h1]⟩
  | @swap x y l =>
    intro E h
    match E, h with
    | e1 :: e2 :: E2, h =>
      rw [List.map_cons, List.map_cons] at h
      injection h with h1 h2
      injection h2 with h2 h3
      exact ⟨e2 :: e1 :: E2, List.Perm.swap .., by rw [List.map_cons, List.map_cons, h1, h2, h3]⟩
  | @trans l1 l2 l3 _ _ ih1 ih2 =>
    intro E h
    obtain ⟨E2, p2, e2⟩ := ih2 E h
    obtain ⟨E1, p1, e1⟩ := ih1 E2 e2
    exact ⟨E1, p1.trans p2, e1⟩
theorem put_same {H H' : Hp} {l : Addr} {o : HO} (s : Same H H') (n : H l = none) : Same H (upd H' l o) := fun c u h => by
  rw [upd_ne (ne_of_none h n)]
  exact s c u h
/-! ### tuple(l), the new tuple frozen -/
section
variable {X : Cx}
def rTupZ (K : PySem.W.Frag) : List V → Hp → VK → Prop := fun xs H Q => ∃ p ys, xs = [.ref p] ∧ SqL K H p ys ∧ ∀ (l : Addr) (o : Obj), H l = none → o.dict = none → Q (.ref l) (upd H l (.frz o (.tup ys)))
theorem call_tupleZ : CallR X (.type "tuple") (rTupZ X.K) := by
  intro pins s σ H xs us Q I r h
  obtain ⟨p, ys, rfl, hq, q⟩ := h
  obtain ⟨u, rfl, rx⟩ := vals1 r
  cases rx
  obtain ⟨its, r', pl, hz⟩ := I.list hq
  have hlen := r'.length
  refine call_tuple_list pl.isList (fun h' kp => ?_) (by simp only [List.size_toArray] <;> omega)
  have I1 : Inv X pins σ H { s with heap := h' } := I.kept (t' := s.toks) kp
  have I2 : Inv X pins σ (upd H h'.objs.size (.frz { cls := .type "tuple", data := .seq its.toArray } (.tup ys))) { s with heap := h'.push { cls := .type "tuple", data := .seq its.toArray } } :=
    I1.laid (t' := s.toks) (fun b o e => Heap.get?_push_of_some _ e) (Nat.le_refl _) (show ObjOk X.prog X.w _ _ _ (.frz _ (.tup ys)) from ⟨Heap.get?_push_size _ rfl, hz, its, r', IsTup.new _ _⟩)
  exact ⟨.ref h'.objs.size, _, I2, rfl, q _ _ (I1.hok.fresh (Nat.le_refl _)) rfl⟩
end
/-! ### the sum as a tuple of terms -/
/-- the powers that are there -/
def sup (c : Nat → Rat) : List Nat := (List.range 24).filter fun n => decide (c n ≠ 0)
theorem sup_pw (c : Nat → Rat) : (sup c).Pairwise (· < ·) := List.Pairwise.filter _ List.pairwise_lt_range
theorem inc_eq : ∀ {l m : List Nat}, l.Pairwise (· < ·) → m.Pairwise (· < ·) → (∀ x, x ∈ l ↔ x ∈ m) → l = m
  | [], [], _, _, _ => rfl
  | [], b :: m, _, _, h => absurd ((h b).mpr (List.mem_cons_self ..)) (List.not_mem_nil)
  | a :: l, [], _, _, h => absurd ((h a).mp (List.mem_cons_self ..)) (List.not_mem_nil)
  | a :: l, b :: m, p, q, h => by
    have p1 := List.pairwise_cons.mp p
    have q1 := List.pairwise_cons.mp q
    have e : a = b := by
      have h1 := List.mem_cons.mp ((h a).mp (List.mem_cons_self ..))
      have h2 := List.mem_cons.mp ((h b).mpr (List.mem_cons_self ..))
      rcases h1 with h1 | h1
      · exact h1
      · rcases h2 with h2 | h2
        · exact h2.symm
        · have := q1.1 a h1
          have := p1.1 b h2
          omega
    subst e
    rw [inc_eq p1.2 q1.2 fun x => ⟨fun hx => ?_, fun hx => ?_⟩]
    · rcases List.mem_cons.mp ((h x).mp (List.mem_cons_of_mem _ hx)) with z | z
      · have := p1.1 x hx; omega
      · exact z
    · rcases List.mem_cons.mp ((h x).mpr (List.mem_cons_of_mem _ hx)) with z | z
      · have := q1.1 x hx; omega
      · exact z
def TermP (H : Hp) (c : Nat → Rat) (x : V) (n : Nat) : Prop := ∃ r b q : Addr, x = .ref r ∧ H r = some (.tup [.ref b, .ref q]) ∧ H b = some (.tup [.int n]) ∧ At2 H q (c n).num (c n).den
theorem TermP.map {H H' : Hp} {c : Nat → Rat} {x : V} {n : Nat} (h : TermP H c x n) (k : ∀ a xs, H a = some (.tup xs) → H' a = some (.tup xs)) : TermP H' c x n := by
  obtain ⟨r, b, q, e1, e2, e3, e4⟩ := h
  exact ⟨r, b, q, e1, k _ _ e2, k _ _ e3, k _ _ e4⟩
def TermsP (H : Hp) (c : Nat → Rat) (xs : List V) (l : List Nat) : Prop := Paired (TermP H c) xs l
theorem TermsP.map {H H' : Hp} {c : Nat → Rat} {xs : List V} {l : List Nat} (h : TermsP H c xs l) (k : ∀ a xs, H a = some (.tup xs) → H' a = some (.tup xs)) : TermsP H' c xs l := Paired.mono (fun _ _ y => TermP.map y k) h
structure SumC (H : Hp) (p : Addr) (c : Nat → Rat) : Prop where
  ex : ∃ (q : Addr) (o : Obj) (xs : List V), H p = some (.tup [.int 1, .ref q]) ∧ H q = some (.frz o (.tup xs)) ∧ o.dict = none ∧ TermsP H c xs (sup c)
theorem SumC.same {H H' : Hp} {p : Addr} {c : Nat → Rat} (h : SumC H p c) (s : Same H H') : SumC H' p c := by
  obtain ⟨q, o, xs, e1, e2, e3, e4⟩ := h.ex
  exact ⟨q, o, xs, s _ _ e1, s _ _ e2, e3, e4.map fun _ _ e => s _ _ e⟩
/-- a dict that isn't written any more -/
def FrzP (H : Hp) (d : Addr) (c : Nat → Rat) (s : Nat → Nat) : Prop := ∃ E o, H d = some (.frz o (.dT (E.map Ent.kv))) ∧ RepE H E c s
theorem FrzP.same {H H' : Hp} {d : Addr} {c : Nat → Rat} {z : Nat → Nat} (h : FrzP H d c z) (s : Same H H') : FrzP H' d c z := by
  obtain ⟨E, o, e, r⟩ := h
  exact ⟨E, o, s _ _ e, r.map fun _ _ q => s _ _ q⟩
theorem val_in {E : List Ent} (nd : (E.map Ent.n).Nodup) {e : Ent} (he : e ∈ E) : valV (E.map Ent.kv) (LwD.ik [(e.n : Int)]) = some (.ref e.c) := by
  obtain ⟨L, R, rfl⟩ := List.append_of_mem he
  rw [List.map_append, List.map_cons] at nd ⊢
  refine val_mid (key_ne fun y => ?_)
  exact (List.nodup_append.mp nd).2.2 _ y _ (List.mem_cons_self ..) rfl
theorem frz_get {H : Hp} {d b : Addr} {o : Obj} {E : List Ent} {c : Nat → Rat} {s : Nat → Nat} (h : H d = some (.frz o (.dT (E.map Ent.kv)))) (r : RepE H E c s) {e : Ent} (he : e ∈ E) (hb : H b = some (.tup [.int e.n])) : DGet H d (.ref b) (some (.ref e.c)) :=
  .inr ⟨_, LwD.ik [(e.n : Int)], b, .inr ⟨o, h⟩, rfl, by rw [LwD.ik_map]; exact hb, (val_in r.nd he).symm⟩
theorem RepE.sup {H : Hp} {E E' : List Ent} {c : Nat → Rat} {s : Nat → Nat} (r : RepE H E c s) (p : E'.Perm E) (w : E'.Pairwise fun a b => a.n < b.n) : E'.map Ent.n = sup c := by
  refine inc_eq (List.pairwise_map.mpr w) (sup_pw c) fun x => ⟨fun hx => ?_, fun hx => ?_⟩
  · obtain ⟨e, he, rfl⟩ := List.mem_map.mp hx
    have y := r.each e (p.mem_iff.mp he)
    refine List.mem_filter.mpr ⟨List.mem_range.mpr y.lt, decide_eq_true ?_⟩
    rw [← y.val]
    exact fv_nz y.pos y.nz
  · obtain ⟨h1, h2⟩ := List.mem_filter.mp hx
    obtain ⟨e, he, ee⟩ := r.all x (of_decide_eq_true h2)
    exact List.mem_map.mpr ⟨e, p.mem_iff.mpr he, ee⟩
def spLSum : Sp := fun vs H Q _ => ∃ (d : Addr) (c : Nat → Rat) (s : Nat → Nat), vs = [.int 1, .ref d] ∧ FrzP H d c s ∧ (∀ n, s n ≤ 8000) ∧ ∀ (p : Addr) (H' : Hp), H p = none → Same H H' → SumC H' p c → Q (.ref p) H'
section
variable {P : Program} {w : World} {K : PySem.W.Frag} {mg : Str → Option Value} {base : Heap} {f fd : _}
theorem scLSum : FnScope ["many", "one", "terms", "powers", "number"] ["many", "one"] (defScope sLSum) := ⟨rfl, rfl, rfl, by decide +kernel, rfl, by decide +kernel, by decide +kernel⟩
theorem ok_lsum {fL : Addr} {fdL : FuncData} (F : Fun K "_law_sum" "_law_sum" sLSum f fd) (T : Txt mg) (DL : Df K mg "_law_low" sLow ["top", "bottom"] fL fdL) : FnOk P w K mg base CX0 2 f fd ["many", "one"] spLSum := by
  have GL : FnOk P w K mg base CX0 1 fL fdL ["top", "bottom"] spLow := ok_low DL.F T
  refine F.ok scLSum (fun vs H Q E h => ?_) (fun cdv A outer s H vs Q E hr h => ?_)
  · obtain ⟨d, c, sz, rfl, _⟩ := h
    rfl
  · obtain ⟨d, c, sz, rfl, ⟨EE, o, hd, hD⟩, hs, go⟩ := h
    have hu : _ + 1 < cLine := Nat.lt_of_le_of_lt (Nat.add_le_add_left (by decide : 1 ≤ 64) _) hr.units
    refine ⟨_, pss_cons (ps_set (i := 2) scLSum.nd rfl (Or.inl rfl) (pe_lstF pa_nil)) (pss_cons (ps_for PassesOwn.never rfl (pi_list (pe_callB (LwD.call_sortS rfl) (by rfl) T.sorted boot_sorted (pa_cons (pv 1) pa_nil))) (pg_name (i := 3) scLSum.nd rfl (Or.inl rfl)) (pss_one (ps_if (pt_cmpR op_ne (pe_ix ix_tup (pe_dget hu (pv 1) (pv 3) (fun _ _ => rfl)) pe_int (fun _ _ => rfl)) pe_int (nomark _)) (pss_cons (ps_set (i := 4) scLSum.nd rfl (Or.inl rfl) (pe_call GL hr rfl DL.m DL.F.kp DL.b .nil pass0 (pa_cons (pe_ix ix_tup (pe_dget hu (pv 1) (pv 3) (fun _ _ => rfl)) pe_int (fun _ _ => rfl)) (pa_cons (pe_ix ix_tup (pe_dget hu (pv 1) (pv 3) (fun _ _ => rfl)) pe_int (fun _ _ => rfl)) pa_nil)))) (pss_one (ps_expr (pe_bm PySem.F.plainAttrs_list PySem.F.slot_list_append PySem.F.type_list_append mt_append (pv 2) (pa_cons (pe_tupF (pa_cons (pv 3) (pa_cons (pv 4) pa_nil))) pa_nil))))) pss_nil))) (pss_one (ps_ret (pe_tupF (pa_cons (pv 0) (pa_cons (pe_callTy call_tupleZ (by rfl) T.tup boot_tuple (pa_cons (pv 2) pa_nil)) pa_nil)))))), ?_⟩
    refine ⟨(by show 0 ≤ sizeLine; decide), fun l H1 n1 s1 e1 => ?_⟩
    refine ⟨_, rfl, d, _, rfl, .inr ⟨o, s1 _ _ hd⟩, by rw [List.length_map]; exact Nat.lt_of_le_of_lt hD.few (by decide), fun p hp => ?_, fun ys zs pz ky pw sl H2 n2 s2 e2 => ⟨sl, rfl, ⟨ys, SqL.of e2⟩, ?_⟩⟩
    · obtain ⟨e, he, rfl⟩ := List.mem_map.mp hp
      exact ⟨[(e.n : Int)], rfl, by simp⟩
    obtain ⟨E', pE, rfl⟩ := perm_lift pz EE rfl
    have inc : E'.Pairwise fun a b => a.n < b.n := by
      refine (List.pairwise_map.mp pw).imp fun {a b} h => ?_
      have h : LwD.lexI (LwD.kInts (LwD.ik [(a.n : Int)])) (LwD.kInts (LwD.ik [(b.n : Int)])) = true := h
      rw [LwD.kInts_ik, LwD.kInts_ik] at h
      unfold LwD.lexI at h
      split at h
      · simp [LwD.lexI] at h
      · have := of_decide_eq_true h
        omega
    have es := hD.sup pE inc
    have s12 : Same H H2 := s1.trans s2
    have ls : sl ≠ l := fun z => by rw [z, e1] at n2; cases n2
    have yl : ys.length = E'.length := by rw [ky.1, List.length_map]
    have l24 : E'.length ≤ 24 := by rw [pE.length_eq]; exact hD.few
    refine for_list (K := K) (a := sl) (xs := ys) (fun i σ H3 => (∃ u v, σ = [some (.int 1), some (.ref d), some (.ref l), u, v]) ∧ Same H H3 ∧ H3 sl = some (.lst ys) ∧ (∀ a xs, H2 a = some (.tup xs) → H3 a = some (.tup xs)) ∧ ∃ xs, H3 l = some (.lst xs) ∧ TermsP H3 c xs ((E'.take i).map Ent.n))
      ⟨⟨_, _, rfl⟩, s12, e2, fun _ _ e => e, [], s2 _ _ e1, .nil⟩ (fun i σ H3 _ h => SqL.of h.2.2.1) ?_ ?_
    · rintro i y σ H3 hyi ⟨⟨u, v, rfl⟩, s3, es3, kt, xs, el, hx⟩
      have hiy : i < ys.length := (List.getElem?_eq_some_iff.mp hyi).1
      have hie : i < E'.length := by omega
      obtain ⟨e, he⟩ : ∃ e, E'[i]? = some e := ⟨E'[i], by simp [hie]⟩
      obtain ⟨b, ns, rfl, hb1, hk⟩ := ky.2 i y e.kv hyi (by rw [List.getElem?_map, he]; rfl)
      have ens : [(e.n : Int)] = ns := ik_inj hk
      subst ens
      have eE : e ∈ EE := pE.mem_iff.mp (List.mem_of_getElem? he)
      have D3 := hD.map (H' := H3) fun _ _ q => s3 _ _ q
      have hE := D3.each e eE
      have hb3 : H3 b = some (.tup [.int e.n]) := kt _ _ (s2 _ _ hb1)
      have g3 := frz_get (s3 _ _ hd) D3 eE hb3
      have c3 := SqT.of (K := K) hE.at'
      have xl : xs.length = i := by
        have := Paired.length hx
        rw [List.length_map, List.length_take] at this
        omega
      refine ⟨_, rfl, _, rfl, d, _, rfl, g3, e.c, _, _, _, rfl, rfl, c3, rfl, rfl, _, rfl, ?_⟩
      refine iteP ?_ ?_
      · rw [Bool.not_eq_true', decide_eq_false]
        intro z
        injection z with z
        exact hE.nz z
      · refine ⟨_, rfl, _, rfl, d, _, rfl, g3, e.c, _, _, _, rfl, rfl, c3, rfl, _, rfl, _, rfl, d, _, rfl, g3, e.c, _, _, _, rfl, rfl, c3, rfl, e.t, e.b, rfl, ?_, .inl ?_, fun r H4 n4 s4 e4 => ?_⟩
        · have := hE.pos
          omega
        · exact abs_up hE.sb (hs _)
        refine ⟨_, rfl, .inl ⟨rfl, _, SqL.of (s4 _ _ el)⟩, _, rfl, _, rfl, (by show 2 ≤ sizeLine; decide), fun q H5 n5 s5 e5 => ?_⟩
        have s45 := s4.trans s5
        have el5 := s45 _ _ el
        refine ⟨l, _, _, rfl, rfl, el5, Nat.lt_of_le_of_lt (show xs.length ≤ 24 by omega) (by decide), ?_⟩
        have ku : ∀ (o : HO) a xs, H5 a = some (.tup xs) → upd H5 l o a = some (.tup xs) := fun o a xs e => by
          rw [upd_ne (fun z => by rw [z, el5] at e; cases e)]
          exact e
        refine ⟨⟨_, _, rfl⟩, put_same (s3.trans s45) n1, ?_, fun a xs e => ku _ _ _ (s45 _ _ (kt _ _ e)), _, upd_same, ?_⟩
        · rw [upd_ne ls]
          exact s45 _ _ es3
        · have tk : (E'.take (i + 1)).map Ent.n = (E'.take i).map Ent.n ++ [e.n] := by
            obtain ⟨h1, h2⟩ := List.getElem?_eq_some_iff.mp he
            rw [List.take_succ_eq_append_getElem h1, h2, List.map_append]
            rfl
          rw [tk]
          refine Paired.snoc (hx.map fun a xs e => ku _ _ _ (s45 _ _ e)) ⟨q, b, r, rfl, ku _ _ _ e5, ku _ _ _ (s45 _ _ hb3), ?_⟩
          have nm := num_of (low_pos1 (n := e.t) hE.pos) (low_gcd hE.pos)
          rw [fv_low hE.pos, hE.val] at nm
          unfold At2
          rw [nm.1, nm.2]
          exact ku _ _ _ (s5 _ _ e4)
    · rintro σ H3 ⟨⟨u, v, rfl⟩, s3, es3, kt, xs, el, hx⟩
      refine ⟨_, rfl, _, rfl, l, _, rfl, SqL.of el, fun q oq nq dq => ⟨(by show 2 ≤ sizeLine; decide), fun p H5 n5 s5 e5 => ?_⟩⟩
      have s4 : Same H3 (upd H3 q (.frz oq (.tup xs))) := same_upd _ nq
      rw [yl, List.take_length, es] at hx
      exact go p H5 ((s3.trans s4).free n5) (s3.trans (s4.trans s5)) ⟨q, oq, xs, e5, s5 _ _ upd_same, dq, hx.map fun a xs e => s5 _ _ (s4 _ _ e)⟩
end
end Lw

namespace Lw
open PySem PySem.Spec PyProof.Rows L2 LwQ
theorem comp_keysN {d : Addr} {o : Obj} {kvs : List (List Key × V)} {xs : List V} {n : Nat} {g : TG} {te : TE} {Q : VK} {p : Addr} {H' : Hp} (Pv : Nat → List V → Hp → Prop) (hz : xs.length < sizeLine) (h0 : Pv 0 [] H')
    (hl : ∀ i ys H2, Pv i ys H2 → H2 d = some (.frz o (.dT kvs)) ∧ H2 p = some (.lst ys))
    (hs : ∀ i m ys x H2, xs[i]? = some x → m = xs.length - i → ys.length = i → Pv i ys H2 → g x (List.replicate n none) H2 fun σ4 H4 => te σ4 H4 fun y H5 => H5 p = some (.lst ys) ∧ ∃ m', m' < m ∧ CompW xs Pv (i + 1) m' (ys ++ [y]) (upd H5 p (.lst (ys ++ [y]))))
    (hd : ∀ ys H2, ys.length = xs.length → Pv xs.length ys H2 → Q (.ref p) H2) : CompGo n (LwD.Itk d o kvs xs) g te Q p H' := by
  refine ⟨CompW xs Pv, ⟨_, rfl, Nat.zero_le _, rfl, h0⟩, ?_⟩
  rintro i m ys H2 ⟨hm, hi, hy, hp⟩
  obtain ⟨q, e⟩ := hl i ys H2 hp
  refine ⟨e, by omega, ?_⟩
  by_cases hlt : i < xs.length
  · refine .inr ⟨⟨q, hlt⟩, ?_⟩
    rintro x H3 ⟨rfl, y⟩
    exact hs i m ys x _ y hm hy hp
  · obtain rfl : i = xs.length := by omega
    exact .inl ⟨⟨q, rfl⟩, hd ys H2 hy hp⟩
/-- the greatest power -/
def IsDeg (c : Nat → Rat) (n : Nat) : Prop := (∀ j, c j ≠ 0 → j ≤ n) ∧ (n = 0 ∨ c n ≠ 0)
theorem IsDeg.uniq {c : Nat → Rat} {n m : Nat} (h : IsDeg c n) (k : IsDeg c m) : n = m := by
  have h1 : n ≤ m := by
    rcases h.2 with z | z
    · omega
    · exact k.1 n z
  have h2 : m ≤ n := by
    rcases k.2 with z | z
    · omega
    · exact h.1 m z
  omega
/-- the keys of a frozen dict -/
theorem keyed_at {H : Hp} {E : List Ent} {ks : List V} (hk : LwD.Keyed H ks (E.map Ent.kv)) {j : Nat} {x : V} (hx : ks[j]? = some x) : ∃ e b, E[j]? = some e ∧ x = .ref b ∧ H b = some (.tup [.int e.n]) := by
  have hj : j < ks.length := (List.getElem?_eq_some_iff.mp hx).1
  have lk : ks.length = E.length := by rw [hk.1, List.length_map]
  obtain ⟨e, he⟩ : ∃ e, E[j]? = some e := ⟨E[j], by simp [← lk, hj]⟩
  obtain ⟨b, ns', rfl, hb, hns⟩ := hk.2 j x e.kv hx (by rw [List.getElem?_map, he]; rfl)
  have ens : [(e.n : Int)] = ns' := ik_inj hns
  subst ens
  exact ⟨e, b, he, rfl, hb⟩
def spDeg : Sp := fun vs H Q _ => ∃ (d : Addr) (c : Nat → Rat) (s : Nat → Nat), vs = [.ref d] ∧ FrzP H d c s ∧ ∀ (n : Nat) (H' : Hp), Same H H' → IsDeg c n → Q (.int n) H'
section
variable {P : Program} {w : World} {K : PySem.W.Frag} {mg : Str → Option Value} {base : Heap} {f fd : _}
theorem scDeg : FnScope ["one"] ["one"] (defScope sDeg) := ⟨rfl, rfl, rfl, by decide +kernel, rfl, by decide +kernel, by decide +kernel⟩
theorem ok_deg (F : Fun K "_law_deg" "_law_deg" sDeg f fd) (T : Txt mg) : FnOk P w K mg base CX0 1 f fd ["one"] spDeg := by
  refine F.ok scDeg (fun vs H Q E h => ?_) (fun cdv A outer s H vs Q E hr h => ?_)
  · obtain ⟨d, c, sz, rfl, _⟩ := h
    rfl
  · obtain ⟨d, c, sz, rfl, ⟨EE, o, hd, hD⟩, go⟩ := h
    refine ⟨_, pss_one (ps_ret (pe_callB (LwMx.call_max1 rfl) (by rfl) T.max (show bootBuiltins "max" = some (.builtin "max") by decide +kernel) (pa_cons (pe_op op_catF (pe_lstF (pa_cons pe_int pa_nil))
      (pe_compN (N := ["powers"]) rfl rfl (by decide +kernel) (by decide +kernel) (by decide +kernel) (LwD.pi_keys (pv 0)) (fun C fp s2 H2 => pg_name (i := 0) (show List.Nodup (["powers"] : List Str) by decide +kernel) rfl (Or.inl rfl))
        (fun C fp s2 H2 => pe_ix (show IxR (cxComp _ ["powers"] _ C fp s2 H2) (rIxT K) from ix_tup) (pv 0) pe_int (fun _ _ => rfl)))) pa_nil))), ?_⟩
    refine ⟨(by show 1 ≤ sizeLine; decide), fun z H1 n1 s1 e1 => ?_⟩
    refine ⟨_, rfl, d, o, _, rfl, s1 _ _ hd, fun p hp => ?_, fun ks hk => fun l H2 n2 s2 e2 => ?_⟩
    · obtain ⟨e, he, rfl⟩ := List.mem_map.mp hp
      exact ⟨_, rfl⟩
    have lk : ks.length = EE.length := by rw [hk.1, List.length_map]
    refine comp_keysN (d := d) (o := o) (xs := ks) (fun i ys H3 => Same H1 H3 ∧ H3 l = some (.lst ys) ∧ ys = (EE.take i).map fun e => V.int e.n) (by rw [lk]; exact Nat.lt_of_le_of_lt hD.few (by decide)) ⟨s2, e2, rfl⟩ (fun i ys H3 h => ⟨h.1 _ _ (s1 _ _ hd), h.2.1⟩) ?_ ?_
    · rintro j mm ys x H3 hx hmm hy ⟨s3, e3, hys⟩
      obtain ⟨e, b, he, rfl, hb⟩ := keyed_at hk hx
      refine ⟨_, rfl, b, _, _, _, rfl, rfl, SqT.of (s3 _ _ hb), rfl, ?_⟩
      refine comp_next hx hmm hy e3 ⟨put_same s3 n2, upd_same, ?_⟩
      rw [hys, List.take_succ, he, List.map_append]
      rfl
    · rintro ys H3 hy ⟨s3, e3, hys⟩
      rw [lk, List.take_length] at hys
      have hl : [V.int 0] ++ ys = ((0 : Int) :: EE.map fun e => (e.n : Int)).map V.int := by
        rw [hys, List.map_cons, List.map_map]
        rfl
      refine ⟨z, l, _, _, rfl, rfl, s3 _ _ e1, e3, ?_, fun q H4 n4 s4 e4 => ?_⟩
      · rw [hys, List.length_map]
        have := hD.few
        show 1 + EE.length ≤ sizeLine
        exact Nat.le_trans (show 1 + EE.length ≤ 25 by omega) (by decide)
      rw [hl] at e4
      refine ⟨q, _, rfl, e4, by simp, fun m hm hmx => ?_⟩
      have hs : Same H H4 := (s1.trans s3).trans s4
      have m0 : 0 ≤ m := hmx 0 (List.mem_cons_self ..)
      obtain ⟨k, rfl⟩ := Int.eq_ofNat_of_zero_le m0
      refine go k H4 hs ⟨fun j hj => ?_, ?_⟩
      · obtain ⟨e, he, ee⟩ := hD.all j hj
        have := hmx e.n (List.mem_cons_of_mem _ (List.mem_map.mpr ⟨e, he, rfl⟩))
        omega
      · rcases List.mem_cons.mp hm with y | y
        · left; omega
        · right
          obtain ⟨e, he, ee⟩ := List.mem_map.mp y
          have x := hD.each e he
          have : e.n = k := by omega
          rw [← this, ← x.val]
          exact fv_nz x.pos x.nz
end
end Lw

namespace Lw
open PySem PySem.Spec PyProof.Rows L2 LwQ
/-- a dict, written or not -/
def RdP (H : Hp) (d : Addr) (c : Nat → Rat) (s : Nat → Nat) : Prop := ∃ E, Rd H d (.dT (E.map Ent.kv)) ∧ RepE H E c s
theorem DictP.rd {H : Hp} {d : Addr} {c : Nat → Rat} {s : Nat → Nat} (h : DictP H d c s) : RdP H d c s := let ⟨E, e, r⟩ := h; ⟨E, .inl e, r⟩
theorem RepE.mono {H : Hp} {E : List Ent} {c : Nat → Rat} {s s' : Nat → Nat} (h : RepE H E c s) (k : ∀ j, s j ≤ s' j) : RepE H E c s' :=
  ⟨h.nd, fun e he => let x := h.each e he; ⟨x.lt, x.at', x.pos, x.nz, x.val, abs_up x.st (k _), abs_up x.sb (k _)⟩, h.all⟩
theorem DictP.mono {H : Hp} {d : Addr} {c : Nat → Rat} {s s' : Nat → Nat} (h : DictP H d c s) (k : ∀ j, s j ≤ s' j) : DictP H d c s' := let ⟨E, e, r⟩ := h; ⟨E, e, r.mono k⟩
/-- what the first i keys add -/
def ptR (E : List Ent) (c : Nat → Rat) (i : Nat) : Nat → Rat := fun j => if j ∈ (E.take i).map Ent.n then c j else 0
def ptN (E : List Ent) (s : Nat → Nat) (i : Nat) : Nat → Nat := fun j => if j ∈ (E.take i).map Ent.n then s j else 0
theorem take_mem {E : List Ent} {i : Nat} {e : Ent} (he : E[i]? = some e) (j : Nat) : j ∈ (E.take (i + 1)).map Ent.n ↔ j ∈ (E.take i).map Ent.n ∨ j = e.n := by
  obtain ⟨h1, e1⟩ := List.getElem?_eq_some_iff.mp he
  rw [List.take_succ_eq_append_getElem h1, e1, List.map_append, List.mem_append]
  simp
theorem take_new {E : List Ent} {i : Nat} {e : Ent} (nd : (E.map Ent.n).Nodup) (he : E[i]? = some e) : e.n ∉ (E.take i).map Ent.n := by
  obtain ⟨h1, e1⟩ := List.getElem?_eq_some_iff.mp he
  have : E = E.take i ++ e :: E.drop (i + 1) := by rw [← e1, List.getElem_cons_drop, List.take_append_drop]
  rw [this, List.map_append, List.map_cons] at nd
  exact fun y => (List.nodup_append.mp nd).2.2 _ y _ (List.mem_cons_self ..) rfl
theorem ptR_step {E : List Ent} {a c : Nat → Rat} {i : Nat} {e : Ent} {x : Rat} (nd : (E.map Ent.n).Nodup) (he : E[i]? = some e) (hx : x = c e.n) : bump (fun j => a j + ptR E c i j) e.n x = fun j => a j + ptR E c (i + 1) j := by
  funext j
  unfold bump ptR
  dsimp only
  by_cases h : j = e.n
  · subst h
    rw [if_neg (take_new nd he), if_pos rfl, if_pos ((take_mem he _).mpr (.inr rfl)), hx]
    grind
  · rw [if_neg h, Rat.add_zero]
    by_cases y : j ∈ (E.take i).map Ent.n
    · rw [if_pos y, if_pos ((take_mem he _).mpr (.inl y))]
    · rw [if_neg y, if_neg fun z => ((take_mem he _).mp z).elim y h]
theorem ptN_step {E : List Ent} {a s : Nat → Nat} {i : Nat} {e : Ent} (nd : (E.map Ent.n).Nodup) (he : E[i]? = some e) : bumpN (fun j => a j + ptN E s i j) e.n (s e.n) = fun j => a j + ptN E s (i + 1) j := by
  funext j
  unfold bumpN ptN
  dsimp only
  by_cases h : j = e.n
  · subst h
    rw [if_neg (take_new nd he), if_pos rfl, if_pos ((take_mem he _).mpr (.inr rfl))]
    omega
  · rw [if_neg h, Nat.add_zero]
    by_cases y : j ∈ (E.take i).map Ent.n
    · rw [if_pos y, if_pos ((take_mem he _).mpr (.inl y))]
    · rw [if_neg y, if_neg fun z => ((take_mem he _).mp z).elim y h]
theorem ptR_all {H : Hp} {E : List Ent} {c : Nat → Rat} {s : Nat → Nat} (h : RepE H E c s) : ptR E c E.length = c := by
  funext j
  unfold ptR
  rw [List.take_length]
  by_cases y : j ∈ E.map Ent.n
  · rw [if_pos y]
  · rw [if_neg y]
    exact (h.out fun e he z => y (List.mem_map.mpr ⟨e, he, z⟩)).symm
theorem ptN_le {E : List Ent} {s : Nat → Nat} {i j : Nat} : ptN E s i j ≤ s j := by
  unfold ptN
  split
  · exact Nat.le_refl _
  · exact Nat.zero_le _
def spLAdd : Sp := fun vs H Q _ => ∃ (a b : Addr) (c1 c2 : Nat → Rat) (s1 s2 : Nat → Nat), vs = [.ref a, .ref b] ∧ RdP H a c1 s1 ∧ FrzP H b c2 s2 ∧ (∀ n, s1 n ≤ 50000) ∧ (∀ n, s2 n ≤ 8000) ∧
  ∀ (d : Addr) (H' : Hp), H d = none → Same H H' → DictP H' d (fun j => c1 j + c2 j) (fun j => s1 j + (s2 j + 1)) → Q (.ref d) H'
section
variable {P : Program} {w : World} {K : PySem.W.Frag} {mg : Str → Option Value} {base : Heap} {f fd : _}
theorem scLAdd : FnScope ["one", "other", "found", "powers"] ["one", "other"] (defScope sLAdded) := ⟨rfl, rfl, rfl, by decide +kernel, rfl, by decide +kernel, by decide +kernel⟩
theorem ok_ladd {fP fS : Addr} {fdP fdS : FuncData} (F : Fun K "_law_added" "_law_added" sLAdded f fd) (T : Txt mg) (DP : Df K mg "_law_put" sPut ["found", "powers", "number"] fP fdP) (DS : Df K mg "_law_plus" sPlus ["one", "other"] fS fdS) : FnOk P w K mg base CX0 3 f fd ["one", "other"] spLAdd := by
  have GP : FnOk P w K mg base CX0 2 fP fdP ["found", "powers", "number"] spPut := ok_put DP.F DS
  refine F.ok scLAdd (fun vs H Q E h => ?_) (fun cdv A outer s H vs Q E hr h => ?_)
  · obtain ⟨a, b, c1, c2, s1, s2, rfl, _⟩ := h
    rfl
  · obtain ⟨a, b, c1, c2, z1, z2, rfl, ⟨E1, ha, R1⟩, ⟨E2, o, hb, R2⟩, q1, q2, go⟩ := h
    have hu : _ + 1 < cLine := Nat.lt_of_le_of_lt (Nat.add_le_add_left (by decide : 1 ≤ 64) _) hr.units
    refine ⟨_, pss_cons (ps_set (i := 2) scLAdd.nd rfl (Or.inl rfl) (pe_callTy LwD.call_dictD (by rfl) T.dct boot_dict (pa_cons (pv 0) pa_nil)))
      (pss_cons (ps_for PassesOwn.never rfl (LwD.pi_keys (pv 1)) (pg_name (i := 3) scLAdd.nd rfl (Or.inl rfl))
        (pss_one (ps_expr (pe_call GP hr rfl DP.m DP.F.kp DP.b .nil pass0 (pa_cons (pv 2) (pa_cons (pv 3) (pa_cons (pe_dget hu (pv 1) (pv 3) (fun _ _ => rfl)) pa_nil)))))))
      (pss_one (ps_ret (pv 2)))), ?_⟩
    refine ⟨_, rfl, a, _, rfl, ha, fun p hp => ?_, fun d H1 n1 s1 e1 => ?_⟩
    · obtain ⟨e, he, rfl⟩ := List.mem_map.mp hp
      exact ⟨e.n, (R1.each e he).lt, rfl⟩
    refine ⟨_, rfl, b, o, _, rfl, s1 _ _ hb, fun p hp => ?_, fun ks hk => ?_⟩
    · obtain ⟨e, he, rfl⟩ := List.mem_map.mp hp
      exact ⟨_, rfl⟩
    have lk : ks.length = E2.length := by rw [hk.1, List.length_map]
    have bH : ∀ {H3}, But d H1 H3 → Same H H3 := fun {H3} bt x y hx => bt _ _ (s1 _ _ hx) fun z => by rw [z, n1] at hx; cases hx
    refine LwD.for_keys (xs := ks) (fun i σ H3 => (∃ u, σ = [some (.ref a), some (.ref b), some (.ref d), u]) ∧ But d H1 H3 ∧ DictP H3 d (fun j => c1 j + ptR E2 c2 i j) (fun j => z1 j + ptN E2 (fun n => z2 n + 1) i j))
      ⟨⟨_, rfl⟩, But.refl _ _, ?_⟩ (fun i σ H3 h => bH h.2.1 _ _ hb) ?_ ?_
    · refine ⟨E1, e1, ?_⟩
      have e0 : (fun j => c1 j + ptR E2 c2 0 j) = c1 := by funext j; unfold ptR; simp [Rat.add_zero]
      have e2 : (fun j => z1 j + ptN E2 (fun n => z2 n + 1) 0 j) = z1 := by funext j; unfold ptN; simp
      rw [e0, e2]
      exact R1.map fun _ _ q => s1 _ _ q
    · rintro i x σ H3 hx ⟨⟨u, rfl⟩, b3, D3⟩
      obtain ⟨e, kb, he, rfl, hkb⟩ := keyed_at hk hx
      have eE := List.mem_of_getElem? he
      have s3 := bH b3
      have R3 := R2.map fun a xs q => s3 a _ q
      have x := R3.each e eE
      have ne : ∀ y ys, H1 y = some (.tup ys) → y ≠ d := fun y ys q z => by rw [z, e1] at q; cases q
      have hkb3 : H3 kb = some (.tup [.int e.n]) := b3 _ _ hkb (ne _ _ hkb)
      refine ⟨_, rfl, _, rfl, _, rfl, _, rfl, b, _, rfl, frz_get (s3 _ _ hb) R3 eE hkb3, d, kb, e.c, e.n, z2 e.n, e.t, e.b, _, _, rfl, D3, hkb3, x.lt, x.at', x.pos, x.st, x.sb, q2 _, ?_, fun H4 b4 D4 => ?_⟩
      · have h0 : ptN E2 (fun n => z2 n + 1) i e.n = 0 := by unfold ptN; rw [if_neg (take_new R2.nd he)]
        show z1 e.n + ptN E2 (fun n => z2 n + 1) i e.n ≤ 50000
        rw [h0]
        exact q1 _
      · rw [ptR_step R2.nd he x.val] at D4
        have := ptN_step (a := z1) (s := fun n => z2 n + 1) R2.nd he
        rw [this] at D4
        exact ⟨⟨_, rfl⟩, b3.trans b4, D4⟩
    · rintro σ H3 ⟨⟨u, rfl⟩, b3, D3⟩
      rw [lk, ptR_all R2] at D3
      exact ⟨_, rfl, go d H3 n1 (bH b3) (D3.mono fun j => Nat.add_le_add_left ptN_le _)⟩
end
end Lw

namespace Lw
open PySem PySem.Spec PyProof.Rows L2 LwQ
theorem comp_zip {K : PySem.W.Frag} {a b : Addr} {ts us : List V} {n : Nat} {g : TG} {te : TE} {Q : VK} {p : Addr} {H' : Hp} (Pv : Nat → List V → Hp → Prop) (hle : us.length ≤ ts.length) (hz : us.length < sizeLine) (h0 : Pv 0 [] H')
    (hl : ∀ i ys H2, Pv i ys H2 → SqT K H2 a ts ∧ SqT K H2 b us ∧ H2 p = some (.lst ys))
    (hs : ∀ i m ys x y c H2, ts[i]? = some x → us[i]? = some y → m = us.length - i → ys.length = i → Pv i ys H2 → H2 c = none → g (.ref c) (List.replicate n none) (upd H2 c (.tup [x, y])) fun σ4 H4 => te σ4 H4 fun y H5 => H5 p = some (.lst ys) ∧ ∃ m', m' < m ∧ CompW us Pv (i + 1) m' (ys ++ [y]) (upd H5 p (.lst (ys ++ [y]))))
    (hd : ∀ ys H2, ys.length = us.length → Pv us.length ys H2 → Q (.ref p) H2) : CompGo n (Itz K a b) g te Q p H' := by
  refine ⟨CompW us Pv, ⟨_, rfl, Nat.zero_le _, rfl, h0⟩, ?_⟩
  rintro i m ys H2 ⟨hm, hi, hy, hp⟩
  obtain ⟨q1, q2, e⟩ := hl i ys H2 hp
  refine ⟨e, by omega, ?_⟩
  by_cases hlt : i < us.length
  · have h2 : i < ts.length := by omega
    refine .inr ⟨⟨ts, us, ts[i], us[i], q1, q2, by simp [h2], by simp [hlt]⟩, ?_⟩
    rintro _ _ ⟨c, x, y, hc, rfl, rfl, h1, h2⟩
    exact hs i m ys x y c H2 (h1 _ q1) (h2 _ q2) hm hy hp hc
  · obtain rfl : i = us.length := by omega
    exact .inl ⟨⟨ts, us, q1, q2, .inr (Nat.le_refl _)⟩, hd ys H2 hy hp⟩
/-! ### products of coefficients -/
/-- x times what f has n powers below -/
def sh (n : Nat) (x : Rat) (f : Nat → Rat) : Nat → Rat := fun j => if n ≤ j then x * f (j - n) else 0
def shN (n : Nat) (f : Nat → Nat) : Nat → Nat := fun j => if n ≤ j then f (j - n) else 0
def sumF (F : Nat → Rat) : List Nat → Rat
  | [] => 0
  | n :: r => F n + sumF F r
theorem sumF_app (F : Nat → Rat) : ∀ (l m : List Nat), sumF F (l ++ m) = sumF F l + sumF F m
  | [], m => by show sumF F m = 0 + sumF F m; rw [Rat.zero_add]
  | n :: l, m => by
    show F n + sumF F (l ++ m) = F n + sumF F l + sumF F m
    rw [sumF_app F l m, Rat.add_assoc]
theorem sumF_perm {F : Nat → Rat} {l m : List Nat} (p : l.Perm m) : sumF F l = sumF F m := by
  induction p with
  | nil => rfl
  | cons e _ ih => show _ + sumF F _ = _ + sumF F _; rw [ih]
  | swap a b l =>
    show F b + (F a + sumF F l) = F a + (F b + sumF F l)
    grind
  | trans _ _ ih1 ih2 => rw [ih1, ih2]
theorem sumF_zero {F : Nat → Rat} : ∀ {l : List Nat}, (∀ n ∈ l, F n = 0) → sumF F l = 0
  | [], _ => rfl
  | n :: r, h => by
    show F n + sumF F r = 0
    rw [h n (List.mem_cons_self ..), sumF_zero fun x hx => h x (List.mem_cons_of_mem _ hx), Rat.add_zero]
theorem sumF_range {F : Nat → Rat} : ∀ (m : Nat) {l : List Nat}, l.Nodup → (∀ x ∈ l, x < m) → (∀ i, i < m → i ∉ l → F i = 0) → sumF F l = sumF F (List.range m)
  | 0, l, _, k, _ => by
    cases l with
    | nil => rfl
    | cons x r => exact absurd (k x (List.mem_cons_self ..)) (Nat.not_lt_zero _)
  | m + 1, l, h, k, z => by
    have ih := sumF_range (F := F) m (h.erase m) (fun x hx => by
      have y := (List.Nodup.mem_erase_iff h).mp hx
      have := k x y.2
      have := y.1
      omega) (fun i hi hn => z i (by omega) fun y => hn ((List.Nodup.mem_erase_iff h).mpr ⟨by omega, y⟩))
    rw [List.range_succ, sumF_app, ← ih]
    show _ = sumF F (l.erase m) + (F m + 0)
    rw [Rat.add_zero]
    by_cases y : m ∈ l
    · rw [sumF_perm (List.perm_cons_erase y)]
      show F m + sumF F (l.erase m) = _
      rw [Rat.add_comm]
    · rw [List.erase_of_not_mem y, z m (by omega) y, Rat.add_zero]
/-- the product -/
def conv (c1 c2 : Nat → Rat) : Nat → Rat := fun j => sumF (fun n => sh n (c1 n) c2 j) (List.range 24)
theorem conv_of {H : Hp} {E : List Ent} {c1 c2 : Nat → Rat} {s : Nat → Nat} (h : RepE H E c1 s) : (fun j => sumF (fun n => sh n (c1 n) c2 j) (E.map Ent.n)) = conv c1 c2 := by
  funext j
  refine sumF_range 24 h.nd (fun x hx => ?_) fun i hi hn => ?_
  · obtain ⟨e, he, rfl⟩ := List.mem_map.mp hx
    exact (h.each e he).lt
  · have : c1 i = 0 := h.out fun e he z => hn (List.mem_map.mpr ⟨e, he, z⟩)
    show sh i (c1 i) c2 j = 0
    unfold sh
    rw [this, Rat.zero_mul]
    split <;> rfl
theorem sh_step {E : List Ent} {a c : Nat → Rat} {i n : Nat} {g : Ent} {x y : Rat} (nd : (E.map Ent.n).Nodup) (he : E[i]? = some g) (hy : y = x * c g.n) : bump (fun j => a j + sh n x (ptR E c i) j) (n + g.n) y = fun j => a j + sh n x (ptR E c (i + 1)) j := by
  have := fun (j : Nat) => congrFun (ptR_step (E := E) (a := fun _ => 0) (c := c) (x := c g.n) nd he rfl) j
  funext j
  unfold bump sh
  dsimp only
  by_cases h : n ≤ j
  · rw [if_pos h, if_pos h]
    have t := this (j - n)
    unfold bump at t
    dsimp only at t
    rw [Rat.zero_add, Rat.zero_add] at t
    rw [← t]
    by_cases q : j = n + g.n
    · rw [if_pos q, if_pos (by omega), hy]
      grind
    · rw [if_neg q, if_neg (by omega), Rat.add_zero, Rat.add_zero]
  · rw [if_neg h, if_neg h, if_neg (by omega), Rat.add_zero]
theorem shN_step {E : List Ent} {a : Nat → Nat} {M i n : Nat} {g : Ent} (nd : (E.map Ent.n).Nodup) (he : E[i]? = some g) : bumpN (fun j => a j + shN n (ptN E (fun _ => M) i) j) (n + g.n) M = fun j => a j + shN n (ptN E (fun _ => M) (i + 1)) j := by
  have := fun (j : Nat) => congrFun (ptN_step (E := E) (a := fun _ => 0) (s := fun _ => M) nd he) j
  funext j
  unfold bumpN shN
  dsimp only
  by_cases h : n ≤ j
  · rw [if_pos h, if_pos h]
    have t := this (j - n)
    unfold bumpN at t
    dsimp only at t
    rw [Nat.zero_add, Nat.zero_add] at t
    rw [← t]
    by_cases q : j = n + g.n
    · rw [if_pos q, if_pos (by omega)]
      omega
    · rw [if_neg q, if_neg (by omega)]
      omega
  · rw [if_neg h, if_neg h, if_neg (by omega)]
theorem shN_le {E : List Ent} {M i n j : Nat} : shN n (ptN E (fun _ => M) i) j ≤ M := by
  unfold shN
  split
  · exact ptN_le (s := fun _ => M)
  · exact Nat.zero_le _
def spProd : Sp := fun vs H Q _ => ∃ (a b : Addr) (c1 c2 : Nat → Rat) (m1 m2 : Nat), vs = [.ref a, .ref b] ∧ FrzP H a c1 (fun _ => m1) ∧ FrzP H b c2 (fun _ => m2) ∧ m1 + m2 ≤ 8000 ∧ (∀ i j, c1 i ≠ 0 → c2 j ≠ 0 → i + j < 24) ∧ ∃ N, (∀ i, N ≤ i → c1 i = 0) ∧ N * (m1 + m2 + 1) ≤ 50000 ∧
  ∀ (d : Addr) (H' : Hp), H d = none → Same H H' → DictP H' d (conv c1 c2) (fun _ => N * (m1 + m2 + 1)) → Q (.ref d) H'
section
variable {P : Program} {w : World} {K : PySem.W.Frag} {mg : Str → Option Value} {base : Heap} {f fd : _}
theorem scProd : FnScope ["one", "other", "found", "powers", "more", "both"] ["one", "other"] (defScope sProduct) := ⟨rfl, rfl, rfl, by decide +kernel, rfl, by decide +kernel, by decide +kernel⟩
theorem ok_prod {fP fS fM : Addr} {fdP fdS fdM : FuncData} (F : Fun K "_law_product" "_law_product" sProduct f fd) (T : Txt mg) (DP : Df K mg "_law_put" sPut ["found", "powers", "number"] fP fdP) (DS : Df K mg "_law_plus" sPlus ["one", "other"] fS fdS) (DM : Df K mg "_law_mul" sLMul ["one", "other"] fM fdM) : FnOk P w K mg base CX0 3 f fd ["one", "other"] spProd := by
  have GP : FnOk P w K mg base CX0 2 fP fdP ["found", "powers", "number"] spPut := ok_put DP.F DS
  have GM : FnOk P w K mg base CX0 1 fM fdM ["one", "other"] spLMul := ok_lmul DM.F
  refine F.ok scProd (fun vs H Q E h => ?_) (fun cdv A outer s H vs Q E hr h => ?_)
  · obtain ⟨a, b, c1, c2, m1, m2, rfl, _⟩ := h
    rfl
  · obtain ⟨a, b, c1, c2, m1, m2, rfl, ⟨E1, o1, ha, R1⟩, ⟨E2, o2, hb, R2⟩, hm, h24, N, hN, hNm, go⟩ := h
    have hr1 : Room 1 _ := hr.mono (by decide)
    have hu : _ + 1 < cLine := Nat.lt_of_le_of_lt (Nat.add_le_add_left (by decide : 1 ≤ 64) _) hr.units
    refine ⟨_, pss_cons (ps_set (i := 2) scProd.nd rfl (Or.inl rfl) (pe_dnewT))
      (pss_cons (ps_for PassesOwn.never rfl (LwD.pi_keys (pv 0)) (pg_name (i := 3) scProd.nd rfl (Or.inl rfl))
        (pss_one (ps_for PassesOwn.never rfl (LwD.pi_keys (pv 1)) (pg_name (i := 4) scProd.nd rfl (Or.inl rfl))
          (pss_cons (ps_set (i := 5) scProd.nd rfl (Or.inl rfl) (pe_callTy call_tuple_of (by rfl) T.tup boot_tuple (pa_cons
            (pe_compN (N := ["a", "b"]) rfl rfl (by decide +kernel) (by decide +kernel) (by decide +kernel) (pi_zipT (by rfl) T.zip (pa_cons (pv 3) (pa_cons (pv 4) pa_nil)))
              (fun C fp s2 H2 => show PG (cxComp _ ["a", "b"] _ C fp s2 H2) _ (gTup K 2 (gCons (gName 0) (gCons (gName 1) gNil))) from pg_tup (X := cxComp _ ["a", "b"] _ C fp s2 H2) rfl (pgs_cons (pg_name (i := 0) (show List.Nodup (["a", "b"] : List Str) by decide +kernel) rfl (Or.inl rfl) (Or.inl rfl)) (pgs_cons (pg_name (i := 1) (show List.Nodup (["a", "b"] : List Str) by decide +kernel) rfl (Or.inl rfl) (Or.inl rfl)) pgs_nil)))
              (fun C fp s2 H2 => pe_op op_add (pv 0) (pv 1))) pa_nil)))
          (pss_one (ps_expr (pe_call GP hr rfl DP.m DP.F.kp DP.b .nil pass0 (pa_cons (pv 2) (pa_cons (pv 5) (pa_cons
            (pe_call GM hr1 rfl DM.m DM.F.kp DM.b .nil pass0 (pa_cons (pe_dget hu (pv 0) (pv 3) (fun _ _ => rfl)) (pa_cons (pe_dget hu (pv 1) (pv 4) (fun _ _ => rfl)) pa_nil))) pa_nil)))))))))
      ) (pss_one (ps_ret (pv 2)))), ?_⟩
    intro d nd
    have s1 : Same H (upd H d (.dT [])) := same_upd _ nd
    generalize hH1 : upd H d (.dT []) = H1 at s1
    have e1 : H1 d = some (.dT []) := hH1 ▸ upd_same
    have bH : ∀ {H3}, But d H1 H3 → Same H H3 := fun {H3} bt x y hx => bt _ _ (s1 _ _ hx) fun z => by rw [z, nd] at hx; cases hx
    have ne : ∀ y ys, H1 y = some (.tup ys) → y ≠ d := fun y ys q z => by rw [z, e1] at q; cases q
    refine ⟨_, rfl, a, o1, _, rfl, s1 _ _ ha, fun p hp => ?_, fun ks hk => ?_⟩
    · obtain ⟨e, he, rfl⟩ := List.mem_map.mp hp
      exact ⟨_, rfl⟩
    have lk : ks.length = E1.length := by rw [hk.1, List.length_map]
    have lN : E1.length ≤ N := by
      have := nodup_lt N R1.nd fun x hx => by
        obtain ⟨e, he, rfl⟩ := List.mem_map.mp hx
        have y := R1.each e he
        by_cases z : e.n < N
        · exact z
        · have := hN e.n (by omega)
          rw [← y.val] at this
          exact absurd this (fv_nz y.pos y.nz)
      rwa [List.length_map] at this
    refine LwD.for_keys (xs := ks) (fun i σ H3 => (∃ u v x, σ = [some (.ref a), some (.ref b), some (.ref d), u, v, x]) ∧ But d H1 H3 ∧ DictP H3 d (fun j => sumF (fun n => sh n (c1 n) c2 j) ((E1.take i).map Ent.n)) (fun _ => i * (m1 + m2 + 1)))
      ⟨⟨_, _, _, rfl⟩, But.refl _ _, [], e1, rep_nil _⟩ (fun i σ H3 h => bH h.2.1 _ _ ha) ?_ ?_
    · rintro i x σ H3 hx ⟨⟨u, v, xx, rfl⟩, b3, D3⟩
      obtain ⟨e, kb, he, rfl, hkb⟩ := keyed_at hk hx
      have eE := List.mem_of_getElem? he
      have hi : i < ks.length := (List.getElem?_eq_some_iff.mp hx).1
      refine ⟨_, rfl, b, o2, _, rfl, bH b3 _ _ hb, fun p hp => ?_, fun ls hl => ?_⟩
      · obtain ⟨g, hg, rfl⟩ := List.mem_map.mp hp
        exact ⟨_, rfl⟩
      have ll : ls.length = E2.length := by rw [hl.1, List.length_map]
      refine LwD.for_keys (xs := ls) (fun k σ H4 => (∃ v x, σ = [some (.ref a), some (.ref b), some (.ref d), some (.ref kb), v, x]) ∧ But d H3 H4 ∧
          DictP H4 d (fun j => sumF (fun n => sh n (c1 n) c2 j) ((E1.take i).map Ent.n) + sh e.n (c1 e.n) (ptR E2 c2 k) j) (fun j => i * (m1 + m2 + 1) + shN e.n (ptN E2 (fun _ => m1 + m2 + 1) k) j))
        ⟨⟨_, _, rfl⟩, But.refl _ _, ?_⟩ (fun k σ H4 h => bH (b3.trans h.2.1) _ _ hb) ?_ ?_
      · have z1 : (fun j => sumF (fun n => sh n (c1 n) c2 j) ((E1.take i).map Ent.n) + sh e.n (c1 e.n) (ptR E2 c2 0) j) = fun j => sumF (fun n => sh n (c1 n) c2 j) ((E1.take i).map Ent.n) := by
          funext j
          unfold sh ptR
          simp [Rat.mul_zero, Rat.add_zero]
        rw [z1]
        exact D3.mono fun j => Nat.le_add_right _ _
      · rintro k y σ H4 hy ⟨⟨v, xx, rfl⟩, b4, D4⟩
        obtain ⟨g, mb, hg, rfl, hmb⟩ := keyed_at hl hy
        have gE := List.mem_of_getElem? hg
        have b14 := b3.trans b4
        have s4 := bH b14
        have ne3 : ∀ y ys, H3 y = some (.tup ys) → y ≠ d := fun y ys q z => by
          obtain ⟨EE, q', _⟩ := D3
          rw [z, q'] at q
          cases q
        have hkb4 : H4 kb = some (.tup [.int e.n]) := b14 _ _ hkb (ne _ _ hkb)
        have hmb4 : H4 mb = some (.tup [.int g.n]) := b4 _ _ hmb (ne3 _ _ hmb)
        refine ⟨_, rfl, _, rfl, kb, mb, rfl, ⟨_, SqT.of hkb4⟩, ⟨_, SqT.of hmb4⟩, fun l H5 n5 s5 e5 => ?_⟩
        refine comp_zip (K := K) (a := kb) (b := mb) (ts := [.int e.n]) (us := [.int g.n]) (fun i ys H6 => Same H4 H6 ∧ H6 l = some (.lst ys) ∧ (i = 0 → ys = []) ∧ (i = 1 → ys = [.int ((e.n : Int) + g.n)])) (Nat.le_refl _) (by show 1 < sizeLine; decide) ⟨s5, e5, fun _ => rfl, fun z => by omega⟩
          (fun i ys H6 h => ⟨SqT.of (h.1 _ _ hkb4), SqT.of (h.1 _ _ hmb4), h.2.1⟩) ?_ ?_
        · rintro i' m ys x y c H6 hx hy hm' hl' ⟨s6, e6, y0, _⟩ hc
          have i0 : i' = 0 := by
            have := (List.getElem?_eq_some_iff.mp hx).1
            simp at this
            exact this
          subst i0
          cases hx
          cases hy
          have s7 : Same H6 (upd H6 c (.tup [.int e.n, .int g.n])) := same_upd _ hc
          refine ⟨c, _, rfl, SqT.of upd_same, rfl, _, _, rfl, _, _, rfl, rfl, _, rfl, _, rfl, _, _, rfl, rfl, ?_⟩
          refine comp_next rfl hm' hl' (s7 _ _ e6) ⟨put_same (s6.trans s7) n5, upd_same, fun z => by omega, fun _ => by rw [y0 rfl]; rfl⟩
        · rintro ys H6 _ ⟨s6, e6, _, y1⟩
          rw [y1 rfl] at e6
          refine ⟨l, _, rfl, .inl ⟨SqL.of e6, fun t nt => ?_⟩⟩
          have s7 : Same H6 (upd H6 t (.tup [.int ((e.n : Int) + g.n)])) := same_upd _ nt
          have e7 : (upd H6 t (.tup [.int ((e.n : Int) + g.n)])) t = some (.tup [.int ((e.n : Int) + g.n)]) := upd_same
          generalize upd H6 t (.tup [.int ((e.n : Int) + g.n)]) = H7 at s7 e7
          have s47 : Same H4 H7 := s6.trans s7
          have s7' : Same H H7 := s4.trans s47
          have Ra := R1.map fun a xs q => s7' a _ q
          have Rb := R2.map fun a xs q => s7' a _ q
          have xa := Ra.each e eE
          have xb := Rb.each g gE
          have D7 := D4.same s47
          have big : ∀ {z : Int} {m : Nat}, z.natAbs < 2 ^ m → m ≤ 8000 → z.natAbs < 2 ^ 50000 := fun h k => abs_up h (by omega)
          refine ⟨_, rfl, _, rfl, _, rfl, _, rfl, a, _, rfl, frz_get (s7' _ _ ha) Ra eE (s47 _ _ hkb4), _, rfl, _, rfl, b, _, rfl, frz_get (s7' _ _ hb) Rb gE (s47 _ _ hmb4), e.c, g.c, e.t, e.b, g.t, g.b, rfl, xa.at', xb.at', big xa.st (by omega), big xa.sb (by omega), big xb.st (by omega), big xb.sb (by omega), fun r H8 n8 s8 e8 => ?_⟩
          have ng : e.n + g.n < 24 := h24 _ _ (by rw [← xa.val]; exact fv_nz xa.pos xa.nz) (by rw [← xb.val]; exact fv_nz xb.pos xb.nz)
          have D8 := D7.same s8
          refine ⟨d, t, r, e.n + g.n, m1 + m2, e.t * g.t, e.b * g.b, _, _, rfl, D8, s8 _ _ e7, ng, e8, Int.mul_pos xa.pos xb.pos, abs_mul xa.st xb.st, abs_mul xa.sb xb.sb, hm, ?_, fun H9 b9 D9 => ?_⟩
          · have h1 : shN e.n (ptN E2 (fun _ => m1 + m2 + 1) k) (e.n + g.n) = 0 := by
              unfold shN
              rw [if_pos (Nat.le_add_right ..), Nat.add_sub_cancel_left]
              unfold ptN
              rw [if_neg (take_new R2.nd hg)]
            show i * (m1 + m2 + 1) + shN e.n (ptN E2 (fun _ => m1 + m2 + 1) k) (e.n + g.n) ≤ 50000
            rw [h1, Nat.add_zero]
            exact Nat.le_trans (Nat.mul_le_mul_right _ (by omega)) hNm
          · rw [sh_step R2.nd hg (by rw [fv_mul xa.pos xb.pos, xa.val, xb.val]), shN_step R2.nd hg] at D9
            refine ⟨⟨_, _, rfl⟩, (b4.trans (But.of (s47.trans s8))).trans b9, D9⟩
      · rintro σ H4 ⟨⟨v, xx, rfl⟩, b4, D4⟩
        refine ⟨⟨_, _, _, rfl⟩, b3.trans b4, ?_⟩
        rw [ll, ptR_all R2] at D4
        have tk : (E1.take (i + 1)).map Ent.n = (E1.take i).map Ent.n ++ [e.n] := by
          obtain ⟨h1, h2⟩ := List.getElem?_eq_some_iff.mp he
          rw [List.take_succ_eq_append_getElem h1, h2, List.map_append]
          rfl
        have z2 : (fun j => sumF (fun n => sh n (c1 n) c2 j) ((E1.take (i + 1)).map Ent.n)) = fun j => sumF (fun n => sh n (c1 n) c2 j) ((E1.take i).map Ent.n) + sh e.n (c1 e.n) c2 j := by
          funext j
          rw [tk, sumF_app]
          show _ + (_ + 0) = _
          rw [Rat.add_zero]
        rw [z2]
        exact D4.mono fun j => by
          rw [Nat.add_mul, Nat.one_mul]
          exact Nat.add_le_add_left shN_le _
    · rintro σ H3 ⟨⟨u, v, xx, rfl⟩, b3, D3⟩
      rw [lk, List.take_length, conv_of R1] at D3
      exact ⟨_, rfl, go d H3 nd (bH b3) (D3.mono fun j => Nat.mul_le_mul_right _ lN)⟩
end
end Lw

namespace LwD
open PySem PySem.Spec PyProof.Rows L2 Lw
/-! ### len(d) of a dict of tuple keys -/
section
variable {prog : Program} {w : World} {A : Around} {E : Value → Shared → Prop} {s : Shared}
theorem meets_lenT (d : Addr) (hd : (d == sysModules) = false) :
    MeetsIn prog w (Builtin.«dict.__len__» ⟨[.ref d], []⟩) (fun _ R s => ∃ xs, s.heap.DictOfH (tkd prog w) d xs ∧ R (.ok (.ret (.int (xs.length : Nat) s.toks))) { s with toks := s.toks + 1 }) :=
  .of_wp fun A R s ⟨xs, hm, h⟩ => by
    obtain ⟨o, es, ep, ho, hc, hdat, he, hi, hn⟩ := hm
    show wpAny _ _ (dictSize d >>= _) _ _ s
    unfold dictSize
    refine wpAny_bind (wpAny_bind (wpAny_dictEntries ho hdat (wpAny_pure ?_)))
    show wpAny _ _ (Builtin.Dict.pendingCount d >>= _) _ _ s
    refine wpAny_bind (wpAny_pendingCount_other hd ?_)
    refine wpAny_ret_mkInt ?_
    have lz : es.size = xs.length := size_of_entries he
    rw [Nat.add_zero, lz]
    exact h
theorem len_dictT {d : Addr} {xs : List (List Key × Addr × Value)} {Q : Value → Shared → Prop} (hd : (d == sysModules) = false) (hm : s.heap.DictOfH (tkd prog w) d xs) (hz : xs.length ≤ sizeLine)
    (h : Q (.int xs.length (s.toks + 1)) { s with toks := s.toks + 1 + 1 }) : wpAny (model prog w) A (call (.builtin "len") [.ref d]) Q E s := by
  have hT : s.TypeIs (.ref d) "dict" := dict_ty hm
  have hz' : xs.length < 2 ^ 62 := Nat.lt_of_le_of_lt hz (by decide)
  refine Calls.call_function_entry kind_len plain_len entry_len (args_len1 _) ?_
  unfold Builtin.«len»
  refine wpAny_bind (m := oneArg "len" _) (wpAny_pure ?_)
  refine wpAny_bind (m := callSpecial? (.ref d) (Str.ofString "__len__")) (wpAny_callSpecial?_slot (name := Str.ofString "__len__") hT F.slot_dict_len
    (call_meetsIn F.slot_dict_len hT F.entry_dict_len (F.args_dict_len_1 _) (meets_lenT d hd) ⟨xs, hm, ?_⟩))
  show wpAny _ _ _ _ _ { s with toks := s.toks + 1 }
  refine wpAny_bind (wpAny_holding (wpAny_pure ?_))
  refine wpAny_bind (wpAny_letGo ?_)
  show wpAny _ _ (if ((xs.length : Nat) : Int) < 0 then _ else _) _ _ _
  rw [if_neg (by omega)]
  show wpAny _ _ (if ((xs.length : Nat) : Int) ≥ 2 ^ 63 then _ else _) _ _ _
  rw [if_neg (by omega)]
  exact wpAny_bind (wpAny_mkInt (wpAny_pure ⟨_, rfl, h⟩))
end
theorem call_lenT {X : Cx} : CallR X (.builtin "len") (fun xs H Q => ∃ a kvs, xs = [V.ref a] ∧ Rd H a (.dT kvs) ∧ Q (.int kvs.length) H) := by
  intro pins s σ H xs us Q I r h
  obtain ⟨a, kvs, rfl, ha, q⟩ := h
  obtain ⟨u, rfl, ru⟩ := vals1 r
  cases ru
  obtain ⟨z, lo, ks, rel, dd⟩ := dt_rd I.hok ha
  have lz := Paired.length rel
  refine len_dictT lo dd (by omega) ⟨.int kvs.length, H, I.tok _, ?_, q⟩
  rw [lz]
  exact ⟨_, rfl⟩
end LwD
namespace Lw
open PySem PySem.Spec PyProof.Rows L2 LwQ
theorem two_idx {X : Cx} {scope : Scope} {own j0 j1 : Nat} {N : List Str} {x0 x1 : Str} (h0 : N[own]? = some x0) (h1 : N[own + 1]? = some x1) (a : X.N[j0]? = some x0 ∧ X.env.kindOf x0 = some .cell ∧ (relabel scope X.env).names.lookup x0 = some .cell ∧ X.env.scope.names.lookup x0 = some .cell)
    (b : X.N[j1]? = some x1 ∧ X.env.kindOf x1 = some .cell ∧ (relabel scope X.env).names.lookup x1 = some .cell ∧ X.env.scope.names.lookup x1 = some .cell) :
    ∀ (k j : Nat) (x : Str), [j0, j1][k]? = some j → N[own + k]? = some x → X.N[j]? = some x ∧ X.env.kindOf x = some .cell ∧ (relabel scope X.env).names.lookup x = some .cell ∧ X.env.scope.names.lookup x = some .cell := by
  intro k j x e1 e2
  match k, e1, e2 with
  | 0, e1, e2 =>
    cases e1
    rw [Nat.add_zero, h0] at e2
    cases e2
    exact a
  | 1, e1, e2 =>
    cases e1
    rw [h1] at e2
    cases e2
    exact b
  | k + 2, e1, _ => cases e1
theorem sub_of {cl cells : List (Str × Addr)} (h : ∀ y ∈ cl, cells.lookup y.1 = some y.2) : ∀ x c, cl.lookup x = some c → cells.lookup x = some c := fun x c e => h (x, c) (PySem.mem_of_lookup e)
theorem nodup_sub : ∀ {l m : List Nat}, l.Nodup → (∀ x ∈ l, x ∈ m) → l.length ≤ m.length
  | [], _, _, _ => Nat.zero_le _
  | a :: l, m, h, k => by
    have h1 := List.nodup_cons.mp h
    have am := k a (List.mem_cons_self ..)
    have := nodup_sub (l := l) (m := m.erase a) h1.2 fun x hx => (List.mem_erase_of_ne (by rintro rfl; exact h1.1 hx)).mpr (k x (List.mem_cons_of_mem _ hx))
    rw [List.length_erase_of_mem am] at this
    have : 0 < m.length := List.length_pos_of_mem am
    rw [List.length_cons]
    omega
theorem rep_len {H : Hp} {E F : List Ent} {c : Nat → Rat} {s z : Nat → Nat} (h : RepE H E c s) (k : RepE H F c z) : E.length ≤ F.length := by
  have := nodup_sub h.nd (m := F.map Ent.n) fun x hx => by
    obtain ⟨e, he, rfl⟩ := List.mem_map.mp hx
    have y := h.each e he
    obtain ⟨g, hg, eg⟩ := k.all e.n (by rw [← y.val]; exact fv_nz y.pos y.nz)
    exact List.mem_map.mpr ⟨g, hg, eg⟩
  simpa using this
def spSame : Sp := fun vs H Q _ => ∃ (a b : Addr) (c : Nat → Rat) (s1 s2 : Nat → Nat), vs = [.ref a, .ref b] ∧ FrzP H a c s1 ∧ FrzP H b c s2 ∧ (∀ n, s1 n ≤ 50000) ∧ (∀ n, s2 n ≤ 50000) ∧ ∀ (H' : Hp), Same H H' → Q (.bl true) H'
theorem all_true : ∀ {bs : List Bool}, (∀ b ∈ bs, b = true) → bs.all id = true := fun h => List.all_eq_true.mpr fun x hx => h x hx
section
variable {P : Program} {w : World} {K : PySem.W.Frag} {mg : Str → Option Value} {base : Heap} {f fd : _}
theorem scSame : FnScope ["one", "other"] ["one", "other"] (defScope sSame) := ⟨rfl, rfl, rfl, by decide +kernel, rfl, by decide +kernel, by decide +kernel⟩
theorem ok_same {fL : Addr} {fdL : FuncData} (F : Fun K "_law_same" "_law_same" sSame f fd) (T : Txt mg) (DL : Df K mg "_law_like" sLike ["one", "other"] fL fdL) : FnOk P w K mg base CX0 2 f fd ["one", "other"] spSame := by
  have GL : FnOk P w K mg base CX0 1 fL fdL ["one", "other"] spLike := ok_like DL.F
  refine F.ok scSame (fun vs H Q E h => ?_) (fun cdv A outer s H vs Q E hr h => ?_)
  · obtain ⟨a, b, c, s1, s2, rfl, _⟩ := h
    rfl
  · obtain ⟨a, b, c, z1, z2, rfl, ⟨E1, o1, ha, R1⟩, ⟨E2, o2, hb, R2⟩, q1, q2, go⟩ := h
    have hu : _ + 1 < cLine := Nat.lt_of_le_of_lt (Nat.add_le_add_left (by decide : 1 ≤ 64) _) hr.units
    refine ⟨_, pss_cons (ps_if (pt_cmpR op_ne (pe_callB LwD.call_lenT (by rfl) T.len PySem.boot_len (pa_cons (pv 0) pa_nil)) (pe_callB LwD.call_lenT (by rfl) T.len PySem.boot_len (pa_cons (pv 1) pa_nil)) (nomark _)) (pss_one (ps_ret pe_bl)) pss_nil)
      (pss_one (ps_ret (pe_callB (call_all rfl) (by rfl) T.all boot_all (pa_cons
        (pe_compF (own := 1) (idx := [0, 1]) (N := ["powers", "one", "other"]) rfl rfl rfl (by decide +kernel) (by decide +kernel) (sub_of (by intro y hy; simp only [List.mem_cons, List.not_mem_nil, or_false] at hy; rcases hy with rfl | rfl <;> rfl)) (has_of rfl) rfl (two_idx rfl rfl ⟨rfl, rfl, rfl, rfl⟩ ⟨rfl, rfl, rfl, rfl⟩) (LwD.pi_keys (pv 0))
          (fun C fp s2 H2 => pg_name (i := 0) (show List.Nodup (["powers", "one", "other"] : List Str) by decide +kernel) rfl (Or.inl rfl))
          (fun C fp s2 H2 => pe_and (pe_cmp (pc_din hu (pv 0) (pv 2))) (pe_one (pe_call GL hr rfl DL.m DL.F.kp DL.b .nil pass0 (pa_cons (pe_dget hu (pv 1) (pv 0) (fun _ _ => rfl)) (pa_cons (pe_dget hu (pv 2) (pv 0) (fun _ _ => rfl)) pa_nil)))))) pa_nil)))), ?_⟩
    have ll : E1.length = E2.length := Nat.le_antisymm (rep_len R1 R2) (rep_len R2 R1)
    refine ⟨_, rfl, a, _, rfl, .inr ⟨o1, ha⟩, _, rfl, b, _, rfl, .inr ⟨o2, hb⟩, rfl, _, rfl, ?_⟩
    refine iteN (by rw [List.length_map, List.length_map, ll]; simp) ?_
    refine ⟨_, rfl, a, o1, _, rfl, ha, fun p hp => ?_, fun ks hk => fun l H1 n1 s1 e1 => ?_⟩
    · obtain ⟨e, he, rfl⟩ := List.mem_map.mp hp
      exact ⟨_, rfl⟩
    have lk : ks.length = E1.length := by rw [hk.1, List.length_map]
    refine comp_by (xs := ks) (fun i ys H2 => Same H H2 ∧ H2 l = some (.lst ys) ∧ ys = (List.replicate i true).map V.bl) (by rw [lk]; exact Nat.lt_of_le_of_lt R1.few (by decide)) ⟨s1, e1, rfl⟩
      (fun i ys H2 h hi => ⟨⟨h.1 _ _ ha, hi⟩, fun x H3 y => ⟨y.1, y.2⟩⟩) (fun ys H2 h => ⟨h.1 _ _ ha, rfl⟩) (fun i ys H2 h => h.2.1) ?_ ?_
    · rintro i m ys x H2 hx hm hy ⟨s2, e2, hys⟩
      obtain ⟨e, kb, he, rfl, hkb⟩ := keyed_at hk hx
      have eE := List.mem_of_getElem? he
      have xa := (R1.map fun a xs q => s2 a _ q).each e eE
      have Rb := R2.map fun a xs q => s2 a _ q
      obtain ⟨g, gE, eg⟩ := R2.all e.n (by rw [← xa.val]; exact fv_nz xa.pos xa.nz)
      have xb := Rb.each g gE
      have hkb2 := s2 _ _ hkb
      have ga := frz_get (s2 _ _ ha) (R1.map fun a xs q => s2 a _ q) eE hkb2
      have gb := frz_get (s2 _ _ hb) Rb gE (by rw [eg]; exact hkb2)
      refine ⟨keep1, _, rfl, _, rfl, b, _, rfl, gb, ?_⟩
      have big : ∀ {z : Int} {m : Nat}, z.natAbs < 2 ^ m → m ≤ 50000 → z.natAbs < 2 ^ 50000 := fun h k => abs_up h k
      have eq : e.t * g.b = g.t * e.b := fv_inj xa.pos xb.pos (by rw [xa.val, xb.val, eg])
      refine ⟨true, rfl, iteT ⟨_, rfl, _, rfl, a, _, rfl, ga, _, rfl, _, rfl, b, _, rfl, gb, e.c, g.c, e.t, e.b, g.t, g.b, rfl, xa.at', xb.at', big xa.st (q1 _), big xa.sb (q1 _), big xb.st (q2 _), big xb.sb (q2 _), eq, ?_⟩⟩
      refine comp_next hx hm hy e2 ⟨put_same s2 n1, upd_same, ?_⟩
      rw [hys, List.replicate_succ', List.map_append]
      rfl
    · rintro ys H2 hy ⟨s2, e2, hys⟩
      rw [hys] at e2
      refine ⟨l, _, rfl, SqL.of e2, ?_⟩
      rw [all_true fun b hb => (List.mem_replicate.mp hb).2]
      exact go H2 s2
end
end Lw

namespace Lw
open PySem PySem.Spec PyProof.Rows L2 LwQ
theorem comp_tup {K : PySem.W.Frag} {a : Addr} {xs : List V} {n : Nat} {g : TG} {te : TE} {Q : VK} {p : Addr} {H' : Hp} (Pv : Nat → List V → Hp → Prop) (hz : xs.length < sizeLine) (h0 : Pv 0 [] H')
    (hl : ∀ i ys H2, Pv i ys H2 → SqT K H2 a xs ∧ H2 p = some (.lst ys))
    (hs : ∀ i m ys x H2, xs[i]? = some x → m = xs.length - i → ys.length = i → Pv i ys H2 → g x (List.replicate n none) H2 fun σ4 H4 => te σ4 H4 fun y H5 => H5 p = some (.lst ys) ∧ ∃ m', m' < m ∧ CompW xs Pv (i + 1) m' (ys ++ [y]) (upd H5 p (.lst (ys ++ [y]))))
    (hd : ∀ ys H2, ys.length = xs.length → Pv xs.length ys H2 → Q (.ref p) H2) : CompGo n (Itt K a) g te Q p H' := by
  refine ⟨CompW xs Pv, ⟨_, rfl, Nat.zero_le _, rfl, h0⟩, ?_⟩
  rintro i m ys H2 ⟨hm, hi, hy, hp⟩
  obtain ⟨q, e⟩ := hl i ys H2 hp
  refine ⟨e, by omega, ?_⟩
  by_cases hlt : i < xs.length
  · refine .inr ⟨⟨xs, xs[i], q, by simp [hlt]⟩, ?_⟩
    rintro x H3 ⟨rfl, y⟩
    exact hs i m ys x _ (y xs q) hm hy hp
  · obtain rfl : i = xs.length := by omega
    exact .inl ⟨⟨xs, q, Nat.le_refl _⟩, hd ys H2 hy hp⟩
def upTo (n : Nat) : List V := (List.range n).map fun (i : Nat) => V.int (0 + (i : Int))
theorem upTo_len (n : Nat) : (upTo n).length = n := by simp [upTo]
theorem upTo_get {n i : Nat} {x : V} (h : (upTo n)[i]? = some x) : x = .int (0 + (i : Int)) ∧ i < n := by
  unfold upTo at h
  rw [List.getElem?_map] at h
  cases e : (List.range n)[i]? with
  | none => rw [e] at h; cases h
  | some j =>
    rw [e] at h
    obtain ⟨h1, h2⟩ := List.getElem?_eq_some_iff.mp e
    rw [List.getElem_range] at h2
    subst h2
    rw [List.length_range] at h1
    exact ⟨(Option.some.inj h).symm, h1⟩
theorem comp_rangeF {n : Nat} {σ0 : L2.St} {g : TG} {te : TE} {Q : VK} {p : Addr} {H' : Hp} (Pv : Nat → List V → Hp → Prop) (hz : n < sizeLine) (h0 : Pv 0 [] H') (hl : ∀ i ys H2, Pv i ys H2 → H2 p = some (.lst ys))
    (hs : ∀ i m ys x H2, (upTo n)[i]? = some x → m = (upTo n).length - i → ys.length = i → Pv i ys H2 → g (.int (0 + (i : Int))) σ0 H2 fun σ4 H4 => Keep σ0 σ4 ∧ te σ4 H4 fun y H5 => H5 p = some (.lst ys) ∧ ∃ m', m' < m ∧ CompW (upTo n) Pv (i + 1) m' (ys ++ [y]) (upd H5 p (.lst (ys ++ [y]))))
    (hd : ∀ ys H2, ys.length = n → Pv n ys H2 → Q (.ref p) H2) : CompGoF σ0 (Itr 0 n) g te Q p H' := by
  refine comp_by (xs := upTo n) Pv (by rw [upTo_len]; exact hz) h0 (fun i ys H2 _ hi => ?_) (fun ys H2 _ => by rw [upTo_len]; exact Nat.le_refl n) hl (fun i m ys x H2 hx hm hy hp => ?_) (fun ys H2 hy hp => ?_)
  · rw [upTo_len] at hi
    refine ⟨hi, ?_⟩
    rintro x H3 ⟨rfl, rfl⟩
    exact ⟨rfl, by unfold upTo; rw [List.getElem?_map, List.getElem?_range hi]; rfl⟩
  · obtain ⟨e, _⟩ := upTo_get hx
    subst e
    exact hs i m ys _ H2 hx hm hy hp
  · rw [upTo_len] at hy hp
    exact hd ys H2 hy hp
theorem paired_get {α β : Type} {R : α → β → Prop} : ∀ {l : List α} {m : List β}, Paired R l m → ∀ {i : Nat} {x : α}, l[i]? = some x → ∃ y, m[i]? = some y ∧ R x y
  | _, _, .nil, i, x, h => by simp at h
  | _, _, .cons (b := b) h t, i, x, e => by
    cases i with
    | zero => cases e; exact ⟨b, rfl, h⟩
    | succ i => exact paired_get t e
theorem sup_mem {c : Nat → Rat} {n : Nat} : n ∈ sup c ↔ n < 24 ∧ c n ≠ 0 := by
  unfold sup
  rw [List.mem_filter, List.mem_range, decide_eq_true_iff]
def F24 (c : Nat → Rat) : Prop := ∀ j, 24 ≤ j → c j = 0
theorem sup_few (c : Nat → Rat) : (sup c).length ≤ 24 := Nat.le_trans (List.length_filter_le ..) (by rw [List.length_range]; exact Nat.le_refl _)
def spDegree : Sp := fun vs H Q _ => ∃ (p : Addr) (c : Nat → Rat), vs = [.ref p] ∧ SumC H p c ∧ F24 c ∧ ∀ (n : Nat) (H' : Hp), Same H H' → IsDeg c n → Q (.int n) H'
section
variable {P : Program} {w : World} {K : PySem.W.Frag} {mg : Str → Option Value} {base : Heap} {f fd : _}
theorem scDegree : FnScope ["one"] ["one"] (defScope sDegree) := ⟨rfl, rfl, rfl, by decide +kernel, rfl, by decide +kernel, by decide +kernel⟩
theorem ok_degree (F : Fun K "degree" "degree" sDegree f fd) (T : Txt mg) : FnOk P w K mg base CX0 1 f fd ["one"] spDegree := by
  refine F.ok scDegree (fun vs H Q E h => ?_) (fun cdv A outer s H vs Q E hr h => ?_)
  · obtain ⟨p, c, rfl, _⟩ := h
    rfl
  · obtain ⟨p, c, rfl, ⟨q, o, xs, hp, hq, _, hT⟩, f24, go⟩ := h
    refine ⟨_, pss_one (ps_ret (LwMx.pe_maxD rfl (by rfl) T.max (pa_cons (pe_compN (N := ["powers", "fraction"]) rfl rfl (by decide +kernel) (by decide +kernel) (by decide +kernel) (pi_tup (pe_ix ix_tup (pv 0) pe_int (fun _ _ => rfl)))
      (fun C fp s2 H2 => show PG (cxComp _ ["powers", "fraction"] _ C fp s2 H2) _ (gTup K 2 (gCons (gName 0) (gCons (gName 1) gNil))) from pg_tup (X := cxComp _ ["powers", "fraction"] _ C fp s2 H2) rfl (pgs_cons (pg_name (i := 0) (show List.Nodup (["powers", "fraction"] : List Str) by decide +kernel) rfl (Or.inl rfl) (Or.inl rfl)) (pgs_cons (pg_name (i := 1) (show List.Nodup (["powers", "fraction"] : List Str) by decide +kernel) rfl (Or.inl rfl) (Or.inl rfl)) pgs_nil)))
      (fun C fp s2 H2 => pe_callB (show CallR (cxComp _ ["powers", "fraction"] _ C fp s2 H2) (.builtin "sum") (rSumT K) from call_sumT rfl) (by rfl) T.sum boot_sum (pa_cons (pv 0) pa_nil))) pa_nil) (pk_cons pe_int pk_nil))), ?_⟩
    have sq : ∀ {H2}, Same H H2 → SqT K H2 q xs := fun s => .inl (.inr ⟨o, s _ _ hq⟩)
    refine ⟨_, rfl, p, _, _, _, rfl, rfl, SqT.of hp, rfl, q, rfl, ⟨xs, sq (Same.refl _)⟩, fun l H1 n1 s1 e1 => ?_⟩
    have lx := Paired.length hT
    have few := sup_few c
    refine comp_tup (K := K) (a := q) (xs := xs) (fun i ys H2 => Same H H2 ∧ H2 l = some (.lst ys) ∧ ys = ((sup c).take i).map fun (n : Nat) => V.int n) (Nat.lt_of_le_of_lt (show xs.length ≤ 24 by omega) (by decide)) ⟨s1, e1, rfl⟩ (fun i ys H2 h => ⟨sq h.1, h.2.1⟩) ?_ ?_
    · rintro i m ys x H2 hx hm hy ⟨s2, e2, hys⟩
      obtain ⟨n, hn, r, b, c', rfl, t1, t2, t3⟩ := paired_get hT hx
      have n24 := (sup_mem.mp (List.mem_of_getElem? hn)).1
      refine ⟨r, _, rfl, SqT.of (s2 _ _ t1), rfl, _, _, rfl, _, _, rfl, rfl, ?_⟩
      refine ⟨_, rfl, b, [(n : Int)], rfl, SqT.of (s2 _ _ t2), fun z hz => ?_, by simp, ?_⟩
      · rw [List.mem_singleton.mp hz]
        omega
      · refine comp_next hx hm hy e2 ⟨put_same s2 n1, upd_same, ?_⟩
        rw [hys, List.take_succ, hn, List.map_append]
        simp
    · rintro ys H2 hl ⟨s2, e2, hys⟩
      rw [lx, List.take_length] at hys
      have hm : ys = ((sup c).map fun (n : Nat) => (n : Int)).map V.int := by rw [hys, List.map_map]; rfl
      refine ⟨0, rfl, l, (sup c).map fun (n : Nat) => (n : Int), rfl, by rw [← hm]; exact e2, fun z => ?_, fun m h1 h2 => ?_⟩
      · refine go 0 H2 s2 ⟨fun j hj => ?_, .inl rfl⟩
        have : sup c = [] := by simpa using z
        by_cases j24 : j < 24
        · have := sup_mem.mpr ⟨j24, hj⟩
          simp_all
        · exact absurd (f24 j (by omega)) hj
      · obtain ⟨n, hn, rfl⟩ := List.mem_map.mp h1
        refine go n H2 s2 ⟨fun j hj => ?_, .inr (sup_mem.mp hn).2⟩
        by_cases j24 : j < 24
        · have := h2 j (List.mem_map.mpr ⟨j, sup_mem.mpr ⟨j24, hj⟩, rfl⟩)
          omega
        · exact absurd (f24 j (by omega)) hj
end
end Lw

namespace Lw
open PySem PySem.Spec PyProof.Rows L2 LwQ
def Ngt (K : PySem.W.Frag) (mg : Str → Option Value) : Prop := ∃ a, mg "NOUGHT" = some (.ref a) ∧ ∀ H, SqT K H a [.int 0, .int 1]
/-- a list of numbers, each in lowest terms -/
def NumAt (K : PySem.W.Frag) (H : Hp) (x : V) (r : Rat) : Prop := ∃ a, x = .ref a ∧ SqT K H a [.int r.num, .int r.den] ∧ (r ≠ 0 → At2 H a r.num r.den)
def NumsAt (K : PySem.W.Frag) (H : Hp) (xs : List V) (rs : List Rat) : Prop := Paired (NumAt K H) xs rs
theorem NumAt.same {K : PySem.W.Frag} {H H' : Hp} {x : V} {r : Rat} (h : NumAt K H x r) (s : Same H H') : NumAt K H' x r := let ⟨a, e, q, z⟩ := h; ⟨a, e, sqT_same s q, fun n => s _ _ (z n)⟩
theorem NumsAt.same {K : PySem.W.Frag} {H H' : Hp} {xs : List V} {rs : List Rat} (h : NumsAt K H xs rs) (s : Same H H') : NumsAt K H' xs rs := Paired.mono (fun _ _ y => NumAt.same y s) h
theorem NumAt.upd {K : PySem.W.Frag} {H : Hp} {x : V} {r : Rat} {l : Addr} {ys : List V} {o : HO} (h : NumAt K H x r) (e : H l = some (.lst ys)) : NumAt K (upd H l o) x r := by
  obtain ⟨a, rfl, q, z2⟩ := h
  refine ⟨a, rfl, ?_, fun n => by
    have y := z2 n
    unfold At2 at y ⊢
    rw [upd_ne (fun z => by rw [z, e] at y; cases y)]
    exact y⟩
  rcases q with (q | ⟨u, q⟩) | q
  · exact .inl (.inl (by rw [upd_ne (fun z => by rw [z, e] at q; cases q)]; exact q))
  · exact .inl (.inr ⟨u, by rw [upd_ne (fun z => by rw [z, e] at q; cases q)]; exact q⟩)
  · exact .inr q
/-- the terms of a tuple as entries of a dict -/
theorem terms_ent {H : Hp} {c : Nat → Rat} {s : Nat → Nat} (hs : ∀ n, (c n).num.natAbs < 2 ^ s n ∧ (c n).den < 2 ^ s n) : ∀ {xs : List V} {l : List Nat}, TermsP H c xs l → (∀ n ∈ l, n < 24 ∧ c n ≠ 0) → ∃ E : List Ent, E.map Ent.n = l ∧ LwD.PairsIn H xs (E.map Ent.kv) ∧ ∀ e ∈ E, EntP H c s e ∧ e.t = (c e.n).num ∧ e.b = ((c e.n).den : Int)
  | _, _, .nil, _ => ⟨[], rfl, .nil, fun _ h => nomatch h⟩
  | _, _, .cons (b := n) h t, k => by
    obtain ⟨E, e1, e2, e3⟩ := terms_ent hs t fun m hm => k m (List.mem_cons_of_mem _ hm)
    obtain ⟨r, b, q, rfl, h1, h2, h3⟩ := h
    have kn := k n (List.mem_cons_self ..)
    have nl := num_low (c n)
    refine ⟨⟨n, q, (c n).num, (c n).den⟩ :: E, by rw [List.map_cons, e1], .cons ⟨r, b, rfl, .inl h1, by rw [show (Ent.kv ⟨n, q, (c n).num, (c n).den⟩).1 = LwD.ik [(n : Int)] from rfl, LwD.ik_map]; exact h2⟩ e2, fun e he => ?_⟩
    rcases List.mem_cons.mp he with rfl | he
    · refine ⟨⟨kn.1, h3, nl.1, fun z => kn.2 ?_, fv_num _, (hs n).1, ?_⟩, rfl, rfl⟩
      · have := fv_num (c n)
        rw [← this, show (c n).num = 0 from z]
        exact fv_eq nl.1 (by decide) (by simp) |>.trans fv_zero
      · have := (hs n).2
        show ((c n).den : Int).natAbs < _
        rw [Int.natAbs_natCast]
        exact this
    · exact e3 e he
theorem terms_rep {H : Hp} {c : Nat → Rat} {s : Nat → Nat} {xs : List V} (hs : ∀ n, (c n).num.natAbs < 2 ^ s n ∧ (c n).den < 2 ^ s n) (h : TermsP H c xs (sup c)) (f : F24 c) : ∃ E : List Ent, LwD.PairsIn H xs (E.map Ent.kv) ∧ RepE H E c s ∧ ∀ e ∈ E, e.t = (c e.n).num ∧ e.b = ((c e.n).den : Int) := by
  obtain ⟨E, e1, e2, e3⟩ := terms_ent hs h fun n hn => sup_mem.mp hn
  refine ⟨E, e2, ⟨by rw [e1]; exact (sup_pw c).imp fun h => Nat.ne_of_lt h, fun e he => (e3 e he).1, fun j hj => ?_⟩, fun e he => (e3 e he).2⟩
  have : j ∈ E.map Ent.n := by
    rw [e1]
    refine sup_mem.mpr ⟨?_, hj⟩
    by_cases z : j < 24
    · exact z
    · exact absurd (f j (by omega)) hj
  obtain ⟨e, he, ee⟩ := List.mem_map.mp this
  exact ⟨e, he, ee⟩
theorem kv_nodup {E : List Ent} (h : (E.map Ent.n).Nodup) : ((E.map Ent.kv).map (·.1)).Nodup := by
  rw [List.map_map]
  refine List.pairwise_map.mpr ((List.pairwise_map.mp h).imp fun {a b} k z => k ?_)
  have : [(a.n : Int)] = [(b.n : Int)] := ik_inj z
  have : (a.n : Int) = b.n := by simpa using this
  omega
def selfS (c : Nat → Rat) : Nat → Nat := fun n => (c n).num.natAbs + (c n).den
theorem selfS_ok (c : Nat → Rat) : ∀ n, (c n).num.natAbs < 2 ^ selfS c n ∧ (c n).den < 2 ^ selfS c n := fun n => by
  have h := Nat.lt_two_pow_self (n := selfS c n)
  unfold selfS at h ⊢
  constructor <;> omega
def spNumbers (K : PySem.W.Frag) : Sp := fun vs H Q _ => ∃ (p : Addr) (c : Nat → Rat), vs = [.ref p] ∧ SumC H p c ∧ F24 c ∧
  ∀ (l : Addr) (n : Nat) (xs : List V) (H' : Hp), H l = none → Same H H' → IsDeg c n → H' l = some (.lst xs) → NumsAt K H' xs ((List.range (n + 1)).map c) → Q (.ref l) H'
section
variable {P : Program} {w : World} {K : PySem.W.Frag} {mg : Str → Option Value} {base : Heap} {f fd : _}
theorem scNumbers : FnScope ["one", "table"] ["one"] (defScope sNumbers) := ⟨rfl, rfl, rfl, by decide +kernel, rfl, by decide +kernel, by decide +kernel⟩
theorem ok_numbers {fD : Addr} {fdD : FuncData} (F : Fun K "numbers_of" "numbers_of" sNumbers f fd) (T : Txt mg) (Nn : Ngt K mg) (DD : Df K mg "degree" sDegree ["one"] fD fdD) : FnOk P w K mg base CX0 2 f fd ["one"] (spNumbers K) := by
  have GD : FnOk P w K mg base CX0 1 fD fdD ["one"] spDegree := ok_degree DD.F T
  obtain ⟨na, hN, hNq⟩ := Nn
  refine F.ok scNumbers (fun vs H Q E h => ?_) (fun cdv A outer s H vs Q E hr h => ?_)
  · obtain ⟨p, c, rfl, _⟩ := h
    rfl
  · obtain ⟨p, c, rfl, hS, f24, go⟩ := h
    have hu : _ + 1 < cLine := Nat.lt_of_le_of_lt (Nat.add_le_add_left (by decide : 1 ≤ 64) _) hr.units
    have hu2 : _ + 2 < cLine := Nat.lt_of_le_of_lt (Nat.add_le_add_left (by decide : 2 ≤ 64) _) hr.units
    refine ⟨_, pss_cons (ps_set (i := 1) scNumbers.nd rfl (Or.inr rfl) (pe_callTy (LwD.call_dictT rfl hu2) (by rfl) T.dct boot_dict (pa_cons (pe_ix ix_tup (pv 0) pe_int (fun _ _ => rfl)) pa_nil)))
      (pss_one (ps_ret (pe_compF (own := 1) (idx := [1]) (N := ["power", "table"]) rfl rfl rfl (by decide +kernel) (by decide +kernel) (fun _ _ h => h) (has_of rfl) rfl (one_idx rfl ⟨rfl, rfl, rfl, rfl⟩)
        (pi_range1 (by rfl) T.rng (pa_cons (pe_op op_add (pe_call GD hr rfl DD.m DD.F.kp DD.b .nil pass0 (pa_cons (pv 0) pa_nil)) pe_int) pa_nil))
        (fun C fp s2 H2 => pg_name (i := 0) (show List.Nodup (["power", "table"] : List Str) by decide +kernel) rfl (Or.inl rfl))
        (fun C fp s2 H2 => pe_dget2 hu (pv 1) (pe_tupF (pa_cons (pv 0) pa_nil)) (pe_glob (v := .ref na) (by rfl) hN rfl) ⟨rfl, rfl, rfl, rfl⟩)))), ?_⟩
    obtain ⟨q, o, xs, hp, hq, hd, hT⟩ := hS.ex
    obtain ⟨E, pr, R, nums⟩ := terms_rep (selfS_ok c) hT f24
    refine ⟨_, rfl, p, _, _, _, rfl, rfl, SqT.of hp, rfl, q, o, xs, E.map Ent.kv, rfl, hq, hd, pr, kv_nodup R.nd, fun t H1 n1 s1 e1 => ?_⟩
    refine ⟨_, rfl, p, c, rfl, hS.same s1, f24, fun n H2 s2 dg => ⟨_, _, rfl, rfl, _, rfl, ?_, ?_, fun l H3 n3 s3 e3 => ?_⟩⟩
    · omega
    · have : n < 24 := by
        rcases dg.2 with z | z
        · omega
        · by_cases y : n < 24
          · exact y
          · exact absurd (f24 n (by omega)) z
      omega
    have n24 : n < 24 := by
      rcases dg.2 with z | z
      · omega
      · by_cases y : n < 24
        · exact y
        · exact absurd (f24 n (by omega)) z
    rw [show ((n : Int) + 1).toNat = n + 1 by omega]
    refine comp_rangeF (fun i ys H4 => Same H2 H4 ∧ H4 l = some (.lst ys) ∧ NumsAt K H4 ys ((List.range i).map c)) (Nat.lt_of_le_of_lt (show n + 1 ≤ 24 by omega) (by decide)) ⟨s3, e3, .nil⟩ (fun i ys H4 h => h.2.1) ?_ ?_
    · rintro i m ys x H4 hx hm hy ⟨s4, e4, hN4⟩
      refine ⟨keep1, _, rfl, t, rfl, .inr ⟨_, .inl (s4 _ _ (s2 _ _ e1))⟩, _, rfl, (by show 1 ≤ sizeLine; decide), fun z H5 n5 s5 e5 => ?_⟩
      have ei : (0 : Int) + (i : Int) = (i : Int) := by omega
      rw [ei] at e5
      have s45 := s4.trans s5
      have hb5 : H5 z = some (.tup ((LwD.ik [(i : Int)]).map kV)) := by rw [LwD.ik_map]; exact e5
      refine ⟨valV (E.map Ent.kv) (LwD.ik [(i : Int)]), DGet.t (s45 _ _ (s2 _ _ e1)) hb5, ?_⟩
      have fin : NumAt K H5 ((valV (E.map Ent.kv) (LwD.ik [(i : Int)])).getD (.ref na)) (c i) := by
        by_cases ci : c i = 0
        · have : i ∉ E.map Ent.n := fun y => by
            obtain ⟨e, he, ee⟩ := List.mem_map.mp y
            have x := R.each e he
            rw [← ee, ← x.val] at ci
            exact fv_nz x.pos x.nz ci
          rw [val_out (key_ne this), ci]
          exact ⟨na, rfl, hNq H5, fun z => absurd rfl z⟩
        · obtain ⟨e, he, ee⟩ := R.all i ci
          have x := R.each e he
          rw [← ee, val_in R.nd he]
          have nm := nums e he
          have at5 : At2 H5 e.c (c e.n).num (c e.n).den := by
            rw [← nm.1, ← nm.2]
            exact s45 _ _ (s2 _ _ (s1 _ _ x.at'))
          exact ⟨e.c, rfl, SqT.of at5, fun _ => at5⟩
      refine comp_next hx hm hy (s5 _ _ e4) ⟨put_same (s4.trans s5) n3, upd_same, ?_⟩
      rw [List.range_succ, List.map_append]
      exact Paired.snoc (Paired.mono (fun _ _ y => (NumAt.same y s5).upd (s5 _ _ e4)) hN4) (fin.upd (s5 _ _ e4))
    · rintro ys H4 hy ⟨s4, e4, hN4⟩
      exact go l n ys H4 ((s1.trans s2).free n3) ((s1.trans s2).trans s4) dg e4 hN4
end
end Lw

namespace Lw
open PySem PySem.Spec PyProof.Rows L2 LwQ
theorem pe_compIN {X : Cx} {N : List Str} {elt target iter c : Expr} {scope : Scope} {pos : Pos} {wi : TI} {g : TG} {tt : TT} {te : TE} (hc : X.calm = true)
    (hk : scope.kind = .function) (hfree : ∀ x ∈ scope.names, x.2 ≠ .free) (hcell : ∀ x ∈ scope.names, x.2 ≠ .cell) (hnames : ∀ x ∈ scope.names, x.2 = .local → scope.names.lookup x.1 = some .local)
    (hi : PI X target iter wi) (hg : ∀ C fp s2 H2, PG (cxComp X N scope C fp s2 H2) target g) (ht : ∀ C fp s2 H2, PT (cxComp X N scope C fp s2 H2) c tt) (he : ∀ C fp s2 H2, PE (cxComp X N scope C fp s2 H2) elt te)
    (hs : ∀ x, foldedSetIterable iter X.env x = pure x := by intro _; rfl) : PE X (.ListComp elt [⟨target, iter, [c], 0⟩] scope pos) (tCompI N.length wi g tt te) :=
  pe_compI hc hk (fun x => ⟨fun z => hcell _ (PySem.mem_of_lookup z) rfl, fun z => hfree _ (PySem.mem_of_lookup z) rfl⟩) hfree hcell hnames hi hg ht he hs
/-- the coefficients of a list -/
def fOf (rs : List Rat) : Nat → Rat := fun j => rs.getD j 0
theorem fOf_get {rs : List Rat} {i : Nat} {r : Rat} (h : rs[i]? = some r) : fOf rs i = r := by unfold fOf; rw [List.getD_eq_getElem?_getD, h]; rfl
theorem fOf_out {rs : List Rat} {i : Nat} (h : rs.length ≤ i) : fOf rs i = 0 := by unfold fOf; rw [List.getD_eq_getElem?_getD, List.getElem?_eq_none h]; rfl
theorem sup_fOf {rs : List Rat} (h : rs.length ≤ 24) : (List.range rs.length).filter (fun n => decide (fOf rs n ≠ 0)) = sup (fOf rs) := by
  refine inc_eq (List.Pairwise.filter _ List.pairwise_lt_range) (sup_pw _) fun x => ?_
  rw [sup_mem, List.mem_filter, List.mem_range, decide_eq_true_iff]
  refine ⟨fun h => ⟨by omega, h.2⟩, fun h => ⟨?_, h.2⟩⟩
  by_cases y : x < rs.length
  · exact y
  · exact absurd (fOf_out (by omega)) h.2
theorem ne_nought (r : Rat) : LwT.lexNe [r.num, (r.den : Int)] [0, 1] = decide (r ≠ 0) := by
  have nl := num_low r
  by_cases h : r = 0
  · subst h
    rfl
  · rw [decide_eq_true h]
    show (if r.num = 0 then _ else true) = true
    rw [if_neg]
    intro z
    refine h ?_
    rw [← fv_num r, z]
    exact fv_eq nl.1 (by decide) (by simp) |>.trans fv_zero
def spSumFrom (K : PySem.W.Frag) : Sp := fun vs H Q _ => ∃ (l : Addr) (xs : List V) (rs : List Rat), vs = [.ref l] ∧ H l = some (.lst xs) ∧ NumsAt K H xs rs ∧ rs.length ≤ 24 ∧
  ∀ (p : Addr) (H' : Hp), H p = none → Same H H' → SumC H' p (fOf rs) → Q (.ref p) H'
section
variable {P : Program} {w : World} {K : PySem.W.Frag} {mg : Str → Option Value} {base : Heap} {f fd : _}
theorem scSumFrom : FnScope ["numbers"] ["numbers"] (defScope sSumFrom) := ⟨rfl, rfl, rfl, by decide +kernel, rfl, by decide +kernel, by decide +kernel⟩
theorem ok_sumfrom (F : Fun K "sum_from" "sum_from" sSumFrom f fd) (T : Txt mg) (Nn : Ngt K mg) : FnOk P w K mg base CX0 1 f fd ["numbers"] (spSumFrom K) := by
  obtain ⟨na, hN, hNq⟩ := Nn
  refine F.ok scSumFrom (fun vs H Q E h => ?_) (fun cdv A outer s H vs Q E hr h => ?_)
  · obtain ⟨l, xs, rs, rfl, _⟩ := h
    rfl
  · obtain ⟨l, xs, rs, rfl, hl, hX, l24, go⟩ := h
    refine ⟨_, pss_one (ps_ret (pe_tupF (pa_cons pe_int (pa_cons (pe_callTy call_tupleZ (by rfl) T.tup boot_tuple (pa_cons
      (pe_compIN (N := ["power", "number"]) rfl rfl (by decide +kernel) (by decide +kernel) (by decide +kernel) (pi_enumL (by rfl) T.enum (pa_cons (pv 0) pa_nil))
        (fun C fp s2 H2 => show PG (cxComp _ ["power", "number"] _ C fp s2 H2) _ (gTup K 2 (gCons (gName 0) (gCons (gName 1) gNil))) from pg_tup (X := cxComp _ ["power", "number"] _ C fp s2 H2) rfl (pgs_cons (pg_name (i := 0) (show List.Nodup (["power", "number"] : List Str) by decide +kernel) rfl (Or.inl rfl) (Or.inl rfl)) (pgs_cons (pg_name (i := 1) (show List.Nodup (["power", "number"] : List Str) by decide +kernel) rfl (Or.inl rfl) (Or.inl rfl)) pgs_nil)))
        (fun C fp s2 H2 => pt_cmpR (show OpR (cxComp _ ["power", "number"] _ C fp s2 H2) (compareOp .NotEq) (LwT.rOrdT K LwT.lexNe) from LwT.op_neT hr.units0) (pv 1) (pe_glob (v := .ref na) (by rfl) hN rfl) (nomark _))
        (fun C fp s2 H2 => pe_tupF (pa_cons (pe_tupF (pa_cons (pv 0) pa_nil)) (pa_cons (pv 1) pa_nil)))) pa_nil)) pa_nil)))), ?_⟩
    have lx : xs.length = rs.length := Paired.length hX
    refine ⟨_, rfl, l, rfl, ⟨xs, SqL.of hl⟩, fun p H1 n1 s1 e1 => ?_⟩
    refine ⟨fun i m ys H2 => m = xs.length - i ∧ i ≤ xs.length ∧ Same H H2 ∧ H2 p = some (.lst ys) ∧ ys.length ≤ i ∧ TermsP H2 (fOf rs) ys ((List.range i).filter fun n => decide (fOf rs n ≠ 0)), ⟨_, rfl, Nat.zero_le _, s1, e1, Nat.le_refl _, .nil⟩, ?_⟩
    rintro i m ys H2 ⟨rfl, hi, s2, e2, ly, tm⟩
    have l2 : SqL K H2 l xs := SqL.of (s2 _ _ hl)
    refine ⟨e2, Nat.lt_of_le_of_lt (show ys.length ≤ 24 by omega) (by decide), ?_⟩
    by_cases hlt : i < xs.length
    · refine .inr ⟨⟨xs, xs[i], l2, by simp [hlt]⟩, ?_⟩
      rintro _ _ ⟨z, x, nz, rfl, rfl, hx⟩
      have hxi := hx xs l2
      obtain ⟨r, hr', a, rfl, sq, at'⟩ := paired_get hX hxi
      have fr := fOf_get hr'
      have s3 : Same H2 (upd H2 z (.tup [.int i, .ref a])) := same_upd _ nz
      have ez : (upd H2 z (.tup [.int i, .ref a])) z = some (.tup [.int i, .ref a]) := upd_same
      generalize upd H2 z (.tup [.int i, .ref a]) = H3 at s3 ez
      have s23 := s2.trans s3
      refine ⟨z, _, rfl, SqT.of ez, rfl, _, _, rfl, _, _, rfl, rfl, ?_⟩
      refine ⟨_, rfl, a, na, [r.num, (r.den : Int)], [0, 1], rfl, rfl, sqT_same s23 sq, hNq _, _, rfl, ?_⟩
      rw [ne_nought]
      have fl : (List.range (i + 1)).filter (fun n => decide (fOf rs n ≠ 0)) = (List.range i).filter (fun n => decide (fOf rs n ≠ 0)) ++ if r ≠ 0 then [i] else [] := by
        rw [List.range_succ, List.filter_append]
        congr 1
        rw [List.filter_cons, fr]
        by_cases y : r = 0 <;> simp [y]
      by_cases r0 : r = 0
      · rw [if_neg (by simp [r0]), List.append_nil] at fl
        refine iteN (decide_eq_false (by simp [r0])) ?_
        exact ⟨xs.length - (i + 1), by omega, rfl, hlt, s23, s3 _ _ e2, by omega, by rw [fl]; exact tm.map fun _ _ e => s3 _ _ e⟩
      · rw [if_pos r0] at fl
        refine iteP (decide_eq_true r0) ?_
        refine ⟨_, rfl, (by show 1 ≤ sizeLine; decide), fun k H4 n4 s4 e4 => ⟨_, rfl, (by show 2 ≤ sizeLine; decide), fun t H5 n5 s5 e5 => ?_⟩⟩
        have s45 := s4.trans s5
        have s25 := s3.trans s45
        have e25 := s25 _ _ e2
        have ku : ∀ (o : HO) a xs, H5 a = some (.tup xs) → upd H5 p o a = some (.tup xs) := fun o a xs e => by
          rw [upd_ne (fun z => by rw [z, e25] at e; cases e)]
          exact e
        refine ⟨e25, xs.length - (i + 1), by omega, rfl, hlt, put_same (s2.trans s25) n1, upd_same, by simp; omega, ?_⟩
        rw [fl]
        refine Paired.snoc (tm.map fun a xs e => ku _ _ _ (s25 _ _ e)) ⟨t, k, a, rfl, ku _ _ _ e5, ku _ _ _ (s5 _ _ e4), ?_⟩
        rw [fr]
        exact ku _ _ _ (s45 _ _ (s23 _ _ (at' r0)))
    · have ei : i = xs.length := by omega
      subst ei
      rw [lx, sup_fOf l24] at tm
      refine .inl ⟨⟨xs, l2, Nat.le_refl _⟩, ?_⟩
      refine ⟨p, _, rfl, SqL.of e2, fun q oq nq dq => ⟨(by show 2 ≤ sizeLine; decide), fun t H5 n5 s5 e5 => ?_⟩⟩
      have s4 : Same H2 (upd H2 q (.frz oq (.tup ys))) := same_upd _ nq
      exact go t H5 ((s2.trans s4).free n5) (s2.trans (s4.trans s5)) ⟨q, oq, ys, e5, s5 _ _ upd_same, dq, tm.map fun a xs e => s5 _ _ (s4 _ _ e)⟩
end
end Lw

namespace Lw
open PySem PySem.Spec PyProof.Rows L2 LwQ
/-! ### how great a rational is -/
theorem cross {x : Rat} {t b : Int} (hb : 0 < b) (h : x = fv t b) : x.num * b = t * x.den := by
  have n := num_low x
  exact fv_inj n.1 hb (by rw [fv_num, h])
def Bd (R : Nat) (x : Rat) : Prop := x.num.natAbs ≤ R * x.den
theorem bd_of {x : Rat} {t b : Int} {R : Nat} (hb : 0 < b) (h : x = fv t b) (k : t.natAbs ≤ R * b.natAbs) : Bd R x := by
  have e := congrArg Int.natAbs (cross hb h)
  rw [Int.natAbs_mul, Int.natAbs_mul, Int.natAbs_natCast] at e
  have hb' : 0 < b.natAbs := by omega
  refine Nat.le_of_mul_le_mul_right ?_ hb'
  rw [e]
  calc t.natAbs * x.den ≤ R * b.natAbs * x.den := Nat.mul_le_mul_right _ k
    _ = R * x.den * b.natAbs := by rw [Nat.mul_assoc, Nat.mul_comm b.natAbs, ← Nat.mul_assoc]
theorem Bd.mono {R S : Nat} {x : Rat} (h : Bd R x) (k : R ≤ S) : Bd S x := Nat.le_trans h (Nat.mul_le_mul_right _ k)
theorem bd_zero (R : Nat) : Bd R 0 := Nat.zero_le _
theorem Bd.add {R S : Nat} {x y : Rat} (h : Bd R x) (k : Bd S y) : Bd (R + S) (x + y) := by
  have n := num_low x
  have m := num_low y
  refine bd_of (t := x.num * y.den + y.num * x.den) (b := x.den * y.den) (Int.mul_pos n.1 m.1) (by rw [fv_add n.1 m.1, fv_num, fv_num]) ?_
  refine Nat.le_trans (Int.natAbs_add_le _ _) ?_
  rw [Int.natAbs_mul, Int.natAbs_mul, Int.natAbs_mul, Int.natAbs_natCast, Int.natAbs_natCast, Nat.add_mul]
  refine Nat.add_le_add ?_ ?_
  · rw [← Nat.mul_assoc]
    exact Nat.mul_le_mul_right _ h
  · rw [Nat.mul_comm x.den, ← Nat.mul_assoc]
    exact Nat.mul_le_mul_right _ k
theorem Bd.mul {R S : Nat} {x y : Rat} (h : Bd R x) (k : Bd S y) : Bd (R * S) (x * y) := by
  have n := num_low x
  have m := num_low y
  refine bd_of (t := x.num * y.num) (b := x.den * y.den) (Int.mul_pos n.1 m.1) (by rw [fv_mul n.1 m.1, fv_num, fv_num]) ?_
  rw [Int.natAbs_mul, Int.natAbs_mul, Int.natAbs_natCast, Int.natAbs_natCast]
  calc x.num.natAbs * y.num.natAbs ≤ (R * x.den) * (S * y.den) := Nat.mul_le_mul h k
    _ = R * S * (x.den * y.den) := by grind
theorem Bd.neg {R : Nat} {x : Rat} (h : Bd R x) : Bd R (-x) := by
  have n := num_low x
  refine bd_of (t := -x.num) (b := x.den) n.1 ?_ (by rw [Int.natAbs_neg, Int.natAbs_natCast]; exact h)
  have e := fv_num x
  unfold fv at e ⊢
  rw [Rat.intCast_neg]
  grind
theorem Bd.sub {R S : Nat} {x y : Rat} (h : Bd R x) (k : Bd S y) : Bd (R + S) (x - y) := by
  rw [Rat.sub_eq_add_neg]
  exact h.add k.neg
/-- bits of a rational of which a multiple is known -/
theorem bits_of {x : Rat} {D : Int} {R a v : Nat} (h : Wh D x) (hD : D ≠ 0) (da : D.natAbs < 2 ^ a) (k : Bd R x) (rv : R ≤ 2 ^ v) : x.num.natAbs < 2 ^ (v + a) ∧ x.den < 2 ^ a := by
  have n := num_low x
  rw [← fv_num x] at h
  have d := h.dvd n.1 n.2
  have l : x.den ≤ D.natAbs := by
    have := Int.natAbs_dvd_natAbs.mpr d
    rw [Int.natAbs_natCast] at this
    exact Nat.le_of_dvd (by omega) this
  have l2 : x.den < 2 ^ a := by omega
  refine ⟨?_, l2⟩
  have h1 : R * x.den < 2 ^ (v + a) := by
    rw [Nat.pow_add]
    exact Nat.lt_of_le_of_lt (Nat.mul_le_mul_right _ rv) (Nat.mul_lt_mul_of_pos_left l2 (Nat.pow_pos (by decide)))
  exact Nat.lt_of_le_of_lt k h1
/-- a number's two numbers -/
def Sz (n : Nat) (x : Rat) : Prop := x.num.natAbs < 2 ^ n ∧ x.den < 2 ^ n
theorem Sz.fr {n : Nat} {x : Rat} (h : Sz n x) (k : n ≤ 7900) : FrOk 7900 x.num x.den :=
  ⟨(num_low x).1, (num_low x).2, abs_up h.1 k, abs_up (by rw [Int.natAbs_natCast]; exact h.2) k⟩
theorem sz_of {x : Rat} {D : Int} {R a v n : Nat} (h : Wh D x) (hD : D ≠ 0) (da : D.natAbs < 2 ^ a) (k : Bd R x) (rv : R ≤ 2 ^ v) (hn : v + a ≤ n) : Sz n x := by
  have b := bits_of h hD da k rv
  exact ⟨Nat.lt_of_lt_of_le b.1 (Nat.pow_le_pow_right (by decide) hn), Nat.lt_of_lt_of_le b.2 (Nat.pow_le_pow_right (by decide) (by omega))⟩
theorem at_low {H : Hp} {r : Addr} {N D : Int} {z : Rat} (h : At2 H r (lowT N D) (lowB N D)) (hD : 0 < D) (e : fv N D = z) : At2 H r z.num z.den := by
  have nm := num_of (low_pos1 (n := N) hD) (low_gcd hD)
  rw [fv_low hD, e] at nm
  unfold At2
  rw [nm.1, nm.2]
  exact h
theorem at_lowN {H : Hp} {r : Addr} {N D : Int} {z : Rat} (h : At2 H r (lowT N D) (lowB N D)) (hD : D ≠ 0) (e : fv N D = z) : At2 H r z.num z.den := by
  by_cases p : 0 < D
  · exact at_low h p e
  · have q : D < 0 := by omega
    rw [← (low_neg q).1, ← (low_neg q).2] at h
    refine at_low h (by omega) ?_
    rw [← e]
    unfold fv
    rw [Rat.intCast_neg, Rat.intCast_neg]
    have : (D : Rat) ≠ 0 := fun z => hD (Rat.intCast_inj.mp (by rw [z]; rfl))
    grind
/-! ### the division -/
theorem sumF_add {F G : Nat → Rat} : ∀ l : List Nat, sumF (fun n => F n + G n) l = sumF F l + sumF G l
  | [] => by show (0 : Rat) = 0 + 0; rw [Rat.add_zero]
  | n :: r => by
    show F n + G n + sumF (fun n => F n + G n) r = F n + sumF F r + (G n + sumF G r)
    rw [sumF_add r]
    grind
theorem sumF_one {F : Nat → Rat} {n : Nat} {l : List Nat} (nd : l.Nodup) (h : n ∈ l) (z : ∀ i, i ≠ n → F i = 0) : sumF F l = F n := by
  rw [sumF_perm (List.perm_cons_erase h)]
  show F n + sumF F (l.erase n) = F n
  rw [sumF_zero fun i hi => z i ((List.Nodup.mem_erase_iff nd).mp hi).1, Rat.add_zero]
theorem conv_bump {q B : Nat → Rat} {n : Nat} {x : Rat} (hn : n < 24) : conv (bump q n x) B = fun j => conv q B j + sh n x B j := by
  funext j
  unfold conv
  have e : (fun m => sh m (bump q n x m) B j) = fun m => sh m (q m) B j + (if m = n then sh n x B j else 0) := by
    funext m
    unfold sh bump
    by_cases y : m = n
    · subst y
      rw [if_pos rfl, if_pos rfl]
      split
      · grind
      · rw [Rat.add_zero]
    · rw [if_neg y, if_neg y, Rat.add_zero, Rat.add_zero]
  rw [e, sumF_add, sumF_one (n := n) List.nodup_range (List.mem_range.mpr hn) (fun i hi => if_neg hi), if_pos rfl]
theorem conv_zero (B : Nat → Rat) : conv (fun _ => 0) B = fun _ => 0 := by
  funext j
  refine sumF_zero fun n _ => ?_
  unfold sh
  rw [Rat.zero_mul]
  split <;> rfl
end Lw

namespace Lw
open PySem PySem.Spec PyProof.Rows L2 LwQ
/-! ### a step of the division -/
structure QM (c1 c2 : Nat → Rat) (D0 tM : Int) (n L k : Nat) (g q : Nat → Rat) : Prop where
  eq : ∀ j, c1 j = g j + conv q c2 j
  g0 : ∀ j, n + 1 - k ≤ j → g j = 0
  q0 : ∀ j, j < L - k → q j = 0
  q1 : ∀ j, L ≤ j → q j = 0
  wh : ∀ j, Wh (D0 * tM ^ k) (g j)
  bd : ∀ j, Bd (2 ^ 90 * (2 ^ 51) ^ k) (g j)
  sq : ∀ j, Sz 2800 (q j)
theorem dk_ok {D0 tM : Int} (h0 : D0 ≠ 0) (h1 : tM ≠ 0) (b0 : D0.natAbs < 2 ^ 300) (b1 : tM.natAbs < 2 ^ 160) : ∀ k : Nat, D0 * tM ^ k ≠ 0 ∧ (D0 * tM ^ k).natAbs < 2 ^ (300 + 160 * k)
  | 0 => by rw [Int.pow_zero, Int.mul_one]; exact ⟨h0, b0⟩
  | k + 1 => by
    have ih := dk_ok h0 h1 b0 b1 k
    rw [Int.pow_succ, ← Int.mul_assoc]
    exact ⟨Int.mul_ne_zero ih.1 h1, abs_mul (m := 300 + 160 * k) (n := 160) ih.2 b1⟩
theorem vk_le (k : Nat) : 2 ^ 90 * (2 ^ 51) ^ k ≤ 2 ^ (90 + 51 * k) := by
  rw [← Nat.pow_mul, ← Nat.pow_add]
  exact Nat.le_refl _
theorem qm_sz {c1 c2 g q : Nat → Rat} {D0 tM : Int} {n L k : Nat} (h0 : D0 ≠ 0) (h1 : tM ≠ 0) (b0 : D0.natAbs < 2 ^ 300) (b1 : tM.natAbs < 2 ^ 160) (k11 : k ≤ 11) (h : QM c1 c2 D0 tM n L k g q) (j : Nat) : Sz 2800 (g j) :=
  let d := dk_ok h0 h1 b0 b1 k
  sz_of (h.wh j) d.1 d.2 (h.bd j) (vk_le k) (by omega)
theorem div_mul {x y : Rat} (h : y ≠ 0) : x * (1 / y) * y = x := by grind
section
variable {c1 c2 g q : Nat → Rat} {D0 t M : Int} {n m L k : Nat}
theorem fac_wh (h : QM c1 c2 D0 (t * M) n L k g q) (hi : Wh t (1 / c2 m)) (j : Nat) : Wh (D0 * (t * M) ^ k * t) (g j * (1 / c2 m)) := (h.wh j).mul hi
theorem fac_bd (h : QM c1 c2 D0 (t * M) n L k g q) (hb : Bd (2 ^ 10) (1 / c2 m)) (j : Nat) : Bd (2 ^ 90 * (2 ^ 51) ^ k * 2 ^ 10) (g j * (1 / c2 m)) := (h.bd j).mul hb
theorem fac_sz (h0 : D0 ≠ 0) (t0 : t ≠ 0) (M0 : M ≠ 0) (b0 : D0.natAbs < 2 ^ 300) (bt : t.natAbs < 2 ^ 40) (bM : M.natAbs < 2 ^ 120) (k11 : k ≤ 10) (h : QM c1 c2 D0 (t * M) n L k g q) (hi : Wh t (1 / c2 m)) (hb : Bd (2 ^ 10) (1 / c2 m)) (j : Nat) : Sz 2800 (g j * (1 / c2 m)) := by
  have d := dk_ok h0 (Int.mul_ne_zero t0 M0) b0 (abs_mul (m := 40) (n := 120) bt bM) k
  refine sz_of (a := 300 + 160 * k + 40) (v := 90 + 51 * k + 10) (fac_wh h hi j) (Int.mul_ne_zero d.1 t0) (abs_mul d.2 bt) (fac_bd h hb j) ?_ (by omega)
  rw [Nat.pow_add]
  exact Nat.mul_le_mul_right _ (vk_le k)
theorem prod_sz (h0 : D0 ≠ 0) (t0 : t ≠ 0) (M0 : M ≠ 0) (b0 : D0.natAbs < 2 ^ 300) (bt : t.natAbs < 2 ^ 40) (bM : M.natAbs < 2 ^ 120) (k11 : k ≤ 10) (h : QM c1 c2 D0 (t * M) n L k g q) (hi : Wh t (1 / c2 m)) (hb : Bd (2 ^ 10) (1 / c2 m)) (hM : ∀ j, Wh M (c2 j)) (hc : ∀ j, Bd (2 ^ 40) (c2 j)) (j i : Nat) : Sz 3000 (g j * (1 / c2 m) * c2 i) := by
  have d := dk_ok h0 (Int.mul_ne_zero t0 M0) b0 (abs_mul (m := 40) (n := 120) bt bM) k
  refine sz_of (a := 300 + 160 * k + 40 + 120) (v := 90 + 51 * k + 10 + 40) ((fac_wh h hi j).mul (hM i)) (Int.mul_ne_zero (Int.mul_ne_zero d.1 t0) M0) (abs_mul (abs_mul d.2 bt) bM) ((fac_bd h hb j).mul (hc i)) ?_ (by omega)
  rw [Nat.pow_add, Nat.pow_add]
  exact Nat.mul_le_mul_right _ (Nat.mul_le_mul_right _ (vk_le k))
theorem qm_step (h0 : D0 ≠ 0) (t0 : t ≠ 0) (M0 : M ≠ 0) (b0 : D0.natAbs < 2 ^ 300) (bt : t.natAbs < 2 ^ 40) (bM : M.natAbs < 2 ^ 120) (h : QM c1 c2 D0 (t * M) n L k g q) (hk : k < L) (hL : L = n + 1 - m) (l11 : L ≤ 11) (dg : IsDeg c2 m) (nz : c2 m ≠ 0)
    (hi : Wh t (1 / c2 m)) (hb : Bd (2 ^ 10) (1 / c2 m)) (hM : ∀ j, Wh M (c2 j)) (hc : ∀ j, Bd (2 ^ 40) (c2 j)) :
    QM c1 c2 D0 (t * M) n L (k + 1) (fun j => g j - sh (L - 1 - k) (g (n - k) * (1 / c2 m)) c2 j) (bump q (L - 1 - k) (g (n - k) * (1 / c2 m))) := by
  have f1 := div_mul (x := g (n - k)) nz
  have fw := fac_wh h hi (n - k)
  have fb := fac_bd h hb (n - k)
  have fs := fac_sz h0 t0 M0 b0 bt bM (by omega) h hi hb (n - k)
  generalize g (n - k) * (1 / c2 m) = f at f1 fw fb fs
  have qa : q (L - 1 - k) = 0 := h.q0 _ (by omega)
  refine ⟨fun j => ?_, fun j hj => ?_, fun j hj => ?_, fun j hj => ?_, fun j => ?_, fun j => ?_, fun j => ?_⟩
  · rw [conv_bump (by omega)]
    have := h.eq j
    show c1 j = g j - sh (L - 1 - k) f c2 j + (conv q c2 j + sh (L - 1 - k) f c2 j)
    grind
  · show g j - sh (L - 1 - k) f c2 j = 0
    unfold sh
    by_cases e : j = n - k
    · subst e
      rw [if_pos (by omega), show n - k - (L - 1 - k) = m by omega, f1]
      grind
    · have z1 : g j = 0 := h.g0 j (by omega)
      have z2 : c2 (j - (L - 1 - k)) = 0 := by
        by_cases y : c2 (j - (L - 1 - k)) = 0
        · exact y
        · have := dg.1 _ y
          omega
      rw [if_pos (by omega), z1, z2]
      grind
  · unfold bump
    rw [if_neg (by omega), Rat.add_zero]
    exact h.q0 j (by omega)
  · unfold bump
    rw [if_neg (by omega), Rat.add_zero]
    exact h.q1 j hj
  · rw [Int.pow_succ, ← Int.mul_assoc]
    refine ((h.wh j).up (t * M)).sub ?_
    unfold sh
    split
    · rw [← Int.mul_assoc]
      exact fw.mul (hM _)
    · exact Wh.zero _
  · have e : 2 ^ 90 * (2 ^ 51) ^ k + 2 ^ 90 * (2 ^ 51) ^ k * 2 ^ 10 * 2 ^ 40 ≤ 2 ^ 90 * (2 ^ 51) ^ (k + 1) := by
      rw [show (2 ^ 51) ^ (k + 1) = (2 ^ 51) ^ k * 2 ^ 51 from Nat.pow_succ .., ← Nat.mul_assoc (2 ^ 90) ((2 ^ 51) ^ k)]
      generalize 2 ^ 90 * (2 ^ 51) ^ k = V
      omega
    refine Bd.mono ((h.bd j).sub (S := 2 ^ 90 * (2 ^ 51) ^ k * 2 ^ 10 * 2 ^ 40) ?_) e
    unfold sh
    split
    · exact fb.mul (hc _)
    · exact bd_zero _
  · unfold bump
    by_cases e : j = L - 1 - k
    · rw [e, if_pos rfl, qa, Rat.zero_add]
      exact fs
    · rw [if_neg e, Rat.add_zero]
      exact h.sq j
end
end Lw

namespace Lw
open PySem PySem.Spec PyProof.Rows L2 LwQ
/-! ### t == () -/
section
variable {X : Cx}
def rEqN (K : PySem.W.Frag) : R2 := fun x y H Q => ∃ (a b : Addr) (xs : List V), x = .ref a ∧ y = .ref b ∧ SqT K H a xs ∧ SqT K H b [] ∧ Q (.bl xs.isEmpty) H
theorem op_eqN (hu : X.A.units < cLine) : OpR X (compareOp .Eq) (rEqN X.K) := by
  intro pins s σ H x y v u Q I rx ry h
  obtain ⟨a, b, xs, rfl, rfl, ha, hb, q⟩ := h
  cases rx
  cases ry
  obtain ⟨its, r1, p1, _⟩ := I.tuple ha
  obtain ⟨its2, r2, p2, _⟩ := I.tuple hb
  cases r2
  refine SeqAt.eq_tupleAt (e := fun _ => true) p1 p2 hu (fun j h1 h2 => absurd h2 (Nat.not_lt_zero _)) ?_
  have e : ((List.range (min its.toArray.size ([] : List Value).toArray.size)).all (fun _ => true) && its.toArray.size == ([] : List Value).toArray.size) = xs.isEmpty := by
    have l := r1.length
    cases r1 <;> simp
  rw [e]
  exact ⟨.bl xs.isEmpty, H, I, rfl, q⟩
end
theorem for_down {n : Nat} {g : TG} {tb : TS} {D : Ends} {σ : L2.St} {H : Hp} (Pv : Nat → L2.St → Hp → Prop) (h0 : Pv 0 σ H)
    (hs : ∀ i σ H, i < n → Pv i σ H → g (.int ((n : Int) - 1 - i)) σ H fun σ2 H2 => tb { D with nx := Pv (i + 1), ct := Pv (i + 1), bk := D.nx } σ2 H2) (hd : ∀ σ H, Pv n σ H → D.nx σ H) :
    ∃ W : Nat → Nat → L2.St → Hp → Prop, (∃ m, W 0 m σ H) ∧ ∀ i m σ H, W i m σ H →
      ((Itd n).stop i H ∧ D.nx σ H) ∨ ((Itd n).go i H ∧ ∃ N : L2.St → Hp → Prop, (∀ σ' H', N σ' H' → ∃ m', m' < m ∧ W (i + 1) m' σ' H') ∧ ∀ x H', (Itd n).yld i H x H' → g x σ H' fun σ2 H2 => tb { D with nx := N, ct := N, bk := D.nx } σ2 H2) := by
  refine ⟨fun i m σ H => m = n - i ∧ i ≤ n ∧ Pv i σ H, ⟨n, by simp, Nat.zero_le _, h0⟩, ?_⟩
  rintro i m σ H ⟨rfl, hi, p⟩
  by_cases hlt : i < n
  · refine .inr ⟨hlt, Pv (i + 1), fun σ' H' p' => ⟨n - (i + 1), by omega, rfl, hlt, p'⟩, fun x H' y => ?_⟩
    obtain ⟨e, y⟩ := y
    subst e y
    exact hs i σ _ hlt p
  · have e : i = n := by omega
    subst e
    exact .inl ⟨Nat.le_refl _, hd σ H p⟩
theorem NumsAt.upd {K : PySem.W.Frag} {H : Hp} {xs : List V} {rs : List Rat} {l : Addr} {ys : List V} {o : HO} (h : NumsAt K H xs rs) (e : H l = some (.lst ys)) : NumsAt K (upd H l o) xs rs := Paired.mono (fun _ _ y => NumAt.upd y e) h
theorem nums_len {K : PySem.W.Frag} {H : Hp} {xs : List V} {g : Nat → Rat} {N : Nat} (h : NumsAt K H xs ((List.range N).map g)) : xs.length = N := by
  have := Paired.length h
  simpa using this
theorem nums_get {K : PySem.W.Frag} {H : Hp} {xs : List V} {g : Nat → Rat} {N i : Nat} (h : NumsAt K H xs ((List.range N).map g)) (hi : i < N) : ∃ x, xs[i]? = some x ∧ NumAt K H x (g i) := by
  have l := nums_len h
  have hx : xs[i]? = some (xs[i]'(by omega)) := by simp [l, hi]
  obtain ⟨r, hr, y⟩ := paired_get h hx
  rw [List.getElem?_map, List.getElem?_range hi] at hr
  cases hr
  exact ⟨_, hx, y⟩
theorem paired_set {α β : Type} {R : α → β → Prop} {x : α} {y : β} (r : R x y) : ∀ {l : List α} {m : List β} {i : Nat}, Paired R l m → Paired R (l.set i x) (m.set i y)
  | _, _, _, .nil => .nil
  | _, _, 0, .cons h t => .cons r t
  | _, _, i + 1, .cons h t => .cons h (paired_set r t)
theorem map_set {g g' : Nat → Rat} {N i : Nat} (hi : i < N) (k : ∀ j, j ≠ i → g' j = g j) : ((List.range N).map g).set i (g' i) = (List.range N).map g' := by
  apply List.ext_getElem
  · simp
  · intro j h1 h2
    simp at h1
    rw [List.getElem_set]
    by_cases e : i = j
    · subst e; simp
    · rw [if_neg e]; simp [k j (Ne.symm e)]
theorem nums_set {K : PySem.W.Frag} {H : Hp} {xs : List V} {g g' : Nat → Rat} {N i : Nat} {x : V} (h : NumsAt K H xs ((List.range N).map g)) (hi : i < N) (k : ∀ j, j ≠ i → g' j = g j) (hx : NumAt K H x (g' i)) : NumsAt K H (xs.set i x) ((List.range N).map g') := by
  rw [← map_set hi k]
  exact paired_set hx h
theorem paired_drop {α β : Type} {R : α → β → Prop} : ∀ {l : List α} {m : List β}, Paired R l m → Paired R l.dropLast m.dropLast
  | _, _, .nil => .nil
  | _, _, .cons h .nil => .nil
  | _, _, .cons h (.cons h2 t) => .cons h (paired_drop (.cons h2 t))
theorem nums_pop {K : PySem.W.Frag} {H : Hp} {xs : List V} {g : Nat → Rat} {N : Nat} (h : NumsAt K H xs ((List.range (N + 1)).map g)) : NumsAt K H xs.dropLast ((List.range N).map g) := by
  have := paired_drop h
  rw [List.range_succ, List.map_append, List.map_singleton, List.dropLast_concat] at this
  exact this
theorem nums_congr {K : PySem.W.Frag} {H : Hp} {xs : List V} {g g' : Nat → Rat} {N : Nat} (h : NumsAt K H xs ((List.range N).map g)) (k : ∀ j, j < N → g j = g' j) : NumsAt K H xs ((List.range N).map g') := by
  have : (List.range N).map g = (List.range N).map g' := List.map_congr_left fun j hj => k j (List.mem_range.mp hj)
  rw [← this]
  exact h
theorem at_last {xs : List V} {N : Nat} {x : V} (l : xs.length = N + 1) (h : xs[N]? = some x) : atI xs (-1) = some x := by
  unfold atI ixN
  rw [l, if_neg (by decide), if_pos (by omega)]
  show xs[(-1 + ((N + 1 : Nat) : Int)).toNat]? = some x
  rw [show (-1 + ((N + 1 : Nat) : Int)).toNat = N by omega]
  exact h
theorem ix_nat {n i : Nat} {z : Int} (e : z = i) (h : i < n) : ixN n z = some i := by
  subst e
  unfold ixN
  rw [if_pos (by omega), if_pos (by omega)]
  simp
theorem div_val {x y : Rat} (h : y ≠ 0) : fv (x.num * y.den) (x.den * y.num) = x * (1 / y) ∧ (x.den : Int) * y.num ≠ 0 ∧ y.num ≠ 0 := by
  have nx := num_low x
  have ny := num_low y
  have yn : y.num ≠ 0 := fun z => h (by rw [← fv_num y, z]; exact fv_eq ny.1 (by decide) (by simp) |>.trans fv_zero)
  refine ⟨?_, Int.mul_ne_zero (by omega) yn, yn⟩
  have hx := fv_num x
  have hy := fv_num y
  have a1 : ((x.den : Int) : Rat) ≠ 0 := cne nx.1
  have a2 : ((y.den : Int) : Rat) ≠ 0 := cne ny.1
  have a3 : (y.num : Rat) ≠ 0 := fun z => yn (Rat.intCast_inj.mp (by rw [z]; rfl))
  unfold fv at hx hy ⊢
  rw [Rat.intCast_mul, Rat.intCast_mul]
  generalize ((x.den : Int) : Rat) = xd at *
  generalize ((y.den : Int) : Rat) = yd at *
  generalize (x.num : Rat) = xn at *
  generalize (y.num : Rat) = yn' at *
  subst hx hy
  grind
theorem fOf_map {g : Nat → Rat} {N : Nat} (h : ∀ j, N ≤ j → g j = 0) : fOf ((List.range N).map g) = g := by
  funext j
  by_cases y : j < N
  · exact fOf_get (by rw [List.getElem?_map, List.getElem?_range y]; rfl)
  · rw [fOf_out (by simp; omega), h j (by omega)]
theorem nums_kp {K : PySem.W.Frag} {H H' : Hp} {xs : List V} {rs : List Rat} {l1 l2 : Addr} {y1 y2 : List V} (h : NumsAt K H xs rs) (e1 : H l1 = some (.lst y1)) (e2 : H l2 = some (.lst y2)) (k : ∀ a o, H a = some o → a ≠ l1 → a ≠ l2 → H' a = some o) : NumsAt K H' xs rs := by
  refine Paired.mono (fun x r y => ?_) h
  obtain ⟨a, rfl, q, z⟩ := y
  have tu : ∀ a u, H a = some u → (∀ ys, u ≠ .lst ys) → H' a = some u := fun a u e n => k _ _ e (fun y => by rw [y, e1] at e; cases e; exact n _ rfl) (fun y => by rw [y, e2] at e; cases e; exact n _ rfl)
  refine ⟨a, rfl, ?_, fun n => tu _ _ (z n) fun _ y => by cases y⟩
  rcases q with (q | ⟨u, q⟩) | q
  · exact .inl (.inl (tu _ _ q fun _ y => by cases y))
  · exact .inl (.inr ⟨u, tu _ _ q fun _ y => by cases y⟩)
  · exact .inr q
/-- in the midst of a step -/
def hp (g c2 : Nat → Rat) (a : Nat) (f : Rat) (p : Nat) : Nat → Rat := fun j => g j - if a ≤ j ∧ j < a + p then f * c2 (j - a) else 0
theorem hp_step {g c2 : Nat → Rat} {a p : Nat} {f : Rat} : (∀ j, j ≠ a + p → hp g c2 a f (p + 1) j = hp g c2 a f p j) ∧ hp g c2 a f (p + 1) (a + p) = hp g c2 a f p (a + p) - f * c2 p := by
  constructor
  · intro j hj
    unfold hp
    by_cases y : a ≤ j ∧ j < a + p
    · rw [if_pos y, if_pos ⟨y.1, by omega⟩]
    · rw [if_neg y, if_neg (by omega)]
  · unfold hp
    rw [if_pos ⟨by omega, by omega⟩, if_neg (by omega), Nat.add_sub_cancel_left]
    grind
/-- what is known of the sizes -/
structure QS (c1 c2 : Nat → Rat) : Prop where
  f1 : ∀ j, 11 ≤ j → c1 j = 0
  f2 : ∀ j, 11 ≤ j → c2 j = 0
  nz : ∃ j, c2 j ≠ 0
  ex : ∃ D0 M : Int, D0 ≠ 0 ∧ M ≠ 0 ∧ D0.natAbs < 2 ^ 300 ∧ M.natAbs < 2 ^ 120 ∧ (∀ j, Wh D0 (c1 j)) ∧ ∀ j, Wh M (c2 j)
  b1 : ∀ j, Bd (2 ^ 90) (c1 j)
  b2 : ∀ j, Bd (2 ^ 40) (c2 j)
  inv : ∀ j, c2 j ≠ 0 → ∃ t : Int, t ≠ 0 ∧ t.natAbs < 2 ^ 40 ∧ Wh t (1 / c2 j) ∧ Bd (2 ^ 10) (1 / c2 j)
/-- quotient and rest -/
structure QR (c1 c2 q r : Nat → Rat) : Prop where
  eq : ∀ j, c1 j = r j + conv q c2 j
  low : ∀ m, IsDeg c2 m → ∀ j, m ≤ j → r j = 0
  q11 : ∀ j, 11 ≤ j → q j = 0
  r11 : ∀ j, 11 ≤ j → r j = 0
  sq : ∀ j, Sz 2800 (q j)
  sr : ∀ j, Sz 2800 (r j)
structure PairC (H : Hp) (p : Addr) (q r : Nat → Rat) : Prop where
  ex : ∃ a b, H p = some (.tup [.ref a, .ref b]) ∧ SumC H a q ∧ SumC H b r
def spQuot : Sp := fun vs H Q _ => ∃ (p1 p2 : Addr) (c1 c2 : Nat → Rat), vs = [.ref p1, .ref p2] ∧ SumC H p1 c1 ∧ SumC H p2 c2 ∧ QS c1 c2 ∧
  ∀ (p : Addr) (q r : Nat → Rat) (H' : Hp), H p = none → Same H H' → QR c1 c2 q r → PairC H' p q r → Q (.ref p) H'
end Lw

namespace Lw
open PySem PySem.Spec PyProof.Rows L2 LwQ
section
variable {P : Program} {w : World} {K : PySem.W.Frag} {mg : Str → Option Value} {base : Heap} {f fd : _}
theorem scQuot : FnScope ["one", "other", "rest", "divisor", "found", "at", "factor", "place", "number"] ["one", "other"] (defScope sQuot) := ⟨rfl, rfl, rfl, by decide +kernel, rfl, by decide +kernel, by decide +kernel⟩
theorem ok_quot {fN fS fD fM fL fA fG fE : Addr} {fdN fdS fdD fdM fdL fdA fdG fdE : FuncData} (F : Fun K "quotient" "quotient" sQuot f fd) (T : Txt mg) (Nn : Ngt K mg) (DN : Df K mg "numbers_of" sNumbers ["one"] fN fdN) (DS : Df K mg "sum_from" sSumFrom ["numbers"] fS fdS)
    (DD : Df K mg "divided" sDiv ["one", "other"] fD fdD) (DM : Df K mg "multiplied" sMul ["one", "other"] fM fdM) (DL : Df K mg "less" sLess ["one", "other"] fL fdL) (DA : Df K mg "added" sAdded ["one", "other"] fA fdA) (DG : Df K mg "greatest_divisor" sGcd ["one", "other"] fG fdG) (DE : Df K mg "degree" sDegree ["one"] fE fdE) :
    FnOk P w K mg base CX0 4 f fd ["one", "other"] spQuot := by
  have GN : FnOk P w K mg base CX0 2 fN fdN ["one"] (spNumbers K) := ok_numbers DN.F T Nn DE
  have GS : FnOk P w K mg base CX0 1 fS fdS ["numbers"] (spSumFrom K) := ok_sumfrom DS.F T Nn
  have GD : FnOk P w K mg base CX0 3 fD fdD ["one", "other"] (spDivN K) := ok_divN DD.F T DM DG
  have GM : FnOk P w K mg base CX0 2 fM fdM ["one", "other"] (spMul K) := ok_mul DM.F T DG
  have GL : FnOk P w K mg base CX0 3 fL fdL ["one", "other"] (spLess K) := ok_less DL.F T DA DG
  obtain ⟨na, hN, hNq⟩ := Nn
  refine F.ok scQuot (fun vs H Q E h => ?_) (fun cdv A outer s H vs Q E hr h => ?_)
  · obtain ⟨p1, p2, c1, c2, rfl, _⟩ := h
    rfl
  · obtain ⟨p1, p2, c1, c2, rfl, S1, S2, qs, go⟩ := h
    have hr1 : Room 1 _ := hr.mono (by decide)
    have hr2 : Room 2 _ := hr.mono (by decide)
    refine ⟨_, pss_cons (ps_if (pt_cmpR (op_eqN hr.units0) (pe_ix ix_tup (pv 1) pe_int (fun _ _ => rfl)) (pe_tupF pa_nil) (nomark _)) (pss_one ps_never) pss_nil)
      (pss_cons (ps_set (i := 2) scQuot.nd rfl (Or.inl rfl) (pe_call GN hr2 rfl DN.m DN.F.kp DN.b .nil pass0 (pa_cons (pv 0) pa_nil)))
      (pss_cons (ps_set (i := 3) scQuot.nd rfl (Or.inl rfl) (pe_call GN hr2 rfl DN.m DN.F.kp DN.b .nil pass0 (pa_cons (pv 1) pa_nil)))
      (pss_cons (ps_set (i := 4) scQuot.nd rfl (Or.inl rfl) (pe_op op_rep (pe_lstF (pa_cons (pe_glob (v := .ref na) (by rfl) hN rfl) pa_nil)) (pe_callB (call_max2 rfl) (by rfl) T.max (show bootBuiltins "max" = some (.builtin "max") by decide +kernel) (pa_cons pe_int (pa_cons (pe_op op_add (pe_op op_sub (pe_callB call_len_seq (by rfl) T.len PySem.boot_len (pa_cons (pv 2) pa_nil)) (pe_callB call_len_seq (by rfl) T.len PySem.boot_len (pa_cons (pv 3) pa_nil))) pe_int) pa_nil)))))
      (pss_cons (ps_for PassesOwn.never rfl (pi_rev (by rfl) T.rev (pa_cons (pe_callTy call_range (by rfl) T.rng boot_range (pa_cons (pe_callB call_len_seq (by rfl) T.len PySem.boot_len (pa_cons (pv 4) pa_nil)) pa_nil)) pa_nil)) (pg_name (i := 5) scQuot.nd rfl (Or.inl rfl))
        (pss_cons (ps_set (i := 6) scQuot.nd rfl (Or.inl rfl) (pe_call GD hr rfl DD.m DD.F.kp DD.b .nil pass0 (pa_cons (pe_ix ix_list (pv 2) (pe_un un_neg pe_int) (fun _ _ => rfl)) (pa_cons (pe_ix ix_list (pv 3) (pe_un un_neg pe_int) (fun _ _ => rfl)) pa_nil))))
        (pss_cons (ps_asg (pv 6) (pg_sub (pv 4) (pv 5) set_list))
        (pss_cons (ps_for PassesOwn.never rfl (pi_enumL (by rfl) T.enum (pa_cons (pv 3) pa_nil)) (pg_tup rfl (pgs_cons (pg_name (i := 7) scQuot.nd rfl (Or.inl rfl)) (pgs_cons (pg_name (i := 8) scQuot.nd rfl (Or.inl rfl)) pgs_nil)))
          (pss_one (ps_asg (pe_call GL hr rfl DL.m DL.F.kp DL.b .nil pass0 (pa_cons (pe_ix ix_list (pv 2) (pe_op op_add (pv 5) (pv 7)) (fun _ _ => rfl)) (pa_cons (pe_call GM hr2 rfl DM.m DM.F.kp DM.b .nil pass0 (pa_cons (pv 6) (pa_cons (pv 8) pa_nil))) pa_nil))) (pg_sub (pv 2) (pe_op op_add (pv 5) (pv 7)) set_list))))
        (pss_one (ps_expr (pe_bm0 PySem.F.plainAttrs_list PySem.F.slot_list_pop PySem.F.type_list_pop mt_pop (pv 2))))))))
      (pss_one (ps_ret (pe_tupF (pa_cons (pe_call GS hr1 rfl DS.m DS.F.kp DS.b .nil pass0 (pa_cons (pv 4) pa_nil)) (pa_cons (pe_call GS hr1 rfl DS.m DS.F.kp DS.b .nil pass0 (pa_cons (pv 2) pa_nil)) pa_nil)))))))))
      , ?_⟩
    obtain ⟨qq2, o2, ys2, hp2, hq2, od2, tm2⟩ := S2.ex
    obtain ⟨j0, hj0⟩ := qs.nz
    have lt11 : ∀ {c : Nat → Rat} {j : Nat}, (∀ j, 11 ≤ j → c j = 0) → c j ≠ 0 → j < 11 := fun {c j} h k => by
      by_cases y : j < 11
      · exact y
      · exact absurd (h j (by omega)) k
    have ne2 : ys2.isEmpty = false := by
      have := sup_mem.mpr ⟨Nat.lt_of_lt_of_le (lt11 qs.f2 hj0) (by decide), hj0⟩
      have l2 := Paired.length tm2
      cases ys2 with
      | nil => rw [List.length_eq_zero_iff.mp (show (sup c2).length = 0 by simpa using l2.symm)] at this; cases this
      | cons a b => rfl
    refine ⟨_, rfl, p2, _, _, _, rfl, rfl, SqT.of hp2, rfl, (by show 0 ≤ sizeLine; decide), fun z H1 n1 s1 e1 => ⟨qq2, z, ys2, rfl, rfl, .inl (.inr ⟨o2, s1 _ _ hq2⟩), SqT.of e1, _, rfl, iteN ne2 ?_⟩⟩
    refine ⟨_, rfl, p1, c1, rfl, S1.same s1, fun j hj => qs.f1 j (by omega), fun rl n xs H2 n2 s2 dg1 e2 N1 => ?_⟩
    refine ⟨_, rfl, p2, c2, rfl, S2.same (s1.trans s2), fun j hj => qs.f2 j (by omega), fun dl m bs H3 n3 s3 dg2 e3 N2 => ?_⟩
    have n10 : n ≤ 10 := by
      rcases dg1.2 with y | y
      · omega
      · have := lt11 qs.f1 y; omega
    have nz2 : c2 m ≠ 0 := by
      rcases dg2.2 with y | y
      · have := dg2.1 _ hj0
        have : j0 = m := by omega
        rw [← this]; exact hj0
      · exact y
    have m10 : m ≤ 10 := by have := lt11 qs.f2 nz2; omega
    have lx := nums_len N1
    have lb := nums_len N2
    obtain ⟨D0, M, hD0, hM0, bD0, bM, whD, whM⟩ := qs.ex
    obtain ⟨t, ht0, bt, wht, bdt⟩ := qs.inv m nz2
    obtain ⟨L, hL⟩ : ∃ L, L = n + 1 - m := ⟨_, rfl⟩
    refine ⟨(by show 1 ≤ sizeLine; decide), fun z4 H4 n4 s4 e4 => ?_⟩
    refine ⟨_, rfl, rl, _, rfl, .inl (SqL.of (s4 _ _ (s3 _ _ e2))), _, rfl, dl, _, rfl, .inl (SqL.of (s4 _ _ e3)), _, _, rfl, rfl, _, _, rfl, rfl, _, _, rfl, ?_⟩
    rw [lx, lb]
    have eL : (if (((n + 1 : Nat) : Int) - ((m + 1 : Nat) : Int) + 1) > 0 then (((n + 1 : Nat) : Int) - ((m + 1 : Nat) : Int) + 1) else 0) = (L : Int) := by
      split <;> omega
    refine ⟨z4, (L : Int), [.ref na], rfl, by rw [← eL], e4, by omega, by omega, ?_, fun fo nfo => ?_⟩
    · show 1 * (L : Int).toNat ≤ sizeLine
      exact Nat.le_trans (show 1 * (L : Int).toNat ≤ 11 by omega) (by decide)
    have hfl : (List.replicate (L : Int).toNat [V.ref na]).flatten = List.replicate L (V.ref na) := by
      rw [show (L : Int).toNat = L by omega]
      induction L with
      | zero => rfl
      | succ k _ => simp
    rw [hfl]
    have s5 : Same H4 (upd H4 fo (.lst (List.replicate L (V.ref na)))) := same_upd _ nfo
    have e5 : (upd H4 fo (.lst (List.replicate L (V.ref na)))) fo = some (.lst (List.replicate L (V.ref na))) := upd_same
    generalize upd H4 fo (.lst (List.replicate L (V.ref na))) = H5 at s5 e5
    refine ⟨_, rfl, fo, _, rfl, .inl (SqL.of e5), _, rfl, fun rg nrg => ?_⟩
    have s6 : Same H5 (upd H5 rg (.rng 0 ((List.replicate L (V.ref na)).length : Nat))) := same_upd _ nrg
    have e6 : (upd H5 rg (.rng 0 ((List.replicate L (V.ref na)).length : Nat))) rg = some (.rng 0 ((List.replicate L (V.ref na)).length : Nat)) := upd_same
    rw [List.length_replicate] at s6 e6 ⊢
    generalize upd H5 rg (.rng 0 (L : Nat)) = H6 at s6 e6
    have r6 : H6 rl = some (.lst xs) := s6 _ _ (s5 _ _ (s4 _ _ (s3 _ _ e2)))
    have d6 : H6 dl = some (.lst bs) := s6 _ _ (s5 _ _ (s4 _ _ e3))
    have f6 : H6 fo = some (.lst (List.replicate L (V.ref na))) := s6 _ _ e5
    have N6 : NumsAt K H6 xs ((List.range (n + 1)).map c1) := N1.same (s3.trans (s4.trans (s5.trans s6)))
    have B6 : NumsAt K H6 bs ((List.range (m + 1)).map c2) := N2.same (s4.trans (s5.trans s6))
    have rd : rl ≠ dl := fun y => by rw [← y, e2] at n3; cases n3
    have rf : rl ≠ fo := fun y => by rw [← y, s4 _ _ (s3 _ _ e2)] at nfo; cases nfo
    have df : dl ≠ fo := fun y => by rw [← y, s4 _ _ e3] at nfo; cases nfo
    have sH : Same H H6 := s1.trans (s2.trans (s3.trans (s4.trans (s5.trans s6))))
    have hrl : H rl = none := s1.free n2
    have hfo : H fo = none := (s1.trans (s2.trans (s3.trans s4))).free nfo
    refine ⟨rg, L, rfl, e6, by omega, ?_⟩
    have M0 : QM c1 c2 D0 (t * M) n L 0 c1 (fun _ => 0) := by
      refine ⟨fun j => by rw [conv_zero, Rat.add_zero], fun j hj => ?_, fun _ _ => rfl, fun _ _ => rfl, fun j => by rw [Int.pow_zero, Int.mul_one]; exact whD j, fun j => by rw [Nat.pow_zero, Nat.mul_one]; exact qs.b1 j, fun _ => ⟨by show 0 < _; exact Nat.pow_pos (by decide), by show 1 < _; exact Nat.one_lt_pow (by decide) (by decide)⟩⟩
      by_cases y : c1 j = 0
      · exact y
      · have := dg1.1 j y
        omega
    have Z6 : NumsAt K H6 (List.replicate L (V.ref na)) ((List.range L).map fun _ => (0 : Rat)) := by
      have : ∀ k, NumsAt K H6 (List.replicate k (V.ref na)) ((List.range k).map fun _ => (0 : Rat)) := fun k => by
        induction k with
        | zero => exact .nil
        | succ k ih =>
          rw [List.replicate_succ', List.range_succ, List.map_append]
          exact Paired.snoc ih ⟨na, rfl, hNq H6, fun y => absurd rfl y⟩
      exact this L
    have tM0 := Int.mul_ne_zero ht0 hM0
    have btM : (t * M).natAbs < 2 ^ 160 := abs_mul (m := 40) (n := 120) bt bM
    refine for_down (fun k σ H' => (∃ u5 u6 u7 u8, σ = [some (.ref p1), some (.ref p2), some (.ref rl), some (.ref dl), some (.ref fo), u5, u6, u7, u8]) ∧ (∀ a o, H6 a = some o → a ≠ rl → a ≠ fo → H' a = some o) ∧
        ∃ g q, QM c1 c2 D0 (t * M) n L k g q ∧ (∃ xs, H' rl = some (.lst xs) ∧ NumsAt K H' xs ((List.range (n + 1 - k)).map g)) ∧ ∃ ys, H' fo = some (.lst ys) ∧ NumsAt K H' ys ((List.range L).map q))
      ⟨⟨_, _, _, _, rfl⟩, fun _ _ h _ _ => h, c1, _, M0, ⟨xs, r6, N6⟩, _, f6, Z6⟩ ?_ ?_
    · rintro k σ H7 hk ⟨⟨u5, u6, u7, u8, rfl⟩, kp, g, q, qm, ⟨xr, er, Nr⟩, ys, ef, Nf⟩
      have k10 : k ≤ 10 := by omega
      have kn : k ≤ n := by omega
      have lr := nums_len Nr
      have d7 : H7 dl = some (.lst bs) := kp _ _ d6 (Ne.symm rd) df
      have B7 : NumsAt K H7 bs ((List.range (m + 1)).map c2) := nums_kp B6 r6 f6 kp
      obtain ⟨_, hx, ax, rfl, sqx, _⟩ := nums_get Nr (i := n - k) (by omega)
      obtain ⟨_, hy, ay, rfl, sqy, _⟩ := nums_get B7 (i := m) (by omega)
      have dv := div_val (x := g (n - k)) (y := c2 m) nz2
      have szx : Sz 2800 (g (n - k)) := qm_sz hD0 tM0 bD0 btM (by omega) qm _
      have szc : ∀ j, Sz 200 (c2 j) := fun j => sz_of (a := 120) (v := 40) (whM j) hM0 bM (qs.b2 j) (Nat.le_refl _) (by decide)
      have szf := fac_sz hD0 ht0 hM0 bD0 bt bM k10 qm wht bdt (n - k)
      have szp := fun i => prod_sz hD0 ht0 hM0 bD0 bt bM k10 qm wht bdt whM qs.b2 (n - k) i
      have nxt := qm_step hD0 ht0 hM0 bD0 bt bM qm hk hL (by omega) dg2 nz2 wht bdt whM qs.b2
      refine ⟨_, rfl, _, rfl, rl, xr, -1, _, rfl, rfl, SqL.of er, at_last (N := n - k) (by omega) hx, _, rfl, _, rfl, dl, bs, -1, _, rfl, rfl, SqL.of d7, at_last (N := m) lb hy, ax, ay, _, _, _, _, rfl, sqx, sqy, szx.fr (by decide), (szc m).fr (by decide), dv.2.2, fun r H8 n8 s8 e8 => ?_⟩
      have a8 := at_lowN e8 dv.2.1 dv.1
      generalize hf : g (n - k) * (1 / c2 m) = fc at *
      have ef8 := s8 _ _ ef
      have lf := nums_len Nf
      obtain ⟨at', hat⟩ : ∃ at', at' = L - 1 - k := ⟨_, rfl⟩
      have zat : (L : Int) - 1 - (k : Int) = (at' : Int) := by omega
      refine ⟨_, rfl, _, rfl, _, rfl, fo, ys, _, at', rfl, rfl, ef8, ix_nat zat (by omega), ?_⟩
      have Nf8 : NumsAt K H8 (ys.set at' (.ref r)) ((List.range L).map (bump q at' fc)) := by
        refine nums_set (Nf.same s8) (by omega) (fun j hj => ?_) ⟨r, rfl, ?_, fun _ => ?_⟩
        · unfold bump; rw [if_neg hj, Rat.add_zero]
        · unfold bump
          rw [if_pos rfl, qm.q0 _ (by omega), Rat.zero_add]
          exact SqT.of a8
        · unfold bump
          rw [if_pos rfl, qm.q0 _ (by omega), Rat.zero_add]
          exact a8
      have Nf9 := Nf8.upd (o := .lst (ys.set at' (.ref r))) ef8
      have Nr9 := (Nr.same s8).upd (o := .lst (ys.set at' (.ref r))) ef8
      have B9 := (B7.same s8).upd (o := .lst (ys.set at' (.ref r))) ef8
      have kp9 : ∀ a o, H8 a = some o → a ≠ fo → upd H8 fo (.lst (ys.set at' (.ref r))) a = some o := fun a o h n => by rw [upd_ne n]; exact h
      have f9 : upd H8 fo (.lst (ys.set at' (.ref r))) fo = some (.lst (ys.set at' (.ref r))) := upd_same
      generalize upd H8 fo (.lst (ys.set at' (.ref r))) = H9 at Nf9 Nr9 B9 kp9 f9
      have r9 : H9 rl = some (.lst xr) := kp9 _ _ (s8 _ _ er) rf
      have d9 : H9 dl = some (.lst bs) := kp9 _ _ (s8 _ _ d7) df
      have a9 : At2 H9 r fc.num fc.den := kp9 _ _ a8 (fun y => by unfold At2 at a8; rw [y, ef8] at a8; cases a8)
      refine ⟨_, rfl, dl, rfl, ⟨bs, SqL.of d9⟩, ?_⟩
      refine for_enumL (K := K) (a := dl) (xs := bs) (fun p σ H' => (∃ u7 u8, σ = [some (.ref p1), some (.ref p2), some (.ref rl), some (.ref dl), some (.ref fo), some (.int ((L : Int) - 1 - k)), some (.ref r), u7, u8]) ∧ (∀ a o, H9 a = some o → a ≠ rl → H' a = some o) ∧
          ∃ xs, H' rl = some (.lst xs) ∧ NumsAt K H' xs ((List.range (n + 1 - k)).map (hp g c2 at' fc p)))
        ⟨⟨_, _, rfl⟩, fun _ _ h _ => h, xr, r9, nums_congr Nr9 fun j _ => by unfold hp; rw [if_neg (by omega)]; grind⟩ (fun i σ H' _ h => SqL.of (h.2.1 _ _ d9 (Ne.symm rd))) ?_ ?_
      · rintro i _ p σ H10 hbi hp10 ⟨⟨u7, u8, rfl⟩, kp10, xs', e10, N10⟩
        have i_lt : i < m + 1 := by rw [← lb]; exact (List.getElem?_eq_some_iff.mp hbi).1
        obtain ⟨_, hy', ab, hab, sqb, _⟩ := nums_get B9 (i := i) i_lt
        rw [hbi] at hy'
        cases hy'
        subst hab
        have s11 : Same H10 (upd H10 p (.tup [.int i, .ref ab])) := same_upd _ hp10
        have e11 : (upd H10 p (.tup [.int i, .ref ab])) p = some (.tup [.int i, .ref ab]) := upd_same
        generalize upd H10 p (.tup [.int i, .ref ab]) = H11 at s11 e11
        have ex11 := s11 _ _ e10
        have N11 := N10.same s11
        have kp11 : ∀ a o, H9 a = some o → a ≠ rl → H11 a = some o := fun a o h n => s11 _ _ (kp10 _ _ h n)
        have tu : ∀ {a xs}, H9 a = some (.tup xs) → H11 a = some (.tup xs) := fun {a xs} h => kp11 _ _ h (fun y => by rw [y, r9] at h; cases h)
        have sb11 : SqT K H11 ab [.int (c2 i).num, .int (c2 i).den] := by
          rcases sqb with (q' | ⟨u, q'⟩) | q'
          · exact .inl (.inl (tu q'))
          · exact .inl (.inr ⟨u, kp11 _ _ q' (fun y => by rw [y, r9] at q'; cases q')⟩)
          · exact .inr q'
        have ll := nums_len N11
        have zi : (L : Int) - 1 - (k : Int) + (i : Int) = ((at' + i : Nat) : Int) := by omega
        obtain ⟨_, hxi, ai, rfl, sqi, _⟩ := nums_get N11 (i := at' + i) (by omega)
        have szi : Sz 2800 (hp g c2 at' fc i (at' + i)) := by
          unfold hp
          rw [if_neg (by omega), show g (at' + i) - 0 = g (at' + i) by grind]
          exact qm_sz hD0 tM0 bD0 btM (by omega) qm _
        have nl := num_low fc
        have nc := num_low (c2 i)
        have ni := num_low (hp g c2 at' fc i (at' + i))
        refine ⟨p, _, rfl, SqT.of e11, rfl, _, _, rfl, _, _, rfl, rfl, ?_⟩
        refine ⟨_, rfl, _, rfl, _, rfl, _, _, rfl, rfl, rl, xs', _, _, rfl, rfl, SqL.of ex11, by rw [zi]; exact atI_nat hxi, _, rfl, _, rfl, r, ab, _, _, _, _, rfl, SqT.of (tu a9), sb11, szf.fr (by decide), (szc i).fr (by decide), fun r2 H12 n12 s12 e12 => ?_⟩
        have a12 := at_low (z := fc * c2 i) e12 (Int.mul_pos nl.1 nc.1) (by rw [fv_mul nl.1 nc.1, fv_num, fv_num])
        have np := num_low (fc * c2 i)
        refine ⟨ai, r2, _, _, _, _, rfl, sqT_same s12 sqi, SqT.of a12, szi.fr (by decide), (szp i).fr (by decide), fun r3 H13 n13 s13 e13 => ?_⟩
        have a13 := at_low (z := hp g c2 at' fc i (at' + i) - fc * c2 i) e13 (Int.mul_pos ni.1 np.1) (by
          have h1 := fv_num (hp g c2 at' fc i (at' + i))
          have h2 := fv_num (fc * c2 i)
          have c3 := cne ni.1
          have c4 := cne np.1
          unfold fv at h1 h2 ⊢
          rw [Rat.intCast_sub, Rat.intCast_mul, Rat.intCast_mul, Rat.intCast_mul]
          grind)
        have s1213 := s12.trans s13
        have ex13 := s1213 _ _ ex11
        refine ⟨_, rfl, _, rfl, _, rfl, _, _, rfl, rfl, rl, xs', _, at' + i, rfl, rfl, ex13, ix_nat zi (by omega), ?_⟩
        refine ⟨⟨_, _, rfl⟩, fun a o h nn => ?_, _, upd_same, ?_⟩
        · rw [upd_ne nn]
          exact s1213 _ _ (kp11 _ _ h nn)
        · refine NumsAt.upd (nums_set (g' := hp g c2 at' fc (i + 1)) (N11.same s1213) (by omega) (fun j hj => hp_step.1 j hj) ?_) ex13
          rw [hp_step.2]
          exact ⟨r3, rfl, SqT.of a13, fun _ => a13⟩
      · rintro σ H10 ⟨⟨u7, u8, rfl⟩, kp10, xs', e10, N10⟩
        rw [lb] at N10
        have ll := nums_len N10
        obtain ⟨y, hy2, _⟩ := nums_get N10 (i := n - k) (by omega)
        refine ⟨_, rfl, .inl ⟨rfl, _, SqL.of e10⟩, rl, xs', y, rfl, rfl, e10, by rw [ll, show n + 1 - k - 1 = n - k by omega]; exact hy2, ?_⟩
        refine ⟨⟨_, _, _, _, rfl⟩, fun a o h n1 n2 => ?_, _, _, nxt, ⟨_, upd_same, ?_⟩, ys.set at' (.ref r), ?_, ?_⟩
        · rw [upd_ne n1]
          exact kp10 _ _ (kp9 _ _ (s8 _ _ (kp _ _ h n1 n2)) n2) n1
        · refine NumsAt.upd ?_ e10
          have N11 : NumsAt K H10 xs' ((List.range (n - k + 1)).map (hp g c2 at' fc (m + 1))) := by
            rw [show n - k + 1 = n + 1 - k by omega]
            exact N10
          have := nums_pop N11
          rw [show n + 1 - (k + 1) = n - k by omega]
          refine nums_congr this fun j hj => ?_
          show hp g c2 at' fc (m + 1) j = g j - sh (L - 1 - k) fc c2 j
          unfold hp sh
          rw [← hat]
          by_cases y1 : at' ≤ j
          · rw [if_pos y1, if_pos ⟨y1, by omega⟩]
          · rw [if_neg y1, if_neg fun z => y1 z.1]
        · rw [upd_ne (Ne.symm rf)]
          exact kp10 _ _ f9 (Ne.symm rf)
        · rw [← hat]
          refine NumsAt.upd ?_ e10
          exact nums_kp Nf9 r9 r9 fun a o h n1 _ => kp10 _ _ h n1
    · rintro σ H7 ⟨⟨u5, u6, u7, u8, rfl⟩, kp, g, q, qm, ⟨xr, er, Nr⟩, ys, ef, Nf⟩
      refine ⟨_, rfl, fo, ys, _, rfl, ef, Nf, by simp; omega, fun a H8 n8 s8 C8 => ⟨_, rfl, rl, xr, _, rfl, s8 _ _ er, Nr.same s8, by simp; omega, fun b H9 n9 s9 C9 => ⟨(by show 2 ≤ sizeLine; decide), fun p H10 n10' s10 e10 => ?_⟩⟩⟩
      have kH : Same H H7 := fun a o h => kp _ _ (sH _ _ h) (fun y => by rw [y, hrl] at h; cases h) (fun y => by rw [y, hfo] at h; cases h)
      rw [fOf_map qm.q1] at C8
      rw [fOf_map qm.g0] at C9
      have kA := kH.trans (s8.trans s9)
      refine go p q g H10 (kA.free n10') (kA.trans s10) ⟨qm.eq, fun m' hm' j hj => qm.g0 j ?_, fun j hj => qm.q1 j (by omega), fun j hj => qm.g0 j (by omega), qm.sq, fun j => qm_sz hD0 tM0 bD0 btM (by omega) qm j⟩ ⟨a, b, e10, C8.same (s9.trans s10), C9.same s10⟩
      have := hm'.uniq dg2
      omega
end
end Lw

namespace Lw
open PySem PySem.Spec PyProof.Rows L2 LwQ
abbrev sInit : Stmt := inClass (top 1) 0
section
variable {P : Program} {w : World} {K : PySem.W.Frag} {mg : Str → Option Value} {base : Heap} {f fd : _}
theorem scInit : FnScope ["self", "text"] ["self", "text"] (defScope sInit) := ⟨rfl, rfl, rfl, by decide +kernel, rfl, by decide +kernel, by decide +kernel⟩
/-- LowwaterError's own def: the text is handed on -/
theorem ok_init {oc dV kV doc pm cdv ct : Value} {od an : Option Addr} {osl : Array (Option Value)} (lk : K.lookup f = some ⟨oc, od, .func (PySem.W.fnOf "__init__" "LowwaterError.__init__" (defArgs sInit) (defBody sInit) (defScope sInit) dV kV doc pm an cdv ct), osl⟩)
    (hcd : PySem.W.codeIn K cdv "LowwaterError.__init__" = true) (Tv : mg "ValueError" = none) : FnOk P w K mg base CX0 1 f (PySem.W.fnOf "__init__" "LowwaterError.__init__" (defArgs sInit) (defBody sInit) (defScope sInit) dV kV doc pm an cdv ct) ["self", "text"] (LwE.spInit K) := by
  refine fn_of lk hcd scInit (fun vs H Q E h => ?_) (fun A outer s H vs Q E hr h => ?_)
  · obtain ⟨e, C, fI, bl, nid, v, rfl, _⟩ := h
    rfl
  · obtain ⟨e, C, fI, bl, nid, v, rfl, he, c, q⟩ := h
    refine ⟨_, (pss_one (ps_expr (LwE.pe_baseInit (pl := _) (pa_cons (pv 0) (pa_cons (pv 1) pa_nil)) (hm := Tv)))).nox, ?_⟩
    exact ⟨_, rfl, _, rfl, e, C, fI, bl, nid, v, rfl, he, c, q⟩
theorem init_binds {dV kV doc pm cdv ct : Value} {an : Option Addr} {T : Addr} {oc : Value} {od : Option Addr} {its : Array Value} {n : Nat} {sl : Array (Option Value)} (hd : dV = .ref T) (lk : K.lookup T = some ⟨oc, od, .seq its n, sl⟩) (hn : its.size = 1) :
    L2.Binds K (PySem.W.fnOf "__init__" "LowwaterError.__init__" (defArgs sInit) (defBody sInit) (defScope sInit) dV kV doc pm an cdv ct) ["self", "text"] [] := by
  intro s us KI hl
  match us, hl with
  | [a, b], _ =>
    subst hd
    obtain ⟨l⟩ := its
    match l, hn with
    | [d], _ => exact PySem.W.binds_K KI rfl lk rfl rfl rfl
/-- divided by the sum 0: the exception flies -/
def spQuotX (C : Addr) : Sp := fun vs H _ E => ∃ (p q z : Addr), vs = [.ref p, .ref q] ∧ H q = some (.tup [.int 1, .ref z]) ∧ H z = some (.tup []) ∧ ∀ H', Same H H' → E (.ref C) none H'
theorem ok_quotX {C fI : Addr} {fdI : FuncData} {bl : List Value} (F : Fun K "quotient" "quotient" sQuot f fd) (c : LwE.XCls K C fI bl "ValueError.__new__") (G : FnOk P w K mg base CX0 1 fI fdI ["self", "text"] (LwE.spInit K)) (b : L2.Binds K fdI ["self", "text"] []) (hm : mg "NoQuotient" = some (.ref C)) :
    FnOk P w K mg base (LwE.CXF P w) 3 f fd ["one", "other"] (spQuotX C) := by
  obtain ⟨oc, od, kV, doc, pm, an, cdv, ct, osl, rfl, lk, hcd⟩ := F.ex
  refine fn_of lk hcd scQuot (fun vs H Q E h => ?_) (fun A outer s H vs Q E hr h => ?_)
  · obtain ⟨p, q, z, rfl, _⟩ := h
    rfl
  · obtain ⟨p, q, z, rfl, hq, hz, k⟩ := h
    refine ⟨_, pss_cons (ps_if (pt_cmpR (op_eqN hr.units0) (pe_ix ix_tup (pv 1) pe_int (fun _ _ => rfl)) (pe_tupF pa_nil) (nomark _)) (pss_one (LwE.ps_raise c G b hr rfl hm pe_str)) pss_nil) pss_never, ?_⟩
    refine ⟨_, rfl, q, _, _, _, rfl, rfl, SqT.of hq, rfl, (by show 0 ≤ sizeLine; decide), fun y H1 n1 s1 e1 => ⟨z, y, [], rfl, rfl, SqT.of (s1 _ _ hz), SqT.of e1, _, rfl, iteP (by rfl) ?_⟩⟩
    exact ⟨_, rfl, k H1 s1⟩
structure Cls2 (K : PySem.W.Frag) (mg : Str → Option Value) (fI C D : Addr) (bl bd : List Value) : Prop where
  q : LwE.XCls K C fI bl "ValueError.__new__"
  d : LwE.XCls K D fI bd "ValueError.__new__"
  up : bl.contains (.ref D) = true
  mq : mg "NoQuotient" = some (.ref C)
  md : mg "LowwaterError" = some (.ref D)
def spRefused : Sp := fun vs H Q _ => ∃ (p : Addr), vs = [.ref p] ∧ ∀ H', Same H H' → Q (.bl true) H'
theorem scRefused : FnScope ["one", "told", "e"] ["one"] (defScope sRefused) := ⟨rfl, rfl, rfl, by decide +kernel, rfl, by decide +kernel, by decide +kernel⟩
theorem ok_refused {fV fI C D : Addr} {fdV fdI : FuncData} {bl bd : List Value} (F : Fun K "_law_refused" "_law_refused" sRefused f fd) (T : Txt mg) (DV : Df K mg "quotient" sQuot ["one", "other"] fV fdV) (c : Cls2 K mg fI C D bl bd)
    (G : FnOk P w K mg base CX0 1 fI fdI ["self", "text"] (LwE.spInit K)) (bI : L2.Binds K fdI ["self", "text"] []) : FnOk P w K mg base CX0 5 f fd ["one"] spRefused := by
  have GX : FnOk P w K mg base (LwE.CXF P w) 3 fV fdV ["one", "other"] (spQuotX C) := ok_quotX DV.F c.q G bI c.mq
  refine F.ok scRefused (fun vs H Q E h => ?_) (fun cdv A outer s H vs Q E hr h => ?_)
  · obtain ⟨p, rfl, _⟩ := h
    rfl
  · obtain ⟨p, rfl, k⟩ := h
    refine ⟨_, pss_cons (ps_set (i := 1) scRefused.nd rfl (Or.inl rfl) pe_non)
      (pss_cons (LwE.ps_catch (j := 2) rfl rfl rfl rfl c.d rfl c.md scRefused.nd rfl rfl (LwE.pbx_expr rfl GX (hr.mono (by decide)) rfl DV.m DV.F.kp DV.b (pa_cons (pv 0) (pa_cons (pe_tupF (pa_cons pe_int (pa_cons (pe_tupF pa_nil) pa_nil))) pa_nil))) (fun e => pss_one (ps_set (i := 1) scRefused.nd rfl (Or.inl rfl) (pv 2))))
      (pss_one (ps_ret (pe_callB LwE.call_isX (by rfl) T.isi boot_isinstance (pa_cons (pv 1) (pa_cons (pe_glob (v := .ref C) rfl c.mq rfl) pa_nil)))))), ?_⟩
    refine ⟨fun x _ H' => x = .ref C ∧ Same H H', ⟨_, rfl, (by show 0 ≤ sizeLine; decide), fun z H1 n1 s1 e1 => ⟨(by show 2 ≤ sizeLine; decide), fun q H2 n2 s2 e2 => ⟨p, q, z, rfl, e2, s2 _ _ e1, fun H' s' => ⟨rfl, (s1.trans s2).trans s'⟩⟩⟩⟩, ?_⟩
    rintro x H' ⟨rfl, sH⟩
    refine ⟨C, fI, bl, _, rfl, c.q, c.up, fun e hn => ?_⟩
    refine ⟨_, rfl, ?_⟩
    have s1 : Same H' (upd H' e (LwE.excH e C)) := same_upd _ hn
    exact ⟨_, rfl, e, C, fI, bl, _, _, _, true, rfl, upd_same, c.q, rfl, (by unfold PySem.W.kitOne; simp), k _ (sH.trans s1)⟩
end
end Lw

namespace Lw
open PySem PySem.Spec PyProof.Rows L2 LwQ
section
variable {X : Cx}
def rIsiT (K : PySem.W.Frag) : List V → Hp → VK → Prop := fun xs H Q => match xs with
  | [x, y] => y = .ty "tuple" ∧ ∃ a ys, x = .ref a ∧ SqT K H a ys ∧ Q (.bl true) H
  | _ => False
theorem call_isiT : CallR X (.builtin "isinstance") (rIsiT X.K) := by
  intro pins s σ H xs us Q I r h
  match xs, h with
  | [x, y], h =>
    obtain ⟨rfl, a, ys, rfl, hq, q⟩ := h
    obtain ⟨u, w', rfl, ru, rw'⟩ := vals2 r
    cases (show w' = Value.type "tuple" from rw')
    cases ru
    obtain ⟨its, rv, ⟨o, h1, h2, _⟩, _⟩ := I.tuple hq
    exact PySem.W.kia_one (b := true) PySem.W.kitx_tuple I.kIn ⟨o, h1, h2⟩ rfl (fun z => nomatch z) fun tk => ⟨.bl true, H, I.tok tk, rfl, q⟩
theorem pe_isiT {e : Expr} {te : TE} {p p2 pos : Pos} (hm : X.mg "isinstance" = none) (hm2 : X.mg "tuple" = none) (he : PE X e te)
    (hg : Gl X "isinstance" := by rfl) (hg2 : Gl X "tuple" := by rfl)
    (hs : starEach [e, .Name "tuple" p2] X.env = (false, eval e X.env) :: starEach [.Name "tuple" p2] X.env := by rfl) (hs2 : starEach [.Name "tuple" p2] X.env = (false, eval (.Name "tuple" p2) X.env) :: starEach [] X.env := by rfl)
    (hpl : (backTo pos (starEach [.Name "tuple" p2] X.env)).any (·.1) = false := by rfl) : PE X (.Call (.Name "isinstance" p) [e, .Name "tuple" p2] [] pos) (tCB (rIsiT X.K) (tCons te (tCons (tC (.ty "tuple")) tNil))) :=
  pe_callB (X := X) (p := p) (pos := pos) call_isiT hg hm boot_isinstance (pa_cons he (pa_cons (pe_bltn (v := .ty "tuple") hg2 hm2 boot_tuple rfl (by decide) (by decide)) pa_nil hs2) hs) (by decide) (by decide) hs hpl
def frD (t b : Int) : PyData := .tuple [.int t, .int b]
def termD (c : Nat → Rat) (n : Nat) : PyData := .tuple [.tuple [.int n], frD (c n).num (c n).den]
def sumD (c : Nat → Rat) : PyData := .tuple [.int 1, .tuple ((sup c).map (termD c))]
def pairD (q r : Nat → Rat) : PyData := .tuple [sumD q, sumD r]
theorem eqv_terms (c : Nat → Rat) : ∀ l : List Nat, PyData.eqvAll (l.map (termD c)) (l.map (termD c)) = true
  | [] => by simp [PyData.eqvAll]
  | n :: l => by
    have := eqv_terms c l
    simp [PyData.eqvAll, PyData.eqv, termD, frD, this]
theorem lay_terms (c : Nat → Rat) : ∀ l : List Nat, PyData.canLayAll0 (l.map (termD c)) = true
  | [] => by simp [PyData.canLayAll0]
  | n :: l => by
    have := lay_terms c l
    simp [PyData.canLayAll0, PyData.canLay0, termD, frD, this]
theorem depth_terms (c : Nat → Rat) : ∀ l : List Nat, PyData.depthAll (l.map (termD c)) ≤ 10
  | [] => by simp [PyData.depthAll]
  | n :: l => by
    have := depth_terms c l
    simp [PyData.depthAll, PyData.depth, termD, frD]
    omega
theorem eqv_pair (q r : Nat → Rat) : PyData.eqv (pairD q r) (pairD q r) = true := by
  simp [pairD, sumD, PyData.eqv, PyData.eqvAll, eqv_terms]
theorem lay_pair (q r : Nat → Rat) : (pairD q r).canLay0 = true := by
  simp [pairD, sumD, PyData.canLay0, PyData.canLayAll0, lay_terms]
theorem depth_pair (q r : Nat → Rat) : (pairD q r).depth ≤ 60 := by
  have h1 := depth_terms q (sup q)
  have h2 := depth_terms r (sup r)
  simp [pairD, sumD, PyData.depth, PyData.depthAll]
  omega
/-- the value's data -/
def RdV (h : Heap) (x : V) (d : PyData) : Prop := ∀ u, RelV x u → ∃ as, Reads h u d as
theorem rdv_int {h : Heap} (i : Int) : RdV h (.int i) (.int i) := fun u r => by obtain ⟨t, rfl⟩ := r; exact ⟨_, .int i t⟩
theorem rdv_all {h : Heap} : ∀ {xs : List V} {ds : List PyData} {us : List Value}, Paired (RdV h) xs ds → Vals xs us → ∃ as, ReadsAll h us ds as
  | _, _, _, .nil, r => by cases r; exact ⟨_, .nil⟩
  | _, _, _, .cons a t, r => by
    cases r with
    | cons r1 rt =>
      obtain ⟨as, ra⟩ := a _ r1
      obtain ⟨bs, rb⟩ := rdv_all t rt
      exact ⟨_, .cons ra rb⟩
theorem rdv_tup {pins : List (Addr × Obj)} {σ : L2.St} {H : Hp} {s : Shared} (I : Inv X pins σ H s) {a : Addr} {xs : List V} {ds : List PyData} (h : SqT X.K H a xs) (p : Paired (RdV s.heap) xs ds) : RdV s.heap (.ref a) (.tuple ds) := fun u r => by
  cases r
  obtain ⟨its, rv, ⟨o, ho, hc, n, hd⟩, _⟩ := I.tuple h
  obtain ⟨as, ra⟩ := rdv_all p rv
  exact ⟨_, .tuple ho hc hd (by simpa using ra)⟩
theorem rdv_terms {pins : List (Addr × Obj)} {σ : L2.St} {H : Hp} {s : Shared} (I : Inv X pins σ H s) {c : Nat → Rat} : ∀ {xs : List V} {l : List Nat}, TermsP H c xs l → Paired (RdV s.heap) xs (l.map (termD c))
  | _, _, .nil => .nil
  | _, _, .cons h t => by
    obtain ⟨r, b, q, rfl, h1, h2, h3⟩ := h
    refine .cons (rdv_tup I (SqT.of h1) (.cons (rdv_tup I (SqT.of h2) (.cons (rdv_int _) .nil)) (.cons (rdv_tup I (SqT.of h3) (.cons (rdv_int _) (.cons (rdv_int _) .nil))) .nil))) (rdv_terms I t)
theorem rdv_sum {pins : List (Addr × Obj)} {σ : L2.St} {H : Hp} {s : Shared} (I : Inv X pins σ H s) {c : Nat → Rat} {p : Addr} (h : SumC H p c) : RdV s.heap (.ref p) (sumD c) := by
  obtain ⟨q, o, xs, e1, e2, _, e4⟩ := h.ex
  exact rdv_tup I (SqT.of e1) (.cons (rdv_int 1) (.cons (rdv_tup I (.inl (.inr ⟨o, e2⟩)) (rdv_terms I e4)) .nil))
theorem rdv_pair {pins : List (Addr × Obj)} {σ : L2.St} {H : Hp} {s : Shared} (I : Inv X pins σ H s) {q r : Nat → Rat} {p : Addr} (h : PairC H p q r) : RdV s.heap (.ref p) (pairD q r) := by
  obtain ⟨a, b, e1, e2, e3⟩ := h.ex
  exact rdv_tup I (SqT.of e1) (.cons (rdv_sum I e2) (.cons (rdv_sum I e3) .nil))
def rCmpC (b : Bool) : R2 := fun x y H Q => ∃ (p p' : Addr) (q r : Nat → Rat), x = .ref p ∧ y = .ref p' ∧ PairC H p q r ∧ PairC H p' q r ∧ Q (.bl b) H
theorem op_neC (hu : X.A.units + 64 < cLine) : OpR X (compareOp .NotEq) (rCmpC false) := by
  intro pins s σ H x y v u Q I rx ry h
  obtain ⟨p, p', q, r, rfl, rfl, h1, h2, k⟩ := h
  obtain ⟨as, ra⟩ := rdv_pair I h1 _ rx
  obtain ⟨bs, rb⟩ := rdv_pair I h2 _ ry
  have hd := depth_pair q r
  refine SeqAt.rcNeAt_reads ra rb (lay_pair q r) (lay_pair q r) (by omega) _ _ _ _ ?_
  rw [eqv_pair]
  exact ⟨.bl false, H, I, rfl, k⟩
theorem op_eqC (hu : X.A.units + 64 < cLine) : OpR X (compareOp .Eq) (rCmpC true) := by
  intro pins s σ H x y v u Q I rx ry h
  obtain ⟨p, p', q, r, rfl, rfl, h1, h2, k⟩ := h
  obtain ⟨as, ra⟩ := rdv_pair I h1 _ rx
  obtain ⟨bs, rb⟩ := rdv_pair I h2 _ ry
  have hd := depth_pair q r
  refine SeqAt.rcAt_reads ra rb (lay_pair q r) (lay_pair q r) (by omega) _ _ _ _ ?_
  rw [eqv_pair]
  exact ⟨.bl true, H, I, rfl, k⟩
end
end Lw

namespace Lw
open PySem PySem.Spec PyProof.Rows L2 LwQ
def spRight : Sp := fun vs H Q _ => ∃ (a b p : Addr) (c1 c2 q r : Nat → Rat) (s1 : Nat → Nat), vs = [.ref a, .ref b, .ref p] ∧ FrzP H a c1 s1 ∧ (∀ n, s1 n ≤ 50000) ∧ FrzP H b c2 (fun _ => 40) ∧ QS c1 c2 ∧ QR c1 c2 q r ∧ PairC H p q r ∧ ∀ H', Same H H' → Q (.bl true) H'
theorem PairC.same {H H' : Hp} {p : Addr} {q r : Nat → Rat} (h : PairC H p q r) (s : Same H H') : PairC H' p q r := by
  obtain ⟨a, b, e1, e2, e3⟩ := h.ex
  exact ⟨a, b, s _ _ e1, e2.same s, e3.same s⟩
theorem lt11 {c : Nat → Rat} {j : Nat} (h : ∀ j, 11 ≤ j → c j = 0) (k : c j ≠ 0) : j < 11 := by
  by_cases y : j < 11
  · exact y
  · exact absurd (h j (by omega)) k
section
variable {P : Program} {w : World} {K : PySem.W.Frag} {mg : Str → Option Value} {base : Heap} {f fd : _}
theorem scRight : FnScope ["one", "other", "told", "some", "rest"] ["one", "other", "told"] (defScope sRight) := ⟨rfl, rfl, rfl, by decide +kernel, rfl, by decide +kernel, by decide +kernel⟩
theorem ok_right {fL fPr fA fS fD fPu fPl fM fK : Addr} {fdL fdPr fdA fdS fdD fdPu fdPl fdM fdK : FuncData} (F : Fun K "_law_right" "_law_right" sRight f fd) (T : Txt mg) (DS : Df K mg "_law_sum" sLSum ["many", "one"] fS fdS) (DL : Df K mg "_law_low" sLow ["top", "bottom"] fL fdL)
    (DP : Df K mg "_law_product" sProduct ["one", "other"] fPr fdPr) (DA : Df K mg "_law_added" sLAdded ["one", "other"] fA fdA) (DK : Df K mg "_law_same" sSame ["one", "other"] fK fdK) (DD : Df K mg "_law_deg" sDeg ["one"] fD fdD)
    (DU : Df K mg "_law_put" sPut ["found", "powers", "number"] fPu fdPu) (DT : Df K mg "_law_plus" sPlus ["one", "other"] fPl fdPl) (DM : Df K mg "_law_mul" sLMul ["one", "other"] fM fdM) {fI : Addr} {fdI : FuncData} (DI : Df K mg "_law_like" sLike ["one", "other"] fI fdI) :
    FnOk P w K mg base CX0 4 f fd ["one", "other", "told"] spRight := by
  have GS : FnOk P w K mg base CX0 2 fS fdS ["many", "one"] spLSum := ok_lsum DS.F T DL
  have GP : FnOk P w K mg base CX0 3 fPr fdPr ["one", "other"] spProd := ok_prod DP.F T DU DT DM
  have GA : FnOk P w K mg base CX0 3 fA fdA ["one", "other"] spLAdd := ok_ladd DA.F T DU DT
  have GK : FnOk P w K mg base CX0 2 fK fdK ["one", "other"] spSame := ok_same DK.F T DI
  have GD : FnOk P w K mg base CX0 1 fD fdD ["one"] spDeg := ok_deg DD.F T
  refine F.ok scRight (fun vs H Q E h => ?_) (fun cdv A outer s H vs Q E hr h => ?_)
  · obtain ⟨a, b, p, c1, c2, q, r, s1, rfl, _⟩ := h
    rfl
  · obtain ⟨a, b, p, c1, c2, q, r, z1, rfl, hA, hz1, hB, qs, qr, hP, go⟩ := h
    have hr1 : Room 1 _ := hr.mono (by decide)
    have hr2 : Room 2 _ := hr.mono (by decide)
    have hu : _ + 64 < cLine := hr.units
    have hu2 : _ + 2 < cLine := Nat.lt_of_le_of_lt (Nat.add_le_add_left (by decide : 2 ≤ 64) _) hr.units
    refine ⟨_, pss_cons (ps_if (PW.pt (pw_or (pt_not (pt_val (pe_isiT T.isi T.tup (pv 2)))) (pw_or1 (pt_cmpR op_ne (pe_callB call_len_seq (by rfl) T.len PySem.boot_len (pa_cons (pv 2) pa_nil)) pe_int (nomark _))))) (pss_one (ps_ret pe_bl)) pss_nil)
      (pss_cons (ps_set (i := 3) scRight.nd rfl (Or.inl rfl) (LwD.pe_frz (pe_callTy (LwD.call_dictT rfl hu2) (by rfl) T.dct boot_dict (pa_cons (pe_ix ix_tup (pe_ix ix_tup (pv 2) pe_int (fun _ _ => rfl)) pe_int (fun _ _ => rfl)) pa_nil))))
      (pss_cons (ps_set (i := 4) scRight.nd rfl (Or.inl rfl) (LwD.pe_frz (pe_callTy (LwD.call_dictT rfl hu2) (by rfl) T.dct boot_dict (pa_cons (pe_ix ix_tup (pe_ix ix_tup (pv 2) pe_int (fun _ _ => rfl)) pe_int (fun _ _ => rfl)) pa_nil))))
      (pss_cons (ps_if (pt_cmpR (op_neC hu) (pv 2) (pe_tupF (pa_cons (pe_call GS hr2 rfl DS.m DS.F.kp DS.b .nil pass0 (pa_cons pe_int (pa_cons (pv 3) pa_nil))) (pa_cons (pe_call GS hr2 rfl DS.m DS.F.kp DS.b .nil pass0 (pa_cons pe_int (pa_cons (pv 4) pa_nil))) pa_nil))) (nomark _)) (pss_one (ps_ret pe_bl)) pss_nil)
      (pss_cons (ps_if (pt_not (pt_val (pe_call GK hr2 rfl DK.m DK.F.kp DK.b .nil pass0 (pa_cons (LwD.pe_frz (pe_call GA hr rfl DA.m DA.F.kp DA.b .nil pass0 (pa_cons (pe_call GP hr rfl DP.m DP.F.kp DP.b .nil pass0 (pa_cons (pv 3) (pa_cons (pv 1) pa_nil))) (pa_cons (pv 4) pa_nil)))) (pa_cons (pv 0) pa_nil))))) (pss_one (ps_ret pe_bl)) pss_nil)
      (pss_one (ps_ret (pe_or (pe_cmpR (LwD.op_eqE hr.units0) (pv 4) pe_dnewT (nomark _)) (pe_one (pe_cmpR op_lt (pe_call GD hr1 rfl DD.m DD.F.kp DD.b .nil pass0 (pa_cons (pv 4) pa_nil)) (pe_call GD hr1 rfl DD.m DD.F.kp DD.b .nil pass0 (pa_cons (pv 1) pa_nil)) (nomark _)))))))))), ?_⟩
    obtain ⟨pa, pb, e1, Sa, Sb⟩ := hP.ex
    refine ⟨_, rfl, rfl, p, _, rfl, SqT.of e1, _, rfl, iteF ?_⟩
    refine ⟨_, rfl, p, _, rfl, .inr (SqT.of e1), rfl, _, rfl, iteN (by rfl) ?_⟩
    obtain ⟨ta, oa, xa, fa1, fa2, fa3, fa4⟩ := Sa.ex
    obtain ⟨tb, ob, xb, fb1, fb2, fb3, fb4⟩ := Sb.ex
    obtain ⟨E1, pr1, R1, _⟩ := terms_rep (s := fun _ => 2800) (fun n => qr.sq n) fa4 (fun j hj => qr.q11 j (by omega))
    refine ⟨_, rfl, p, _, _, _, rfl, rfl, SqT.of e1, rfl, pa, _, _, _, rfl, rfl, SqT.of fa1, rfl, ta, oa, xa, _, rfl, fa2, fa3, pr1, kv_nodup R1.nd, fun d1 H1 n1 s1 e1' => ⟨d1, _, rfl, e1', fun o1 => ?_⟩⟩
    have s2 : Same H (upd H1 d1 (.frz o1 (.dT (E1.map Ent.kv)))) := put_same s1 n1
    have F1 : FrzP (upd H1 d1 (.frz o1 (.dT (E1.map Ent.kv)))) d1 q (fun _ => 2800) := ⟨E1, o1, upd_same, R1.map fun _ _ e => s2 _ _ e⟩
    generalize upd H1 d1 (.frz o1 (.dT (E1.map Ent.kv))) = H2 at s2 F1
    obtain ⟨E2, pr2, R2, _⟩ := terms_rep (H := H2) (s := fun _ => 2800) (fun n => qr.sr n) (fb4.map fun _ _ e => s2 _ _ e) (fun j hj => qr.r11 j (by omega))
    refine ⟨_, rfl, p, _, _, _, rfl, rfl, SqT.of (s2 _ _ e1), rfl, pb, _, _, _, rfl, rfl, SqT.of (s2 _ _ fb1), rfl, tb, ob, xb, _, rfl, s2 _ _ fb2, fb3, pr2, kv_nodup R2.nd, fun d2 H3 n3 s3 e3 => ⟨d2, _, rfl, e3, fun o2 => ?_⟩⟩
    have s4' : Same H2 (upd H3 d2 (.frz o2 (.dT (E2.map Ent.kv)))) := put_same s3 n3
    have F2e : (upd H3 d2 (.frz o2 (.dT (E2.map Ent.kv)))) d2 = some (.frz o2 (.dT (E2.map Ent.kv))) := upd_same
    generalize upd H3 d2 (.frz o2 (.dT (E2.map Ent.kv))) = H4 at s4' F2e
    have R24 := R2.map fun a xs e => s4' a _ e
    have F2 : FrzP H4 d2 r (fun _ => 2800) := ⟨E2, o2, F2e, R24⟩
    have s4 : Same H H4 := s2.trans s4'
    have F1' := F1.same s4'
    refine ⟨_, rfl, _, rfl, d1, q, _, rfl, F1', fun _ => by decide, fun u1 H5 n5 s5 C5 => ?_⟩
    refine ⟨_, rfl, d2, r, _, rfl, F2.same s5, fun _ => by decide, fun u2 H6 n6 s6 C6 => ⟨(by show 2 ≤ sizeLine; decide), fun u3 H7 n7 s7 e7 => ?_⟩⟩
    have s47 := s5.trans (s6.trans s7)
    refine ⟨p, u3, q, r, rfl, rfl, hP.same (s4.trans s47), ⟨u1, u2, e7, C5.same (s6.trans s7), C6.same s7⟩, _, rfl, iteN rfl ?_⟩
    have sH7 := s4.trans s47
    refine ⟨_, rfl, _, rfl, d1, b, q, c2, 2800, 40, rfl, F1'.same s47, hB.same sH7, by decide, fun i j hi hj => ?_, 11, qr.q11, by decide, fun dp H8 n8 s8 D8 => ?_⟩
    · have := lt11 qr.q11 hi
      have := lt11 qs.f2 hj
      omega
    refine ⟨_, rfl, dp, d2, _, r, _, _, rfl, D8.rd, F2.same (s47.trans s8), fun _ => by decide, fun _ => by decide, fun da H9 n9 s9 D9 => ?_⟩
    obtain ⟨E9, e9, R9⟩ := D9
    refine ⟨da, _, rfl, e9, fun o9 => ?_⟩
    have sH9' : Same H8 (upd H9 da (.frz o9 (.dT (E9.map Ent.kv)))) := put_same s9 n9
    have F9e : (upd H9 da (.frz o9 (.dT (E9.map Ent.kv)))) da = some (.frz o9 (.dT (E9.map Ent.kv))) := upd_same
    have tu9 : ∀ a xs, H9 a = some (.tup xs) → upd H9 da (.frz o9 (.dT (E9.map Ent.kv))) a = some (.tup xs) := fun a xs e => by
      rw [upd_ne (fun y => by rw [y, e9] at e; cases e)]
      exact e
    have R10 := R9.map tu9
    generalize upd H9 da (.frz o9 (.dT (E9.map Ent.kv))) = H10 at sH9' F9e R10
    have ec : (fun j => conv q c2 j + r j) = c1 := by
      funext j
      rw [qr.eq j, Rat.add_comm]
    rw [ec] at R10
    have s410 : Same H4 H10 := s47.trans (s8.trans sH9')
    have sH10 : Same H H10 := s4.trans s410
    refine ⟨_, rfl, da, a, c1, _, _, rfl, ⟨E9, o9, F9e, R10⟩, hA.same sH10, fun _ => by decide, hz1, fun H11 s11 => ⟨_, rfl, iteF ?_⟩⟩
    have s411 := s410.trans s11
    refine ⟨_, rfl, fun z nz => ⟨d2, z, E2.map Ent.kv, rfl, rfl, .inr ⟨o2, ?_⟩, .inl upd_same, _, rfl, ?_⟩⟩
    · rw [upd_ne (fun y => by rw [← y, s411 _ _ F2e] at nz; cases nz)]
      exact s411 _ _ F2e
    have s12 : Same H11 (upd H11 z (.dT [])) := same_upd _ nz
    generalize upd H11 z (.dT []) = H12 at s12
    have s412 := s411.trans s12
    cases hE : (E2.map Ent.kv).isEmpty with
    | true => exact iteT (go H12 (s4.trans s412))
    | false =>
      refine iteF ⟨_, rfl, d2, r, _, rfl, F2.same s412, fun m1 H13 s13 dg1 => ⟨_, rfl, b, c2, _, rfl, hB.same ((s4.trans s412).trans s13), fun m2 H14 s14 dg2 => ⟨_, _, rfl, rfl, ?_⟩⟩⟩
      have lt : m1 < m2 := by
        obtain ⟨e, he⟩ : ∃ e, e ∈ E2 := by
          cases E2 with
          | nil => cases hE
          | cons e _ => exact ⟨e, List.mem_cons_self ..⟩
        have x := R24.each e he
        have rn : r e.n ≠ 0 := by rw [← x.val]; exact fv_nz x.pos x.nz
        have r1 : r m1 ≠ 0 := by
          rcases dg1.2 with y | y
          · have := dg1.1 _ rn
            have : e.n = m1 := by omega
            rw [← this]; exact rn
          · exact y
        by_cases y : m1 < m2
        · exact y
        · exact absurd (qr.low m2 dg2 m1 (by omega)) r1
      have ee : decide ((m1 : Int) < (m2 : Int)) = true := decide_eq_true (by omega)
      have g := go H14 (((s4.trans s412).trans s13).trans s14)
      rw [← ee] at g
      exact g
end
end Lw

namespace Lw
open PySem PySem.Spec PyProof.Rows L2 LwQ
/-! ### quotient and rest are the only ones -/
theorem sumF_congr {F G : Nat → Rat} : ∀ {l : List Nat}, (∀ n ∈ l, F n = G n) → sumF F l = sumF G l
  | [], _ => rfl
  | n :: r, h => by
    show F n + sumF F r = G n + sumF G r
    rw [h n (List.mem_cons_self ..), sumF_congr fun x hx => h x (List.mem_cons_of_mem _ hx)]
theorem conv_sub (q q' B : Nat → Rat) (j : Nat) : conv q B j = conv (fun n => q n - q' n) B j + conv q' B j := by
  unfold conv
  rw [← sumF_add]
  refine sumF_congr fun n _ => ?_
  unfold sh
  split
  · grind
  · rw [Rat.add_zero]
/-- quotient and rest, whoever told them -/
structure QU (c1 c2 q r : Nat → Rat) : Prop where
  eq : ∀ j, c1 j = r j + conv q c2 j
  low : ∀ m, IsDeg c2 m → ∀ j, m ≤ j → r j = 0
  q24 : ∀ j, 24 ≤ j → q j = 0
theorem QR.u {c1 c2 q r : Nat → Rat} (h : QR c1 c2 q r) : QU c1 c2 q r := ⟨h.eq, h.low, fun j hj => h.q11 j (by omega)⟩
theorem qu_uniq {c1 c2 q r q' r' : Nat → Rat} {m : Nat} (dg : IsDeg c2 m) (nz : c2 m ≠ 0) (h : QU c1 c2 q r) (k : QU c1 c2 q' r') : q = q' ∧ r = r' := by
  have e : ∀ j, conv (fun n => q n - q' n) c2 j = r' j - r j := fun j => by
    have h1 := h.eq j
    have h2 := k.eq j
    have h3 := conv_sub q q' c2 j
    grind
  have z : ∀ i n, 24 ≤ n + i → q n - q' n = 0 := by
    intro i
    induction i with
    | zero => intro n hn; rw [h.q24 n (by omega), k.q24 n (by omega)]; grind
    | succ i ih =>
      intro n hn
      by_cases hi : 24 ≤ n + i
      · exact ih n hi
      · have n24 : n < 24 := by omega
        have e1 : conv (fun n => q n - q' n) c2 (n + m) = (q n - q' n) * c2 m := by
          unfold conv
          rw [sumF_congr (G := fun i => if i = n then (q n - q' n) * c2 m else 0) (fun i hi => ?_), sumF_one (n := n) List.nodup_range (List.mem_range.mpr n24) (fun i hi => if_neg hi), if_pos rfl]
          unfold sh
          by_cases y : i = n
          · subst y
            rw [if_pos rfl, if_pos (by omega), Nat.add_sub_cancel_left]
          · rw [if_neg y]
            split
            · by_cases y2 : n < i
              · have := ih i (by omega)
                show (q i - q' i) * c2 (n + m - i) = 0
                rw [this, Rat.zero_mul]
              · have : c2 (n + m - i) = 0 := by
                  by_cases y3 : c2 (n + m - i) = 0
                  · exact y3
                  · have := dg.1 _ y3
                    omega
                rw [this, Rat.mul_zero]
            · rfl
        rw [e, h.low m dg _ (by omega), k.low m dg _ (by omega)] at e1
        grind
  have qq : q = q' := by
    funext n
    have := z 24 n (by omega)
    grind
  refine ⟨qq, ?_⟩
  funext j
  have h1 := h.eq j
  have h2 := k.eq j
  rw [qq] at h1
  grind
/-! ### the sizes -/
theorem drawn_den {c : Nat → Rat} {N : Nat} (h : Drawn c N) : ∀ m, ∃ D : Int, D ≠ 0 ∧ D.natAbs < 2 ^ (10 * m + 1) ∧ ∀ j, j < m → Wh D (c j)
  | 0 => ⟨1, by decide, by decide, fun j hj => absurd hj (Nat.not_lt_zero _)⟩
  | m + 1 => by
    obtain ⟨D, d0, db, dw⟩ := drawn_den h m
    obtain ⟨t, u, pu, _, bu, e⟩ := h.2 m
    refine ⟨D * u, Int.mul_ne_zero d0 (by omega), ?_, fun j hj => ?_⟩
    · rw [show 10 * (m + 1) + 1 = 10 * m + 1 + 10 by omega]
      exact abs_mul db bu
    · by_cases y : j < m
      · exact (dw j y).up u
      · have : j = m := by omega
        subst this
        rw [e, Int.mul_comm]
        exact (Wh.of pu).up D
theorem drawn_wh {c : Nat → Rat} {N : Nat} (h : Drawn c N) : ∃ D : Int, D ≠ 0 ∧ D.natAbs < 2 ^ (10 * N + 1) ∧ ∀ j, Wh D (c j) := by
  obtain ⟨D, d0, db, dw⟩ := drawn_den h N
  refine ⟨D, d0, db, fun j => ?_⟩
  by_cases y : j < N
  · exact dw j y
  · rw [h.1 j (by omega)]
    exact Wh.zero _
theorem drawn_bd {c : Nat → Rat} {N : Nat} (h : Drawn c N) (j : Nat) : Bd (2 ^ 40) (c j) := by
  obtain ⟨t, u, pu, bt, _, e⟩ := h.2 j
  refine bd_of pu e ?_
  have : 1 ≤ u.natAbs := by omega
  exact Nat.le_trans (Nat.le_of_lt bt) (Nat.le_mul_of_pos_right _ this)
theorem drawn_inv {c : Nat → Rat} {N : Nat} (h : Drawn c N) (j : Nat) (nz : c j ≠ 0) : ∃ t : Int, t ≠ 0 ∧ t.natAbs < 2 ^ 40 ∧ Wh t (1 / c j) ∧ Bd (2 ^ 10) (1 / c j) := by
  obtain ⟨t, u, pu, bt, bu, e⟩ := h.2 j
  have t0 : t ≠ 0 := fun z => nz (by rw [e, z]; exact fv_eq pu (by decide) (by simp) |>.trans fv_zero)
  have tr : (t : Rat) ≠ 0 := fun z => t0 (Rat.intCast_inj.mp (by rw [z]; rfl))
  have ur := cne pu
  have iv : 1 / c j = (u : Rat) / (t : Rat) := by rw [e]; unfold fv; grind
  refine ⟨t, t0, bt, ⟨u, by rw [iv]; grind⟩, ?_⟩
  by_cases p : 0 < t
  · refine bd_of (t := u) (b := t) p (by rw [iv]; rfl) ?_
    have : 1 ≤ t.natAbs := by omega
    exact Nat.le_trans (Nat.le_of_lt bu) (Nat.le_mul_of_pos_right _ this)
  · refine bd_of (t := -u) (b := -t) (by omega) (by rw [iv]; unfold fv; rw [Rat.intCast_neg, Rat.intCast_neg]; grind) ?_
    rw [Int.natAbs_neg, Int.natAbs_neg]
    have : 1 ≤ t.natAbs := by omega
    exact Nat.le_trans (Nat.le_of_lt bu) (Nat.le_mul_of_pos_right _ this)
theorem Drawn.up {c : Nat → Rat} {N M : Nat} (h : Drawn c N) (k : N ≤ M) : Drawn c M := ⟨fun j hj => h.1 j (by omega), h.2⟩
theorem qs_drawn {c1 c2 : Nat → Rat} (h1 : Drawn c1 11) (h2 : Drawn c2 11) (nz : ∃ j, c2 j ≠ 0) : QS c1 c2 := by
  obtain ⟨D, d0, db, dw⟩ := drawn_wh h1
  obtain ⟨M, m0, mb, mw⟩ := drawn_wh h2
  exact ⟨h1.1, h2.1, nz, ⟨D, M, d0, m0, abs_up db (by decide), abs_up mb (by decide), dw, mw⟩, fun j => (drawn_bd h1 j).mono (by decide), drawn_bd h2, drawn_inv h2⟩
theorem sumF_wh {F : Nat → Rat} {D : Int} : ∀ {l : List Nat}, (∀ n ∈ l, Wh D (F n)) → Wh D (sumF F l)
  | [], _ => Wh.zero _
  | n :: r, h => (h n (List.mem_cons_self ..)).add (sumF_wh fun x hx => h x (List.mem_cons_of_mem _ hx))
theorem sumF_bd {F : Nat → Rat} {R : Nat} : ∀ {l : List Nat}, (∀ n ∈ l, Bd R (F n)) → Bd (l.length * R) (sumF F l)
  | [], _ => bd_zero _
  | n :: r, h => by
    rw [List.length_cons, Nat.add_mul, Nat.one_mul, Nat.add_comm]
    exact (h n (List.mem_cons_self ..)).add (sumF_bd fun x hx => h x (List.mem_cons_of_mem _ hx))
theorem qs_prod {cs c2 cr : Nat → Rat} {a m : Nat} (hs : Drawn cs 5) (h2 : Drawn c2 11) (hr : Drawn cr 11) (nz : ∃ j, c2 j ≠ 0) (da : IsDeg cs a) (dm : IsDeg c2 m) (am : a + m ≤ 10) : QS (fun j => conv cs c2 j + cr j) c2 := by
  obtain ⟨Ds, s0, sb, sw⟩ := drawn_wh hs
  obtain ⟨M, m0, mb, mw⟩ := drawn_wh h2
  obtain ⟨Dr, r0, rb, rw'⟩ := drawn_wh hr
  refine ⟨fun j hj => ?_, h2.1, nz, ⟨Ds * M * Dr, M, Int.mul_ne_zero (Int.mul_ne_zero s0 m0) r0, m0, ?_, abs_up mb (by decide), fun j => ?_, mw⟩, fun j => ?_, drawn_bd h2, drawn_inv h2⟩
  · have : conv cs c2 j = 0 := by
      refine sumF_zero fun n _ => ?_
      unfold sh
      split
      · by_cases y : cs n = 0
        · rw [y, Rat.zero_mul]
        · have h1 := da.1 n y
          by_cases y2 : c2 (j - n) = 0
          · rw [y2, Rat.mul_zero]
          · have := dm.1 _ y2
            omega
      · rfl
    show conv cs c2 j + cr j = 0
    rw [this, hr.1 j hj, Rat.add_zero]
  · exact abs_up (abs_mul (abs_mul sb mb) rb) (by decide)
  · refine Wh.add ?_ ?_
    · refine Wh.up (sumF_wh fun n _ => ?_) Dr
      unfold sh
      split
      · exact (sw n).mul (mw _)
      · exact Wh.zero _
    · rw [Int.mul_comm]
      exact (rw' j).up _
  · refine Bd.mono (Bd.add (sumF_bd (R := 2 ^ 40 * 2 ^ 40) (l := List.range 24) fun n _ => ?_) (drawn_bd hr j)) (by rw [List.length_range]; decide)
    unfold sh
    split
    · exact (drawn_bd hs n).mul (drawn_bd h2 _)
    · exact bd_zero _
end Lw

namespace Lw
open PySem PySem.Spec PyProof.Rows L2 LwQ
theorem at_mem {ns : List Int} {i : Int} (h0 : 0 ≤ i) (h1 : i < ns.length) : ∃ c : Int, atI (ns.map V.int) i = some (.int c) ∧ c ∈ ns := by
  obtain ⟨j, rfl⟩ := Int.eq_ofNat_of_zero_le h0
  have hj : j < ns.length := by omega
  exact ⟨ns[j], atI_nat (by simp [hj]), List.getElem_mem hj⟩
/-- all is kept but lists and dicts that are written -/
def KD (H H' : Hp) : Prop := ∀ a u, H a = some u → (∀ xs, u ≠ .lst xs) → (∀ k, u ≠ .dT k) → H' a = some u
theorem KD.trans {H H1 H2 : Hp} (a : KD H H1) (b : KD H1 H2) : KD H H2 := fun x u h n1 n2 => b x u (a x u h n1 n2) n1 n2
theorem KD.of {H H' : Hp} (s : Same H H') : KD H H' := fun x u h _ _ => s x u h
theorem KD.but {cl tp : Addr} {H H' : Hp} {B : Int} (T : Tape cl H tp B) (b : But tp H H') : KD H H' := fun x u h n _ => b x u h (T.ne h n).1
theorem KD.upd {H : Hp} {d : Addr} {k : List (List Key × V)} {o : HO} (e : H d = some (.dT k)) : KD H (upd H d o) := fun x u h _ n => by
  rw [upd_ne (fun y => by rw [y, e] at h; cases h; exact n _ rfl)]
  exact h
theorem FrzP.kd {H H' : Hp} {d : Addr} {c : Nat → Rat} {z : Nat → Nat} (h : FrzP H d c z) (k : KD H H') : FrzP H' d c z := by
  obtain ⟨E, o, e, r⟩ := h
  exact ⟨E, o, k _ _ e (fun _ y => by cases y) (fun _ y => by cases y), r.map fun _ _ q => k _ _ q (fun _ y => by cases y) (fun _ y => by cases y)⟩
/-- a dict frozen -/
theorem frz_up {H : Hp} {d : Addr} {E : List Ent} {c : Nat → Rat} {z : Nat → Nat} {o : Obj} (e : H d = some (.dT (E.map Ent.kv))) (R : RepE H E c z) : FrzP (upd H d (.frz o (.dT (E.map Ent.kv)))) d c z ∧ KD H (upd H d (.frz o (.dT (E.map Ent.kv)))) :=
  ⟨⟨E, o, upd_same, R.map fun _ _ q => KD.upd e _ _ q (fun _ y => by cases y) (fun _ y => by cases y)⟩, KD.upd e⟩
/-- {(0,): (t, b)} -/
def one0 (x : Rat) : Nat → Rat := fun j => if j = 0 then x else 0
theorem rep_one {H : Hp} {r : Addr} {t b : Int} (at' : At2 H r t b) (pos : 0 < b) (nz : t ≠ 0) (st : t.natAbs < 2 ^ 40) (sb : b.natAbs < 2 ^ 40) : RepE H [⟨0, r, t, b⟩] (one0 (fv t b)) (fun _ => 40) := by
  refine ⟨by simp, fun e he => ?_, fun j hj => ?_⟩
  · rw [List.mem_singleton.mp he]
    exact ⟨by show 0 < 24; decide, at', pos, nz, rfl, st, sb⟩
  · refine ⟨⟨0, r, t, b⟩, List.mem_singleton.mpr rfl, ?_⟩
    by_cases y : j = 0
    · exact y.symm
    · exact absurd (if_neg y) hj
theorem drawn_one {t b : Int} (pos : 0 < b) (st : t.natAbs < 2 ^ 40) (sb : b.natAbs < 2 ^ 10) : Drawn (one0 (fv t b)) 1 := by
  refine ⟨fun j hj => if_neg (by omega), fun j => ?_⟩
  by_cases y : j = 0
  · exact ⟨t, b, pos, st, sb, if_pos y⟩
  · exact ⟨0, 1, by decide, by decide, by decide, by rw [fv_zero]; exact if_neg y⟩
/-- what of c is below m, of the first i keys -/
def prt (E : List Ent) (c : Nat → Rat) (m i : Nat) : Nat → Rat := fun j => if j ∈ (E.take i).map Ent.n ∧ j < m then c j else 0
theorem prt_step {E : List Ent} {c : Nat → Rat} {m i : Nat} {e : Ent} (nd : (E.map Ent.n).Nodup) (he : E[i]? = some e) : prt E c m (i + 1) = if e.n < m then bump (prt E c m i) e.n (c e.n) else prt E c m i := by
  by_cases h : e.n < m
  · rw [if_pos h]
    funext j
    unfold bump prt
    by_cases y : j = e.n
    · subst y
      rw [if_pos ⟨(take_mem he _).mpr (.inr rfl), h⟩, if_pos rfl, if_neg fun z => take_new nd he z.1, Rat.zero_add]
    · rw [if_neg y, Rat.add_zero]
      by_cases q : j ∈ (E.take i).map Ent.n ∧ j < m
      · rw [if_pos q, if_pos ⟨(take_mem he _).mpr (.inl q.1), q.2⟩]
      · rw [if_neg q, if_neg fun z => q ⟨((take_mem he _).mp z.1).resolve_right y, z.2⟩]
  · rw [if_neg h]
    funext j
    unfold prt
    by_cases q : j ∈ (E.take i).map Ent.n ∧ j < m
    · rw [if_pos q, if_pos ⟨(take_mem he _).mpr (.inl q.1), q.2⟩]
    · rw [if_neg q, if_neg fun z => q ⟨((take_mem he _).mp z.1).resolve_right (fun y => h (y ▸ z.2)), z.2⟩]
theorem prt_drawn {E : List Ent} {c : Nat → Rat} {m i N : Nat} (h : Drawn c N) : Drawn (prt E c m i) N := by
  refine ⟨fun j hj => ?_, fun j => ?_⟩
  · unfold prt
    split
    · exact h.1 j hj
    · rfl
  · unfold prt
    split
    · exact h.2 j
    · exact ⟨0, 1, by decide, by decide, by decide, fv_zero.symm⟩
theorem prt_low {E : List Ent} {c : Nat → Rat} {m i j : Nat} (h : m ≤ j) : prt E c m i j = 0 := if_neg fun z => by have := z.2; omega
end Lw

namespace Lw
open PySem PySem.Spec PyProof.Rows L2 LwQ
theorem deg_ex {c : Nat → Rat} : ∀ N : Nat, (∀ j, N ≤ j → c j = 0) → ∃ m, IsDeg c m
  | 0, h => ⟨0, fun j hj => absurd (h j (Nat.zero_le _)) hj, .inl rfl⟩
  | N + 1, h => by
    by_cases y : c N = 0
    · refine deg_ex N fun j hj => ?_
      by_cases z : j = N
      · rw [z]; exact y
      · exact h j (by omega)
    · refine ⟨N, fun j hj => ?_, .inr y⟩
      by_cases z : j ≤ N
      · exact z
      · exact absurd (h j (by omega)) hj
theorem deg_nz {c : Nat → Rat} {m : Nat} (h : IsDeg c m) (k : ∃ j, c j ≠ 0) : c m ≠ 0 := by
  obtain ⟨j, hj⟩ := k
  rcases h.2 with z | z
  · have := h.1 j hj
    have : j = m := by omega
    rw [← this]; exact hj
  · exact z
def tTail : TS := (tSeq
  (tAsg (tCall spQuot [] E0 (tCons (tCall spLSum [] E0 (tCons (tC (V.int 1)) (tCons (tVar 3) tNil))) (tCons (tCall spLSum [] E0 (tCons (tC (V.int 1)) (tCons (tVar 2) tNil))) tNil))) (gName 8))
  (tSeq (tIfS (tNot (tB (tCall spRight [] E0 (tCons (tVar 3) (tCons (tVar 2) (tCons (tVar 8) tNil)))))) (tRet (tC (V.bl false))) tNext)
  (tSeq (tIfS (tAnd (tTest (tOp rEq (tVar 4) (tC (V.int 1)))) (tTest (tOp (rCmpC false) (tVar 8) (tTupF (tCons (tCall spLSum [] E0 (tCons (tC (V.int 1)) (tCons (tVar 5) tNil))) (tCons (tCall spLSum [] E0 (tCons (tC (V.int 1)) (tCons (tVar 6) tNil))) tNil)))))) (tRet (tC (V.bl false))) tNext)
  (tSeq (tIfS (tOr (tNot (tB (tCall spRefused [] E0 (tCons (tCall spLSum [] E0 (tCons (tC (V.int 1)) (tCons (tVar 3) tNil))) tNil)))) (tNot (tB (tCall spRefused [] E0 (tCons (tTupF (tCons (tC (V.int 1)) (tCons (tTupF tNil) tNil))) tNil))))) (tRet (tC (V.bl false))) tNext)
  (tRet (tOp (rCmpC true) (tCall spQuot [] E0 (tCons (tCall spLSum [] E0 (tCons (tC (V.int 1)) (tCons (tVar 3) tNil))) (tCons (tCall spLSum [] E0 (tCons (tC (V.int 1)) (tCons (tVar 2) tNil))) tNil))) (tVar 8)))))))
theorem tail_read {H : Hp} {D : Ends} {a tp d2 d1 ds dr : Addr} {way : Int} {v7 v8 : Option V} {c1 c2 cs cr : Nat → Rat} {s1 : Nat → Nat} (go : ∀ H', D.rt (.bl true) H') (F1 : FrzP H d1 c1 s1) (z1 : ∀ n, s1 n ≤ 8000) (F2 : FrzP H d2 c2 (fun _ => 40)) (qs : QS c1 c2)
    (w1 : way = 1 → FrzP H ds cs (fun _ => 40) ∧ FrzP H dr cr (fun _ => 40) ∧ QU c1 c2 cs cr) : tTail D [some (.ref a), some (.ref tp), some (.ref d2), some (.ref d1), some (.int way), some (.ref ds), some (.ref dr), v7, v8] H := by
  refine ⟨_, rfl, d1, c1, s1, rfl, F1, z1, fun p1 H1 n1 e1 C1 => ⟨_, rfl, d2, c2, _, rfl, F2.same e1, fun _ => by decide, fun p2 H2 n2 e2 C2 => ?_⟩⟩
  refine ⟨p1, p2, c1, c2, rfl, C1.same e2, C2, qs, fun p q r H3 n3 e3 qr PC => ?_⟩
  have e13 := e1.trans (e2.trans e3)
  refine ⟨_, rfl, _, rfl, _, rfl, d1, d2, p, c1, c2, q, r, s1, rfl, F1.same e13, fun n => Nat.le_trans (z1 n) (by decide), F2.same e13, qs, qr, PC, fun H4 e4 => ⟨_, rfl, iteF ?_⟩⟩
  have e14 := e13.trans e4
  obtain ⟨j0, hj0⟩ := qs.nz
  have PC4 := PC.same e4
  obtain ⟨m, dm⟩ := deg_ex 11 qs.f2
  have nzm := deg_nz dm qs.nz
  have rest : ∀ H5, Same H4 H5 → (tSeq (tIfS (tOr (tNot (tB (tCall spRefused [] E0 (tCons (tCall spLSum [] E0 (tCons (tC (V.int 1)) (tCons (tVar 3) tNil))) tNil)))) (tNot (tB (tCall spRefused [] E0 (tCons (tTupF (tCons (tC (V.int 1)) (tCons (tTupF tNil) tNil))) tNil))))) (tRet (tC (V.bl false))) tNext)
      (tRet (tOp (rCmpC true) (tCall spQuot [] E0 (tCons (tCall spLSum [] E0 (tCons (tC (V.int 1)) (tCons (tVar 3) tNil))) (tCons (tCall spLSum [] E0 (tCons (tC (V.int 1)) (tCons (tVar 2) tNil))) tNil))) (tVar 8)))) D [some (.ref a), some (.ref tp), some (.ref d2), some (.ref d1), some (.int way), some (.ref ds), some (.ref dr), v7, some (.ref p)] H5 := by
    intro H5 e5
    have e15 := e14.trans e5
    refine ⟨_, rfl, d1, c1, s1, rfl, F1.same e15, z1, fun p3 H6 n6 e6 C6 => ⟨p3, rfl, fun H7 e7 => ⟨_, rfl, iteF ?_⟩⟩⟩
    refine ⟨(by show 0 ≤ sizeLine; decide), fun z H8 n8 e8 k8 => ⟨(by show 2 ≤ sizeLine; decide), fun y H9 n9 e9 k9 => ⟨y, rfl, fun H10 e10 => ⟨_, rfl, iteF ?_⟩⟩⟩⟩
    have e5' := e6.trans (e7.trans (e8.trans (e9.trans e10)))
    have e110 := e15.trans e5'
    refine ⟨_, rfl, d1, c1, s1, rfl, F1.same e110, z1, fun p5 H11 n11 e11 C11 => ⟨_, rfl, d2, c2, _, rfl, (F2.same e110).same e11, fun _ => by decide, fun p6 H12 n12 e12 C12 => ?_⟩⟩
    refine ⟨p5, p6, c1, c2, rfl, C11.same e12, C12, qs, fun p' q' r' H13 n13 e13' qr' PC' => ?_⟩
    obtain ⟨rfl, rfl⟩ := qu_uniq dm nzm qr.u qr'.u
    exact ⟨_, rfl, p', p, _, _, rfl, rfl, PC', PC4.same (e5.trans (e5'.trans (e11.trans (e12.trans e13')))), go _⟩
  refine ⟨_, rfl, rfl, _, rfl, ?_⟩
  refine ite2 (fun hw => ?_) (fun hw => iteF (rest _ (Same.refl _)))
  have hw1 : way = 1 := by
    have := of_decide_eq_true hw
    injection this
  obtain ⟨Fs, Fr, qu⟩ := w1 hw1
  obtain ⟨rfl, rfl⟩ := qu_uniq dm nzm qr.u qu
  refine ⟨_, rfl, _, rfl, ds, _, _, rfl, Fs.same e14, fun _ => by decide, fun u1 H5 n5 e5 C5 => ⟨_, rfl, dr, _, _, rfl, (Fr.same e14).same e5, fun _ => by decide, fun u2 H6 n6 e6 C6 => ⟨(by show 2 ≤ sizeLine; decide), fun u3 H7 n7 e7 k7 => ?_⟩⟩⟩
  exact ⟨p, u3, _, _, rfl, rfl, PC4.same (e5.trans (e6.trans e7)), ⟨u1, u2, k7, C5.same (e6.trans e7), C6.same e7⟩, _, rfl, iteF (rest _ (e5.trans (e6.trans e7)))⟩
end Lw

namespace Lw
open PySem PySem.Spec PyProof.Rows L2 LwQ
def tLoop (K : PySem.W.Frag) : TS := (tIfS (tTest (tOp (rI0 fun i j => V.bl (decide (j < i))) (tCall spDeg [] E0 (tCons (tVar 2) tNil)) (tC (V.int 0))))
  (tFor (LwD.iKeys (tVar 3)) (gName 7) (tIfS (tTest (tOp (rI0 fun i j => V.bl (decide (i < j))) (tOp (rIxT K) (tVar 7) (tC (V.int 0))) (tCall spDeg [] E0 (tCons (tVar 2) tNil)))) (sDPut (tVar 6) (tVar 7) (tDGet (tVar 3) (tVar 7))) tNext)) tNext)
def tSome : TS := (tIfS (tAnd (tTest (tOp rEq (tVar 4) (tC (V.int 1)))) (tTest (tOp (rI0 fun i j => V.bl (decide (j < i))) (tOp (rI0 fun i j => V.int (i + j)) (tCall spDeg [] E0 (tCons (tVar 5) tNil)) (tCall spDeg [] E0 (tCons (tVar 2) tNil))) (tC (V.int 10)))))
  (tAsg (LwD.tFrz (LwD.tDisp1 (tTupF (tCons (tC (V.int 0)) tNil)) (tTupF (tCons (tC (V.int 5)) (tCons (tC (V.int 7)) tNil))))) (gName 5)) tNext)
def tOne : TS := (tIfS (tTest (tOp rEq (tVar 4) (tC (V.int 1)))) (tAsg (LwD.tFrz (tCall spLAdd [] E0 (tCons (tCall spProd [] E0 (tCons (tVar 5) (tCons (tVar 2) tNil))) (tCons (LwD.tFrz (tVar 6)) tNil)))) (gName 3)) tNext)
/-- {(0,): (t, b)}, frozen -/
theorem disp_frz {H : Hp} {p v : Addr} {t b : Int} (ep : H p = some (.dT [])) (ev : H v = some (.tup [.int t, .int b])) (pb : 0 < b) (t0 : t ≠ 0) (st : t.natAbs < 2 ^ 40) (sb : b.natAbs < 2 ^ 40) :
    (∀ o, FrzP (upd (upd H p (.dT [([Sum.inl 0], V.ref v)])) p (.frz o (.dT [([Sum.inl 0], V.ref v)]))) p (one0 (fv t b)) (fun _ => 40)) ∧ (∀ o, KD H (upd (upd H p (.dT [([Sum.inl 0], V.ref v)])) p (.frz o (.dT [([Sum.inl 0], V.ref v)])))) ∧ True ∧
      ∀ o a u, H a = some u → a ≠ p → upd (upd H p (.dT [([Sum.inl 0], V.ref v)])) p (.frz o (.dT [([Sum.inl 0], V.ref v)])) a = some u := by
  have vp : v ≠ p := fun y => by rw [y, ep] at ev; cases ev
  have e5 : (upd H p (.dT [([Sum.inl 0], V.ref v)])) p = some (.dT ([(⟨0, v, t, b⟩ : Ent)].map Ent.kv)) := upd_same
  have R5 : RepE (upd H p (.dT [([Sum.inl 0], V.ref v)])) [⟨0, v, t, b⟩] (one0 (fv t b)) (fun _ => 40) := rep_one (by unfold At2; rw [upd_ne vp]; exact ev) pb t0 st sb
  refine ⟨fun o => (frz_up e5 R5).1, fun o => (KD.upd ep).trans (frz_up e5 R5).2, trivial, fun o a u h n => ?_⟩
  rw [upd_ne n, upd_ne n]
  exact h
section
variable {K : PySem.W.Frag} {D : Ends} {a tp d2 d1 ds dr : Addr} {way : Int} {c1 c2 cs cr : Nat → Rat}
abbrev sg (a tp d2 d1 : Addr) (way : Int) (ds dr : Addr) (v7 v8 : Option V) : L2.St := [some (.ref a), some (.ref tp), some (.ref d2), some (.ref d1), some (.int way), some (.ref ds), some (.ref dr), v7, v8]
theorem one_read {H : Hp} {v7 v8 : Option V} (go : ∀ H', D.rt (.bl true) H') (F1 : FrzP H d1 c1 (fun _ => 40)) (r1 : Drawn c1 9) (F2 : FrzP H d2 c2 (fun _ => 40)) (r2 : Drawn c2 11) (nz : ∃ j, c2 j ≠ 0) (Fs : FrzP H ds cs (fun _ => 40)) (rs : Drawn cs 5) (Dr : DictP H dr cr (fun _ => 40)) (rr : Drawn cr 11)
    (lw : ∀ m, IsDeg c2 m → ∀ j, m ≤ j → cr j = 0) (w1 : way = 1 → ∃ x m, IsDeg cs x ∧ IsDeg c2 m ∧ x + m ≤ 10) : tSeq tOne tTail D (sg a tp d2 d1 way ds dr v7 v8) H := by
  refine ⟨_, rfl, rfl, _, rfl, ?_⟩
  refine ite2 (fun hw => ?_) (fun hw => tail_read (cs := cs) (cr := cr) go F1 (fun _ => by decide) F2 (qs_drawn (r1.up (by decide)) r2 nz) fun y => absurd (decide_eq_true (by rw [y])) hw)
  have hw1 : way = 1 := by
    have := of_decide_eq_true hw
    injection this
  obtain ⟨x, m, dx, dm, xm⟩ := w1 hw1
  refine ⟨_, rfl, _, rfl, ds, d2, cs, c2, 40, 40, rfl, Fs, F2, by decide, fun i j hi hj => ?_, 5, rs.1, by decide, fun dp H1 n1 s1 D1 => ?_⟩
  · have := lt11 (rs.up (by decide : 5 ≤ 11)).1 hi
    have := lt11 r2.1 hj
    omega
  obtain ⟨Er, er, Rr⟩ := Dr.same s1
  refine ⟨_, rfl, dr, _, rfl, er, fun o => ?_⟩
  have fz := frz_up (o := o) er Rr
  have Dp : DictP (upd H1 dr (.frz o (.dT (Er.map Ent.kv)))) dp (conv cs c2) (fun _ => 5 * (40 + 40 + 1)) := by
    obtain ⟨E, e, R⟩ := D1
    have ne : dp ≠ dr := fun y => by
      obtain ⟨Er', er', _⟩ := Dr
      rw [y, er'] at n1
      cases n1
    exact ⟨E, by rw [upd_ne ne]; exact e, R.map fun _ _ q => fz.2 _ _ q (fun _ y => by cases y) (fun _ y => by cases y)⟩
  have kd : KD H (upd H1 dr (.frz o (.dT (Er.map Ent.kv)))) := (KD.of s1).trans fz.2
  obtain ⟨Fr, _⟩ := fz
  generalize upd H1 dr (.frz o (.dT (Er.map Ent.kv))) = H2 at Dp kd Fr
  refine ⟨dp, dr, _, cr, _, _, rfl, Dp.rd, Fr, fun _ => by decide, fun _ => by decide, fun da H3 n3 s3 D3 => ?_⟩
  obtain ⟨E3, e3, R3⟩ := D3
  refine ⟨da, _, rfl, e3, fun o3 => ?_⟩
  have fz3 := frz_up (o := o3) e3 R3
  have k3 := (KD.of s3).trans fz3.2
  have kA := kd.trans k3
  refine tail_read (cs := cs) (cr := cr) go fz3.1 (fun _ => by decide) (F2.kd kA) (qs_prod rs r2 rr nz dx dm xm) fun _ => ⟨Fs.kd kA, Fr.kd k3, fun j => ?_, lw, fun j hj => rs.1 j (by omega)⟩
  rw [Rat.add_comm]
theorem some_read {H : Hp} {v7 v8 : Option V} (go : ∀ H', D.rt (.bl true) H') (F1 : FrzP H d1 c1 (fun _ => 40)) (r1 : Drawn c1 9) (F2 : FrzP H d2 c2 (fun _ => 40)) (r2 : Drawn c2 11) (nz : ∃ j, c2 j ≠ 0) (Fs : FrzP H ds cs (fun _ => 40)) (rs : Drawn cs 5) (Dr : DictP H dr cr (fun _ => 40)) (rr : Drawn cr 11)
    (lw : ∀ m, IsDeg c2 m → ∀ j, m ≤ j → cr j = 0) : tSeq tSome (tSeq tOne tTail) D (sg a tp d2 d1 way ds dr v7 v8) H := by
  refine ⟨_, rfl, rfl, _, rfl, ?_⟩
  refine ite2 (fun hw => ?_) (fun hw => iteF (one_read go F1 r1 F2 r2 nz Fs rs Dr rr lw fun y => absurd (decide_eq_true (by rw [y])) hw))
  refine ⟨_, rfl, ds, cs, _, rfl, Fs, fun x H1 s1 dx => ⟨_, rfl, d2, c2, _, rfl, F2.same s1, fun m H2 s2 dm => ⟨_, _, rfl, rfl, _, _, rfl, rfl, _, rfl, ?_⟩⟩⟩
  have s12 := s1.trans s2
  refine ite2 (fun hb => ?_) (fun hb => one_read go (F1.same s12) r1 (F2.same s12) r2 nz (Fs.same s12) rs (Dr.same s12) rr lw fun _ => ⟨x, m, dx, dm, ?_⟩)
  · refine fun p np => ⟨(by show 1 ≤ sizeLine; decide), fun k H3 n3 s3 e3 => ⟨(by show 2 ≤ sizeLine; decide), fun v H4 n4 s4 e4 => ⟨s4 _ _ (s3 _ _ upd_same), k, [Sum.inl 0], rfl, s4 _ _ e3, ?_⟩⟩⟩
    have sp : Same H2 (upd H2 p (.dT [])) := same_upd _ np
    have ep4 : H4 p = some (.dT []) := s4 _ _ (s3 _ _ upd_same)
    have s24 : Same H2 H4 := sp.trans (s3.trans s4)
    obtain ⟨F6, k6, kd6, ne6⟩ := disp_frz (H := H4) (p := p) (v := v) (t := 5) (b := 7) ep4 e4 (by decide) (by decide) (by decide) (by decide)
    refine ⟨p, _, rfl, upd_same, fun o => ?_⟩
    have kA : KD H _ := ((KD.of s12).trans (KD.of s24)).trans (k6 o)
    refine one_read go (F1.kd kA) r1 (F2.kd kA) r2 nz (F6 o) ((drawn_one (by decide) (by decide) (by decide)).up (by decide)) ?_ rr lw fun _ => ⟨0, m, ⟨fun j hj => ?_, .inl rfl⟩, dm, ?_⟩
    · obtain ⟨Er, er, Rr⟩ := Dr.same (s12.trans s24)
      refine ⟨Er, ne6 o _ _ er (fun y => ?_), Rr.map fun _ _ q => k6 o _ _ q (fun _ y => by cases y) (fun _ y => by cases y)⟩
      obtain ⟨Er', er', _⟩ := Dr.same s12
      rw [← y, er'] at np
      cases np
    · by_cases y : j = 0
      · omega
      · exact absurd (if_neg y) hj
    · have := lt11 r2.1 (deg_nz dm nz)
      omega
  · have : ¬ ((10 : Int) < (x : Int) + (m : Int)) := fun y => hb (decide_eq_true y)
    omega
end
end Lw

namespace Lw
open PySem PySem.Spec PyProof.Rows L2 LwQ
section
variable {K : PySem.W.Frag} {D : Ends} {a tp d2 d1 ds dr : Addr} {way : Int} {c1 c2 cs : Nat → Rat}
theorem loop_read {H : Hp} {v7 v8 : Option V} (go : ∀ H', D.rt (.bl true) H') (F1 : FrzP H d1 c1 (fun _ => 40)) (r1 : Drawn c1 9) (F2 : FrzP H d2 c2 (fun _ => 40)) (r2 : Drawn c2 11) (nz : ∃ j, c2 j ≠ 0) (Fs : FrzP H ds cs (fun _ => 40)) (rs : Drawn cs 5) (er : H dr = some (.dT [])) :
    tSeq (tLoop K) (tSeq tSome (tSeq tOne tTail)) D (sg a tp d2 d1 way ds dr v7 v8) H := by
  refine ⟨_, rfl, d2, c2, _, rfl, F2, fun m H1 s1 dm => ⟨_, _, rfl, rfl, _, rfl, ?_⟩⟩
  have er1 := s1 _ _ er
  refine ite2 (fun hm => ?_) (fun hm => ?_)
  · obtain ⟨E1, o1, hd1, R1⟩ := F1.same s1
    refine ⟨_, rfl, d1, o1, _, rfl, hd1, fun p hp => ?_, fun ks hk => ?_⟩
    · obtain ⟨e, he, rfl⟩ := List.mem_map.mp hp
      exact ⟨_, rfl⟩
    have lk : ks.length = E1.length := by rw [hk.1, List.length_map]
    have kb : ∀ {H'}, But dr H1 H' → KD H1 H' := fun {H'} b x u h _ n => b _ _ h (fun y => by rw [y, er1] at h; cases h; exact n _ rfl)
    refine LwD.for_keys (xs := ks) (fun i σ H' => (∃ v7, σ = sg a tp d2 d1 way ds dr v7 v8) ∧ But dr H1 H' ∧ DictP H' dr (prt E1 c1 m i) (fun _ => 40))
      ⟨⟨_, rfl⟩, But.refl _ _, [], er1, ?_⟩ (fun i σ H' h => kb h.2.1 _ _ hd1 (fun _ y => by cases y) (fun _ y => by cases y)) ?_ ?_
    · have : prt E1 c1 m 0 = fun _ => 0 := by funext j; unfold prt; simp
      rw [this]
      exact rep_nil _
    · rintro i x σ H2 hx ⟨⟨u7, rfl⟩, b2, Dd⟩
      obtain ⟨e, kx, he, rfl, hkx⟩ := keyed_at hk hx
      have eE := List.mem_of_getElem? he
      have k2 := kb b2
      have hkx2 : H2 kx = some (.tup [.int e.n]) := k2 _ _ hkx (fun _ y => by cases y) (fun _ y => by cases y)
      have F22 := (F2.same s1).kd k2
      refine ⟨_, rfl, kx, _, _, _, rfl, rfl, SqT.of hkx2, rfl, _, rfl, d2, c2, _, rfl, F22, fun m' H3 s3 dm' => ⟨_, _, rfl, rfl, _, rfl, ?_⟩⟩
      obtain rfl := dm.uniq dm'
      have st := prt_step (c := c1) (m := m) R1.nd he
      have b3 : But dr H1 H3 := b2.trans (But.of s3)
      have D3 := Dd.same s3
      refine ite2 (fun hl => ?_) (fun hl => ?_)
      · have hl' : e.n < m := by
          have := of_decide_eq_true hl
          omega
        rw [if_pos hl'] at st
        have k3 := kb b3
        have R3 := R1.map fun a xs q => k3 a _ q (fun _ y => by cases y) (fun _ y => by cases y)
        have x3 := R3.each e eE
        obtain ⟨Er, er3, Rr⟩ := D3
        have kz : (Er.map Ent.kv).length < sizeLine := by rw [List.length_map]; exact Nat.lt_of_le_of_lt Rr.few (by decide)
        have hkx3 : H3 kx = some (.tup ((LwD.ik [(e.n : Int)]).map kV)) := by rw [LwD.ik_map]; exact s3 _ _ hkx2
        have ne : ∀ e' ∈ Er, e'.n ≠ e.n := fun e' he' z => by
          have y := Rr.each e' he'
          have yn : prt E1 c1 m i e'.n ≠ 0 := by rw [← y.val]; exact fv_nz y.pos y.nz
          rw [z] at yn
          exact yn (if_neg fun q => take_new R1.nd he q.1)
        have nin : e.n ∉ Er.map Ent.n := fun y => by
          obtain ⟨e', he', ee⟩ := List.mem_map.mp y
          exact ne e' he' ee
        have g1 := frz_get (k3 _ _ hd1 (fun _ y => by cases y) (fun _ y => by cases y)) R3 eE (s3 _ _ hkx2)
        refine ⟨_, rfl, _, rfl, d1, _, rfl, g1, _, rfl, _, rfl, dr, _, rfl, DPut.t (k := LwD.ik [(e.n : Int)]) er3 hkx3 kz, ⟨_, rfl⟩, fun y u h nn => ?_, Er ++ [⟨e.n, e.c, e.t, e.b⟩], ?_, ?_⟩
        · rw [upd_ne nn]
          exact b3 _ _ h nn
        · rw [upd_same, put_out (key_ne nin), List.map_append]
          rfl
        · have tu : ∀ y ys, H3 y = some (.tup ys) → upd H3 dr (.dT (putK (Er.map Ent.kv) (LwD.ik [(e.n : Int)]) (V.ref e.c))) y = some (.tup ys) := fun y ys q => by
            rw [upd_ne (fun z => by rw [z, er3] at q; cases q)]
            exact q
          have rn := rep_new (H' := upd H3 dr (.dT (putK (Er.map Ent.kv) (LwD.ik [(e.n : Int)]) (V.ref e.c)))) Rr (n := e.n) (r := e.c) (t := e.t) (b := e.b) x3.lt ne tu (tu _ _ x3.at') x3.pos x3.nz x3.st x3.sb
          rw [x3.val, ← st] at rn
          exact rn
      · have hl' : ¬ e.n < m := fun y => hl (decide_eq_true (by omega))
        rw [if_neg hl'] at st
        exact ⟨⟨_, rfl⟩, b3, by rw [st]; exact D3⟩
    · rintro σ H2 ⟨⟨u7, rfl⟩, b2, Dd⟩
      have k2 := (KD.of s1).trans (kb b2)
      exact some_read go (F1.kd k2) r1 (F2.kd k2) r2 nz (Fs.kd k2) rs Dd ((prt_drawn r1).up (by decide)) fun m' hm' j hj => prt_low (by rw [dm.uniq hm']; exact hj)
  · have m0 : m = 0 := by
      have : ¬ ((0 : Int) < (m : Int)) := fun y => hm (decide_eq_true y)
      omega
    exact some_read (cr := fun _ => 0) go (F1.same s1) r1 (F2.same s1) r2 nz (Fs.same s1) rs ⟨[], er1, rep_nil _⟩ (drawn_nil.up (by decide)) fun _ _ _ _ => rfl
end
end Lw

namespace Lw
open PySem PySem.Spec PyProof.Rows L2 LwQ
def tRest (K : PySem.W.Frag) : TS := (tSeq (tAsg (LwD.tFrz (tCall spPoly [] E0 (tCons (tVar 1) (tCons (tC (V.int 8)) tNil)))) (gName 3))
  (tSeq (tAsg (tCall spDraw [] E0 (tCons (tVar 1) (tCons (tC (V.int 2)) tNil))) (gName 4))
  (tSeq (tAsg (LwD.tFrz (tCall spPoly [] E0 (tCons (tVar 1) (tCons (tC (V.int 4)) tNil)))) (gName 5))
  (tSeq (tAsg tDNewT (gName 6)) (tSeq (tLoop K) (tSeq tSome (tSeq tOne tTail)))))))
def tHead (K : PySem.W.Frag) : TS := (tSeq
  (tAsg (LwD.tFrz (tCall spPoly [] E0 (tCons (tVar 1) (tCons (tOp (rIxL K) (tLstF (tCons (tC (V.int 6)) (tCons (tC (V.int 6)) (tCons (tC (V.int 6)) (tCons (tC (V.int 10)) tNil))))) (tCall spDraw [] E0 (tCons (tVar 1) (tCons (tC (V.int 4)) tNil)))) tNil)))) (gName 2))
  (tSeq (tIfS (tTest (tOp LwD.rEqE (tVar 2) tDNewT)) (tAsg (LwD.tFrz (LwD.tDisp1 (tTupF (tCons (tC (V.int 0)) tNil)) (tTupF (tCons (tC (V.int 2)) (tCons (tC (V.int 3)) tNil))))) (gName 2)) tNext) (tRest K)))
section
variable {K : PySem.W.Frag} {D : Ends} {a tp cl d2 : Addr} {c2 : Nat → Rat}
theorem Tape.frz {cl tp d : Addr} {H : Hp} {B : Int} {k : List (List Key × V)} {o : HO} (T : Tape cl H tp B) (e : H d = some (.dT k)) : Tape cl (L2.upd H d o) tp B :=
  let n := T.ne e (fun _ y => by cases y)
  T.upd o n.1 n.2 (Int.le_refl _)
theorem rest_read {H : Hp} {B : Int} {v3 v4 v5 v6 v7 v8 : Option V} (go : ∀ H', D.rt (.bl true) H') (T : Tape cl H tp B) (hB : B ≤ 1000) (F2 : FrzP H d2 c2 (fun _ => 40)) (r2 : Drawn c2 11) (nz : ∃ j, c2 j ≠ 0) : tRest K D [some (.ref a), some (.ref tp), some (.ref d2), v3, v4, v5, v6, v7, v8] H := by
  refine ⟨_, rfl, tp, 8, B, rfl, by decide, cl, T, by omega, fun d1 c1 H1 n1 b1 T1 D1 r1 => ?_⟩
  obtain ⟨E1, e1, R1⟩ := D1
  refine ⟨d1, _, rfl, e1, fun o1 => ?_⟩
  have f1 := frz_up (o := o1) e1 R1
  have T2 := T1.frz (o := .frz o1 (.dT (E1.map Ent.kv))) e1
  have k2 : KD H _ := (KD.but T b1).trans f1.2
  have F1 := f1.1
  have F22 := F2.kd k2
  generalize upd H1 d1 (.frz o1 (.dT (E1.map Ent.kv))) = H2 at T2 F1 F22
  refine ⟨_, rfl, tp, 2, _, rfl, cl, T2, by omega, by decide, by decide, fun way H3 w0 w1 T3 b3 => ?_⟩
  have k3 := KD.but T2 b3
  refine ⟨_, rfl, tp, 4, _, rfl, by decide, cl, T3, by omega, fun ds cs H4 n4 b4 T4 D4 rs => ?_⟩
  obtain ⟨Es, es, Rs⟩ := D4
  refine ⟨ds, _, rfl, es, fun os => ?_⟩
  have fs := frz_up (o := os) es Rs
  have k4 : KD H2 _ := k3.trans ((KD.but T3 b4).trans fs.2)
  have Fs := fs.1
  have F1' := F1.kd k4
  have F2' := F22.kd k4
  generalize upd H4 ds (.frz os (.dT (Es.map Ent.kv))) = H5 at Fs F1' F2'
  intro dr ndr
  have s6 : Same H5 (upd H5 dr (.dT [])) := same_upd _ ndr
  exact loop_read go (F1'.same s6) r1 (F2'.same s6) r2 nz (Fs.same s6) rs upd_same
theorem head_read {H : Hp} {v2 v3 v4 v5 v6 v7 v8 : Option V} (go : ∀ H', D.rt (.bl true) H') (T : Tape cl H tp 0) : tHead K D [some (.ref a), some (.ref tp), v2, v3, v4, v5, v6, v7, v8] H := by
  refine ⟨_, rfl, (by show 4 ≤ sizeLine; decide), fun z H1 n1 s1 e1 => ⟨_, rfl, tp, 4, 0, rfl, cl, T.mono s1 (Int.le_refl _), by decide, by decide, by decide, fun r H2 r0 r1 T2 b2 => ?_⟩⟩
  obtain ⟨w', hw, hwm⟩ := at_mem (ns := [6, 6, 6, 10]) r0 r1
  obtain ⟨most, hmost, m10⟩ : ∃ most : Nat, w' = (most : Int) ∧ most ≤ 10 := by
    simp only [List.mem_cons, List.not_mem_nil, or_false] at hwm
    exact ⟨w'.toNat, by omega, by omega⟩
  subst hmost
  refine ⟨z, _, r, _, rfl, rfl, SqL.of (b2 _ _ e1 (T.off n1).1), hw, tp, most, _, rfl, m10, cl, T2, by omega, fun d2 c2 H3 n3 b3 T3 D3 r2 => ?_⟩
  obtain ⟨E2, e2, R2⟩ := D3
  refine ⟨d2, _, rfl, e2, fun o2 => ?_⟩
  have f2 := frz_up (o := o2) e2 R2
  have T4 := T3.frz (o := .frz o2 (.dT (E2.map Ent.kv))) e2
  have e4 : (upd H3 d2 (.frz o2 (.dT (E2.map Ent.kv)))) d2 = some (.frz o2 (.dT (E2.map Ent.kv))) := upd_same
  have F4 := f2.1
  have R4 := R2.map fun a xs q => f2.2 a _ q (fun _ y => by cases y) (fun _ y => by cases y)
  generalize upd H3 d2 (.frz o2 (.dT (E2.map Ent.kv))) = H4 at T4 e4 F4 R4
  refine ⟨_, rfl, fun y ny => ⟨d2, y, E2.map Ent.kv, rfl, rfl, .inr ⟨o2, ?_⟩, .inl upd_same, _, rfl, ?_⟩⟩
  · rw [upd_ne (fun q => by rw [← q, e4] at ny; cases ny)]
    exact e4
  have s5 : Same H4 (upd H4 y (.dT [])) := same_upd _ ny
  have T5 := T4.mono s5 (Int.le_refl _)
  have F5 := F4.same s5
  generalize upd H4 y (.dT []) = H5 at s5 T5 F5
  cases hE : (E2.map Ent.kv).isEmpty with
  | false =>
    refine iteF (rest_read go T5 (by omega) F5 (r2.up (by omega)) ?_)
    cases E2 with
    | nil => cases hE
    | cons e _ =>
      have x := R4.each e (List.mem_cons_self ..)
      exact ⟨e.n, by rw [← x.val]; exact fv_nz x.pos x.nz⟩
  | true =>
    refine iteT (fun p np => ⟨(by show 1 ≤ sizeLine; decide), fun k H6 n6 s6 e6 => ⟨(by show 2 ≤ sizeLine; decide), fun v H7 n7 s7 e7 => ⟨s7 _ _ (s6 _ _ upd_same), k, [Sum.inl 0], rfl, s7 _ _ e6, ?_⟩⟩⟩)
    have ep7 : H7 p = some (.dT []) := s7 _ _ (s6 _ _ upd_same)
    have T7 : Tape cl H7 tp _ := T5.mono ((same_upd _ np).trans (s6.trans s7)) (Int.le_refl _)
    obtain ⟨F8, k8, _, ne8⟩ := disp_frz (H := H7) (p := p) (v := v) (t := 2) (b := 3) ep7 e7 (by decide) (by decide) (by decide) (by decide)
    refine ⟨p, _, rfl, upd_same, fun o => ?_⟩
    refine rest_read go ((T7.frz (o := .dT [([Sum.inl 0], V.ref v)]) ep7).frz upd_same) (by omega) (F8 o) ((drawn_one (by decide) (by decide) (by decide)).up (by decide)) ⟨0, ?_⟩
    show one0 (fv 2 3) 0 ≠ 0
    unfold one0
    rw [if_pos rfl]
    exact fv_nz (by decide) (by decide)
end
end Lw

namespace Lw
open PySem PySem.Spec PyProof.Rows L2 LwQ
theorem cut63 (ns : List Int) : ∃ ms : List Int, cutV (ns.map V.int) none (some 63) = ms.map V.int ∧ ms.length ≤ 63 := by
  refine ⟨(ns.drop (HT.sIx (ns.map V.int).length 0 none)).take (HT.sIx (ns.map V.int).length (ns.map V.int).length (some 63) - HT.sIx (ns.map V.int).length 0 none), ?_, ?_⟩
  · unfold cutV
    rw [← List.map_drop, ← List.map_take]
  · rw [List.length_take]
    have : HT.sIx (ns.map V.int).length (ns.map V.int).length (some 63) ≤ 63 := by
      have := HT.sIx_nat (ns.map V.int).length (ns.map V.int).length 63
      rw [show ((63 : Nat) : Int) = 63 from rfl] at this
      rw [this]
      exact Nat.min_le_left _ _
    omega
def spLaw46 (K : PySem.W.Frag) : Sp := fun vs H Q _ => ∃ (a : Addr) (ns : List Int), vs = [.ref a] ∧ SqL K H a (ns.map V.int) ∧ ns.length ≤ 63 ∧ ∀ H', Q (.bl true) H'
section
variable {P : Program} {w : World} {K : PySem.W.Frag} {mg : Str → Option Value} {base : Heap} {f fd : _}
theorem scLaw : FnScope ["script", "tape", "other", "one", "way", "some", "rest", "powers", "told"] ["script"] (defScope sLaw) := ⟨rfl, rfl, rfl, by decide +kernel, rfl, by decide +kernel, by decide +kernel⟩
/-- what the law calls -/
structure Calls46 (P : Program) (w : World) (K : PySem.W.Frag) (mg : Str → Option Value) (base : Heap) (fD fP fG fA fR fS fQ fT fX : Addr) (fdD fdP fdG fdA fdR fdS fdQ fdT fdX : FuncData) : Prop where
  DD : Df K mg "_law_draw" sDraw ["tape", "many"] fD fdD
  GD : FnOk P w K mg base CX0 1 fD fdD ["tape", "many"] spDraw
  DP : Df K mg "_law_poly" sPoly ["tape", "most"] fP fdP
  GP : FnOk P w K mg base CX0 3 fP fdP ["tape", "most"] spPoly
  DG : Df K mg "_law_deg" sDeg ["one"] fG fdG
  GG : FnOk P w K mg base CX0 1 fG fdG ["one"] spDeg
  DA : Df K mg "_law_added" sLAdded ["one", "other"] fA fdA
  GA : FnOk P w K mg base CX0 3 fA fdA ["one", "other"] spLAdd
  DR : Df K mg "_law_product" sProduct ["one", "other"] fR fdR
  GR : FnOk P w K mg base CX0 3 fR fdR ["one", "other"] spProd
  DS : Df K mg "_law_sum" sLSum ["many", "one"] fS fdS
  GS : FnOk P w K mg base CX0 2 fS fdS ["many", "one"] spLSum
  DQ : Df K mg "quotient" sQuot ["one", "other"] fQ fdQ
  GQ : FnOk P w K mg base CX0 4 fQ fdQ ["one", "other"] spQuot
  DT : Df K mg "_law_right" sRight ["one", "other", "told"] fT fdT
  GT : FnOk P w K mg base CX0 4 fT fdT ["one", "other", "told"] spRight
  DX : Df K mg "_law_refused" sRefused ["one"] fX fdX
  GX : FnOk P w K mg base CX0 5 fX fdX ["one"] spRefused
theorem ok_law {fD fP fG fA fR fS fQ fT fX : Addr} {fdD fdP fdG fdA fdR fdS fdQ fdT fdX : FuncData} (F : Fun K "law" "law" sLaw f fd) (T : Txt mg) (C : Calls46 P w K mg base fD fP fG fA fR fS fQ fT fX fdD fdP fdG fdA fdR fdS fdQ fdT fdX) : FnOk P w K mg base CX0 6 f fd ["script"] (spLaw46 K) := by
  refine F.ok scLaw (fun vs H Q E h => ?_) (fun cdv A outer s H vs Q E hr h => ?_)
  · obtain ⟨a, ns, rfl, _⟩ := h
    rfl
  · obtain ⟨a, ns, rfl, hS, h63, go⟩ := h
    have hr1 : Room 1 _ := hr.mono (by decide)
    have hr2 : Room 2 _ := hr.mono (by decide)
    have hr3 : Room 3 _ := hr.mono (by decide)
    have hr4 : Room 4 _ := hr.mono (by decide)
    have hu : _ + 64 < cLine := hr.units
    have hu1 : _ + 1 < cLine := Nat.lt_of_le_of_lt (Nat.add_le_add_left (by decide : 1 ≤ 64) _) hr.units
    refine ⟨_, pss_cons (ps_set (i := 1) scLaw.nd rfl (Or.inl rfl) (pe_lstF (pa_cons (pe_callTy call_listF (by rfl) T.lst boot_list (pa_cons (pe_slice sl_listF (pv 0) po_none (po_some pe_int)) pa_nil)) (pa_cons pe_int (pa_cons pe_int (pa_cons pe_int pa_nil))))))
      (pss_cons (ps_set (i := 2) scLaw.nd rfl (Or.inl rfl) (LwD.pe_frz (pe_call C.GP hr3 rfl C.DP.m C.DP.F.kp C.DP.b .nil pass0 (pa_cons (pv 1) (pa_cons (pe_ix ix_list (pe_lstF (pa_cons pe_int (pa_cons pe_int (pa_cons pe_int (pa_cons pe_int pa_nil))))) (pe_call C.GD hr1 rfl C.DD.m C.DD.F.kp C.DD.b .nil pass0 (pa_cons (pv 1) (pa_cons pe_int pa_nil))) (fun _ _ => rfl)) pa_nil)))))
      (pss_cons (ps_if (pt_cmpR (LwD.op_eqE hr.units0) (pv 2) pe_dnewT (nomark _)) (pss_one (ps_set (i := 2) scLaw.nd rfl (Or.inl rfl) (LwD.pe_frz (LwD.pe_disp1 hr.units0 (pe_tupF (pa_cons pe_int pa_nil)) (pe_tupF (pa_cons pe_int (pa_cons pe_int pa_nil))))))) pss_nil)
      (pss_cons (ps_set (i := 3) scLaw.nd rfl (Or.inl rfl) (LwD.pe_frz (pe_call C.GP hr3 rfl C.DP.m C.DP.F.kp C.DP.b .nil pass0 (pa_cons (pv 1) (pa_cons pe_int pa_nil)))))
      (pss_cons (ps_set (i := 4) scLaw.nd rfl (Or.inl rfl) (pe_call C.GD hr1 rfl C.DD.m C.DD.F.kp C.DD.b .nil pass0 (pa_cons (pv 1) (pa_cons pe_int pa_nil))))
      (pss_cons (ps_set (i := 5) scLaw.nd rfl (Or.inl rfl) (LwD.pe_frz (pe_call C.GP hr3 rfl C.DP.m C.DP.F.kp C.DP.b .nil pass0 (pa_cons (pv 1) (pa_cons pe_int pa_nil)))))
      (pss_cons (ps_set (i := 6) scLaw.nd rfl (Or.inl rfl) pe_dnewT)
      (pss_cons (ps_if (pt_cmpR op_gt (pe_call C.GG hr1 rfl C.DG.m C.DG.F.kp C.DG.b .nil pass0 (pa_cons (pv 2) pa_nil)) pe_int (nomark _))
        (pss_one (ps_for PassesOwn.never rfl (LwD.pi_keys (pv 3)) (pg_name (i := 7) scLaw.nd rfl (Or.inl rfl))
          (pss_one (ps_if (pt_cmpR op_lt (pe_ix ix_tup (pv 7) pe_int (fun _ _ => rfl)) (pe_call C.GG hr1 rfl C.DG.m C.DG.F.kp C.DG.b .nil pass0 (pa_cons (pv 2) pa_nil)) (nomark _)) (pss_one (ps_dput hu1 (pv 6) (pv 7) (pe_dget hu1 (pv 3) (pv 7) (fun _ _ => rfl)) rfl)) pss_nil)))) pss_nil)
      (pss_cons (ps_if (PW.pt (pw_and (pt_cmpR op_eq (pv 4) pe_int (nomark _)) (pw_and1 (pt_cmpR op_gt (pe_op op_add (pe_call C.GG hr1 rfl C.DG.m C.DG.F.kp C.DG.b .nil pass0 (pa_cons (pv 5) pa_nil)) (pe_call C.GG hr1 rfl C.DG.m C.DG.F.kp C.DG.b .nil pass0 (pa_cons (pv 2) pa_nil))) pe_int (nomark _))))) (pss_one (ps_set (i := 5) scLaw.nd rfl (Or.inl rfl) (LwD.pe_frz (LwD.pe_disp1 hr.units0 (pe_tupF (pa_cons pe_int pa_nil)) (pe_tupF (pa_cons pe_int (pa_cons pe_int pa_nil))))))) pss_nil)
      (pss_cons (ps_if (pt_cmpR op_eq (pv 4) pe_int (nomark _)) (pss_one (ps_set (i := 3) scLaw.nd rfl (Or.inl rfl) (LwD.pe_frz (pe_call C.GA hr3 rfl C.DA.m C.DA.F.kp C.DA.b .nil pass0 (pa_cons (pe_call C.GR hr3 rfl C.DR.m C.DR.F.kp C.DR.b .nil pass0 (pa_cons (pv 5) (pa_cons (pv 2) pa_nil))) (pa_cons (LwD.pe_frz (pv 6)) pa_nil)))))) pss_nil)
      (pss_cons (ps_set (i := 8) scLaw.nd rfl (Or.inl rfl) (pe_call C.GQ hr4 rfl C.DQ.m C.DQ.F.kp C.DQ.b .nil pass0 (pa_cons (pe_call C.GS hr2 rfl C.DS.m C.DS.F.kp C.DS.b .nil pass0 (pa_cons pe_int (pa_cons (pv 3) pa_nil))) (pa_cons (pe_call C.GS hr2 rfl C.DS.m C.DS.F.kp C.DS.b .nil pass0 (pa_cons pe_int (pa_cons (pv 2) pa_nil))) pa_nil))))
      (pss_cons (ps_if (pt_not (pt_val (pe_call C.GT hr4 rfl C.DT.m C.DT.F.kp C.DT.b .nil pass0 (pa_cons (pv 3) (pa_cons (pv 2) (pa_cons (pv 8) pa_nil)))))) (pss_one (ps_ret pe_bl)) pss_nil)
      (pss_cons (ps_if (PW.pt (pw_and (pt_cmpR op_eq (pv 4) pe_int (nomark _)) (pw_and1 (pt_cmpR (op_neC hu) (pv 8) (pe_tupF (pa_cons (pe_call C.GS hr2 rfl C.DS.m C.DS.F.kp C.DS.b .nil pass0 (pa_cons pe_int (pa_cons (pv 5) pa_nil))) (pa_cons (pe_call C.GS hr2 rfl C.DS.m C.DS.F.kp C.DS.b .nil pass0 (pa_cons pe_int (pa_cons (pv 6) pa_nil))) pa_nil))) (nomark _))))) (pss_one (ps_ret pe_bl)) pss_nil)
      (pss_cons (ps_if (PW.pt (pw_or (pt_not (pt_val (pe_call C.GX hr rfl C.DX.m C.DX.F.kp C.DX.b .nil pass0 (pa_cons (pe_call C.GS hr2 rfl C.DS.m C.DS.F.kp C.DS.b .nil pass0 (pa_cons pe_int (pa_cons (pv 3) pa_nil))) pa_nil)))) (pw_or1 (pt_not (pt_val (pe_call C.GX hr rfl C.DX.m C.DX.F.kp C.DX.b .nil pass0 (pa_cons (pe_tupF (pa_cons pe_int (pa_cons (pe_tupF pa_nil) pa_nil))) pa_nil))))))) (pss_one (ps_ret pe_bl)) pss_nil)
      (pss_one (ps_ret (pe_cmpR (op_eqC hu) (pe_call C.GQ hr4 rfl C.DQ.m C.DQ.F.kp C.DQ.b .nil pass0 (pa_cons (pe_call C.GS hr2 rfl C.DS.m C.DS.F.kp C.DS.b .nil pass0 (pa_cons pe_int (pa_cons (pv 3) pa_nil))) (pa_cons (pe_call C.GS hr2 rfl C.DS.m C.DS.F.kp C.DS.b .nil pass0 (pa_cons pe_int (pa_cons (pv 2) pa_nil))) pa_nil))) (pv 8) (nomark _)))))))))))))))))
      , ?_⟩
    obtain ⟨cs0, em, hm⟩ := cut63 ns
    refine ⟨_, rfl, _, rfl, a, _, rfl, hS, fun p1 H1 n1 s1 e1 => ?_⟩
    refine ⟨p1, _, rfl, .inl (SqL.of e1), fun cl H2 n2 s2 e2 => ⟨(by show 4 ≤ sizeLine; decide), fun tp H3 n3 s3 e3 => ?_⟩⟩
    have T3 : Tape cl H3 tp 0 := ⟨cs0, 0, 0, 0, e3, by rw [s3 _ _ e2, em], hm, by decide, by decide⟩
    exact head_read (K := K) go T3
end
end Lw

namespace Lw
open PySem PySem.Spec PyProof.Rows L2
/-- what the top has written -/
theorem all_mk {l : PySem.W.OpenLaw} {w : World} {K : PySem.W.Frag} {h : Heap} {mg : Str → Option Value} {fa f1 f2 f3 f4 f5 f6 f7 f8 f9 f10 f11 f12 f13 f14 f15 f16 f17 f18 f19 f20 f21 f22 f23 f24 f25 fI tI nA : Addr} (X : K.In h) (G : h.Ns mainGlobals mg) (hfa : mg "law" = some (.ref fa))
    {od1 an1 od2 an2 od3 an3 od4 an4 od5 an5 od6 an6 od7 an7 od8 an8 od9 an9 od10 an10 od11 an11 od12 an12 od13 an13 od14 an14 od15 an15 od16 an16 od17 an17 od18 an18 od19 an19 od20 an20 od21 an21 od22 an22 od23 an23 od24 an24 od25 an25 odI anI odt odN : Option Addr} {sl1 sl2 sl3 sl4 sl5 sl6 sl7 sl8 sl9 sl10 sl11 sl12 sl13 sl14 sl15 sl16 sl17 sl18 sl19 sl20 sl21 sl22 sl23 sl24 sl25 slI slt slN : Array (Option Value)} {itt : Array Value} {nt nN : Nat}
    {oc1 kV1 dc1 pm1 cd1 ct1 oc2 kV2 dc2 pm2 cd2 ct2 oc3 kV3 dc3 pm3 cd3 ct3 oc4 kV4 dc4 pm4 cd4 ct4 oc5 kV5 dc5 pm5 cd5 ct5 oc6 kV6 dc6 pm6 cd6 ct6 oc7 kV7 dc7 pm7 cd7 ct7 oc8 kV8 dc8 pm8 cd8 ct8 oc9 kV9 dc9 pm9 cd9 ct9 oc10 kV10 dc10 pm10 cd10 ct10 oc11 kV11 dc11 pm11 cd11 ct11 oc12 kV12 dc12 pm12 cd12 ct12 oc13 kV13 dc13 pm13 cd13 ct13 oc14 kV14 dc14 pm14 cd14 ct14 oc15 kV15 dc15 pm15 cd15 ct15 oc16 kV16 dc16 pm16 cd16 ct16 oc17 kV17 dc17 pm17 cd17 ct17 oc18 kV18 dc18 pm18 cd18 ct18 oc19 kV19 dc19 pm19 cd19 ct19 oc20 kV20 dc20 pm20 cd20 ct20 oc21 kV21 dc21 pm21 cd21 ct21 oc22 kV22 dc22 pm22 cd22 ct22 oc23 kV23 dc23 pm23 cd23 ct23 oc24 kV24 dc24 pm24 cd24 ct24 oc25 kV25 dc25 pm25 cd25 ct25 ocI kVI dcI pmI cdI ctI oct : Value}
    (a1 : PySem.W.nsIn K mainGlobals "greatest_divisor" = some (some (.ref f1))) (l1 : K.lookup f1 = some ⟨oc1, od1, .func (PySem.W.fnOf "greatest_divisor" "greatest_divisor" (defArgs sGcd) (defBody sGcd) (defScope sGcd) .none kV1 dc1 pm1 an1 cd1 ct1), sl1⟩) (c1 : PySem.W.codeIn K cd1 "greatest_divisor" = true) (k1 : PySem.W.keepIn K (.ref f1) = true)
    (a2 : PySem.W.nsIn K mainGlobals "added" = some (some (.ref f2))) (l2 : K.lookup f2 = some ⟨oc2, od2, .func (PySem.W.fnOf "added" "added" (defArgs sAdded) (defBody sAdded) (defScope sAdded) .none kV2 dc2 pm2 an2 cd2 ct2), sl2⟩) (c2 : PySem.W.codeIn K cd2 "added" = true) (k2 : PySem.W.keepIn K (.ref f2) = true)
    (a3 : PySem.W.nsIn K mainGlobals "less" = some (some (.ref f3))) (l3 : K.lookup f3 = some ⟨oc3, od3, .func (PySem.W.fnOf "less" "less" (defArgs sLess) (defBody sLess) (defScope sLess) .none kV3 dc3 pm3 an3 cd3 ct3), sl3⟩) (c3 : PySem.W.codeIn K cd3 "less" = true) (k3 : PySem.W.keepIn K (.ref f3) = true)
    (a4 : PySem.W.nsIn K mainGlobals "multiplied" = some (some (.ref f4))) (l4 : K.lookup f4 = some ⟨oc4, od4, .func (PySem.W.fnOf "multiplied" "multiplied" (defArgs sMul) (defBody sMul) (defScope sMul) .none kV4 dc4 pm4 an4 cd4 ct4), sl4⟩) (c4 : PySem.W.codeIn K cd4 "multiplied" = true) (k4 : PySem.W.keepIn K (.ref f4) = true)
    (a5 : PySem.W.nsIn K mainGlobals "divided" = some (some (.ref f5))) (l5 : K.lookup f5 = some ⟨oc5, od5, .func (PySem.W.fnOf "divided" "divided" (defArgs sDiv) (defBody sDiv) (defScope sDiv) .none kV5 dc5 pm5 an5 cd5 ct5), sl5⟩) (c5 : PySem.W.codeIn K cd5 "divided" = true) (k5 : PySem.W.keepIn K (.ref f5) = true)
    (a6 : PySem.W.nsIn K mainGlobals "degree" = some (some (.ref f6))) (l6 : K.lookup f6 = some ⟨oc6, od6, .func (PySem.W.fnOf "degree" "degree" (defArgs sDegree) (defBody sDegree) (defScope sDegree) .none kV6 dc6 pm6 an6 cd6 ct6), sl6⟩) (c6 : PySem.W.codeIn K cd6 "degree" = true) (k6 : PySem.W.keepIn K (.ref f6) = true)
    (a7 : PySem.W.nsIn K mainGlobals "numbers_of" = some (some (.ref f7))) (l7 : K.lookup f7 = some ⟨oc7, od7, .func (PySem.W.fnOf "numbers_of" "numbers_of" (defArgs sNumbers) (defBody sNumbers) (defScope sNumbers) .none kV7 dc7 pm7 an7 cd7 ct7), sl7⟩) (c7 : PySem.W.codeIn K cd7 "numbers_of" = true) (k7 : PySem.W.keepIn K (.ref f7) = true)
    (a8 : PySem.W.nsIn K mainGlobals "sum_from" = some (some (.ref f8))) (l8 : K.lookup f8 = some ⟨oc8, od8, .func (PySem.W.fnOf "sum_from" "sum_from" (defArgs sSumFrom) (defBody sSumFrom) (defScope sSumFrom) .none kV8 dc8 pm8 an8 cd8 ct8), sl8⟩) (c8 : PySem.W.codeIn K cd8 "sum_from" = true) (k8 : PySem.W.keepIn K (.ref f8) = true)
    (a9 : PySem.W.nsIn K mainGlobals "quotient" = some (some (.ref f9))) (l9 : K.lookup f9 = some ⟨oc9, od9, .func (PySem.W.fnOf "quotient" "quotient" (defArgs sQuot) (defBody sQuot) (defScope sQuot) .none kV9 dc9 pm9 an9 cd9 ct9), sl9⟩) (c9 : PySem.W.codeIn K cd9 "quotient" = true) (k9 : PySem.W.keepIn K (.ref f9) = true)
    (a10 : PySem.W.nsIn K mainGlobals "_law_draw" = some (some (.ref f10))) (l10 : K.lookup f10 = some ⟨oc10, od10, .func (PySem.W.fnOf "_law_draw" "_law_draw" (defArgs sDraw) (defBody sDraw) (defScope sDraw) .none kV10 dc10 pm10 an10 cd10 ct10), sl10⟩) (c10 : PySem.W.codeIn K cd10 "_law_draw" = true) (k10 : PySem.W.keepIn K (.ref f10) = true)
    (a11 : PySem.W.nsIn K mainGlobals "_law_low" = some (some (.ref f11))) (l11 : K.lookup f11 = some ⟨oc11, od11, .func (PySem.W.fnOf "_law_low" "_law_low" (defArgs sLow) (defBody sLow) (defScope sLow) .none kV11 dc11 pm11 an11 cd11 ct11), sl11⟩) (c11 : PySem.W.codeIn K cd11 "_law_low" = true) (k11 : PySem.W.keepIn K (.ref f11) = true)
    (a12 : PySem.W.nsIn K mainGlobals "_law_plus" = some (some (.ref f12))) (l12 : K.lookup f12 = some ⟨oc12, od12, .func (PySem.W.fnOf "_law_plus" "_law_plus" (defArgs sPlus) (defBody sPlus) (defScope sPlus) .none kV12 dc12 pm12 an12 cd12 ct12), sl12⟩) (c12 : PySem.W.codeIn K cd12 "_law_plus" = true) (k12 : PySem.W.keepIn K (.ref f12) = true)
    (a13 : PySem.W.nsIn K mainGlobals "_law_mul" = some (some (.ref f13))) (l13 : K.lookup f13 = some ⟨oc13, od13, .func (PySem.W.fnOf "_law_mul" "_law_mul" (defArgs sLMul) (defBody sLMul) (defScope sLMul) .none kV13 dc13 pm13 an13 cd13 ct13), sl13⟩) (c13 : PySem.W.codeIn K cd13 "_law_mul" = true) (k13 : PySem.W.keepIn K (.ref f13) = true)
    (a14 : PySem.W.nsIn K mainGlobals "_law_like" = some (some (.ref f14))) (l14 : K.lookup f14 = some ⟨oc14, od14, .func (PySem.W.fnOf "_law_like" "_law_like" (defArgs sLike) (defBody sLike) (defScope sLike) .none kV14 dc14 pm14 an14 cd14 ct14), sl14⟩) (c14 : PySem.W.codeIn K cd14 "_law_like" = true) (k14 : PySem.W.keepIn K (.ref f14) = true)
    (a15 : PySem.W.nsIn K mainGlobals "_law_put" = some (some (.ref f15))) (l15 : K.lookup f15 = some ⟨oc15, od15, .func (PySem.W.fnOf "_law_put" "_law_put" (defArgs sPut) (defBody sPut) (defScope sPut) .none kV15 dc15 pm15 an15 cd15 ct15), sl15⟩) (c15 : PySem.W.codeIn K cd15 "_law_put" = true) (k15 : PySem.W.keepIn K (.ref f15) = true)
    (a16 : PySem.W.nsIn K mainGlobals "_law_added" = some (some (.ref f16))) (l16 : K.lookup f16 = some ⟨oc16, od16, .func (PySem.W.fnOf "_law_added" "_law_added" (defArgs sLAdded) (defBody sLAdded) (defScope sLAdded) .none kV16 dc16 pm16 an16 cd16 ct16), sl16⟩) (c16 : PySem.W.codeIn K cd16 "_law_added" = true) (k16 : PySem.W.keepIn K (.ref f16) = true)
    (a17 : PySem.W.nsIn K mainGlobals "_law_product" = some (some (.ref f17))) (l17 : K.lookup f17 = some ⟨oc17, od17, .func (PySem.W.fnOf "_law_product" "_law_product" (defArgs sProduct) (defBody sProduct) (defScope sProduct) .none kV17 dc17 pm17 an17 cd17 ct17), sl17⟩) (c17 : PySem.W.codeIn K cd17 "_law_product" = true) (k17 : PySem.W.keepIn K (.ref f17) = true)
    (a18 : PySem.W.nsIn K mainGlobals "_law_same" = some (some (.ref f18))) (l18 : K.lookup f18 = some ⟨oc18, od18, .func (PySem.W.fnOf "_law_same" "_law_same" (defArgs sSame) (defBody sSame) (defScope sSame) .none kV18 dc18 pm18 an18 cd18 ct18), sl18⟩) (c18 : PySem.W.codeIn K cd18 "_law_same" = true) (k18 : PySem.W.keepIn K (.ref f18) = true)
    (a19 : PySem.W.nsIn K mainGlobals "_law_sum" = some (some (.ref f19))) (l19 : K.lookup f19 = some ⟨oc19, od19, .func (PySem.W.fnOf "_law_sum" "_law_sum" (defArgs sLSum) (defBody sLSum) (defScope sLSum) .none kV19 dc19 pm19 an19 cd19 ct19), sl19⟩) (c19 : PySem.W.codeIn K cd19 "_law_sum" = true) (k19 : PySem.W.keepIn K (.ref f19) = true)
    (a20 : PySem.W.nsIn K mainGlobals "_law_number" = some (some (.ref f20))) (l20 : K.lookup f20 = some ⟨oc20, od20, .func (PySem.W.fnOf "_law_number" "_law_number" (defArgs sNumber) (defBody sNumber) (defScope sNumber) .none kV20 dc20 pm20 an20 cd20 ct20), sl20⟩) (c20 : PySem.W.codeIn K cd20 "_law_number" = true) (k20 : PySem.W.keepIn K (.ref f20) = true)
    (a21 : PySem.W.nsIn K mainGlobals "_law_poly" = some (some (.ref f21))) (l21 : K.lookup f21 = some ⟨oc21, od21, .func (PySem.W.fnOf "_law_poly" "_law_poly" (defArgs sPoly) (defBody sPoly) (defScope sPoly) .none kV21 dc21 pm21 an21 cd21 ct21), sl21⟩) (c21 : PySem.W.codeIn K cd21 "_law_poly" = true) (k21 : PySem.W.keepIn K (.ref f21) = true)
    (a22 : PySem.W.nsIn K mainGlobals "_law_deg" = some (some (.ref f22))) (l22 : K.lookup f22 = some ⟨oc22, od22, .func (PySem.W.fnOf "_law_deg" "_law_deg" (defArgs sDeg) (defBody sDeg) (defScope sDeg) .none kV22 dc22 pm22 an22 cd22 ct22), sl22⟩) (c22 : PySem.W.codeIn K cd22 "_law_deg" = true) (k22 : PySem.W.keepIn K (.ref f22) = true)
    (a23 : PySem.W.nsIn K mainGlobals "_law_refused" = some (some (.ref f23))) (l23 : K.lookup f23 = some ⟨oc23, od23, .func (PySem.W.fnOf "_law_refused" "_law_refused" (defArgs sRefused) (defBody sRefused) (defScope sRefused) .none kV23 dc23 pm23 an23 cd23 ct23), sl23⟩) (c23 : PySem.W.codeIn K cd23 "_law_refused" = true) (k23 : PySem.W.keepIn K (.ref f23) = true)
    (a24 : PySem.W.nsIn K mainGlobals "_law_right" = some (some (.ref f24))) (l24 : K.lookup f24 = some ⟨oc24, od24, .func (PySem.W.fnOf "_law_right" "_law_right" (defArgs sRight) (defBody sRight) (defScope sRight) .none kV24 dc24 pm24 an24 cd24 ct24), sl24⟩) (c24 : PySem.W.codeIn K cd24 "_law_right" = true) (k24 : PySem.W.keepIn K (.ref f24) = true)
    (a25 : PySem.W.nsIn K mainGlobals "law" = some (some (.ref f25))) (l25 : K.lookup f25 = some ⟨oc25, od25, .func (PySem.W.fnOf "law" "law" (defArgs sLaw) (defBody sLaw) (defScope sLaw) .none kV25 dc25 pm25 an25 cd25 ct25), sl25⟩) (c25 : PySem.W.codeIn K cd25 "law" = true) (k25 : PySem.W.keepIn K (.ref f25) = true)
    (z1 : PySem.W.nsIn K mainGlobals "isinstance" = some none)
    (z2 : PySem.W.nsIn K mainGlobals "len" = some none)
    (z3 : PySem.W.nsIn K mainGlobals "int" = some none)
    (z4 : PySem.W.nsIn K mainGlobals "bool" = some none)
    (z5 : PySem.W.nsIn K mainGlobals "tuple" = some none)
    (z6 : PySem.W.nsIn K mainGlobals "list" = some none)
    (z7 : PySem.W.nsIn K mainGlobals "str" = some none)
    (z8 : PySem.W.nsIn K mainGlobals "abs" = some none)
    (z9 : PySem.W.nsIn K mainGlobals "range" = some none)
    (z10 : PySem.W.nsIn K mainGlobals "sum" = some none)
    (z11 : PySem.W.nsIn K mainGlobals "zip" = some none)
    (z12 : PySem.W.nsIn K mainGlobals "sorted" = some none)
    (z13 : PySem.W.nsIn K mainGlobals "max" = some none)
    (z14 : PySem.W.nsIn K mainGlobals "enumerate" = some none)
    (z15 : PySem.W.nsIn K mainGlobals "reversed" = some none)
    (z16 : PySem.W.nsIn K mainGlobals "all" = some none)
    (z17 : PySem.W.nsIn K mainGlobals "dict" = some none)
    (z18 : PySem.W.nsIn K mainGlobals "ValueError" = some none)
    {tk1 : Tok} (v1 : PySem.W.nsIn K mainGlobals "LONG_BITS" = some (some (.int 8000 tk1)))
    {t0 t1 : Tok} (nN1 : PySem.W.nsIn K mainGlobals "NOUGHT" = some (some (.ref nA))) (nN2 : K.lookup nA = some ⟨.type "tuple", odN, .seq #[.int 0 t0, .int 1 t1] nN, slN⟩)
    (iL : K.lookup fI = some ⟨ocI, odI, .func (PySem.W.fnOf "__init__" "LowwaterError.__init__" (defArgs sInit) (defBody sInit) (defScope sInit) (.ref tI) kVI dcI pmI anI cdI ctI), slI⟩) (iC : PySem.W.codeIn K cdI "LowwaterError.__init__" = true)
    (iT : K.lookup tI = some ⟨oct, odt, .seq itt nt, slt⟩) (iN : itt.size = 1)
    {cq cD Nq Nd : Addr} {bl bd : List Value}
    (m1 : PySem.W.nsIn K mainGlobals "NoQuotient" = some (some (.ref cq)))
    (m2 : PySem.W.nsIn K mainGlobals "LowwaterError" = some (some (.ref cD)))
    {nmq qnq : Str} {bsq subq : List Value} {hdq abq : Bool} {snq : List Str} {colq : Option Bool} {ddq : Option Addr} {x0q x1q x2q x3q x5q : Option Value}
    (wqo : K.lookup cq = some (excClassObj nmq qnq cq Nq bsq bl hdq snq subq abq colq ddq x0q x1q x2q x3q x5q "ValueError.__new__"))
    (wqb : bl.contains (.type "ValueError") = true)
    (wqe : bl.contains (.type "BaseException") = true)
    (wqa : bl.contains (.type "AttributeError") = false)
    (wqn : bl.contains (.type "NameError") = false)
    (wqi : PySem.W.findIn K (.ref cq) "__init__" = some (some (.ref fI)))
    (wqk : PySem.W.keepIn K (.ref cq) = true)
    (wqg : PySem.W.findIn K (.ref cq) "__getattribute__" = some (some (.builtin "BaseException.__getattribute__")))
    (wqh : PySem.W.findIn K (.ref cq) "__getattr__" = some none)
    (wqc : PySem.W.findIn K (.ref cq) "__class__" = some (some (.builtin "object.__class__")))
    (wqm : PySem.W.mroIn K cq (.type "object") = some true)
    {nmd qnd : Str} {bsd subd : List Value} {hdd abd : Bool} {snd : List Str} {cold : Option Bool} {ddd : Option Addr} {x0d x1d x2d x3d x5d : Option Value}
    (wdo : K.lookup cD = some (excClassObj nmd qnd cD Nd bsd bd hdd snd subd abd cold ddd x0d x1d x2d x3d x5d "ValueError.__new__"))
    (wdb : bd.contains (.type "ValueError") = true)
    (wde : bd.contains (.type "BaseException") = true)
    (wda : bd.contains (.type "AttributeError") = false)
    (wdn : bd.contains (.type "NameError") = false)
    (wdi : PySem.W.findIn K (.ref cD) "__init__" = some (some (.ref fI)))
    (wdk : PySem.W.keepIn K (.ref cD) = true)
    (wdg : PySem.W.findIn K (.ref cD) "__getattribute__" = some (some (.builtin "BaseException.__getattribute__")))
    (wdh : PySem.W.findIn K (.ref cD) "__getattr__" = some none)
    (wdc : PySem.W.findIn K (.ref cD) "__class__" = some (some (.builtin "object.__class__")))
    (wdm : PySem.W.mroIn K cD (.type "object") = some true)
    (iF : PySem.W.typeIn K (.ref fI) = some (.type "function")) (up : bl.contains (.ref cD) = true) :
    ∃ fd : FuncData, (∀ (s : Shared) (v : Value), BindsTo s fd ⟨[v], []⟩ [("script", v)]) ∧ ∀ base : Heap, K.In base → base.Ns mainGlobals mg → FnOk l.prog w K mg base CX0 6 fa fd ["script"] (spLaw46 K) := by
  have e := hfa.symm.trans (PySem.W.mg_of X G a25)
  cases e
  have T : Txt mg := ⟨PySem.W.mg_none_of X G z1, PySem.W.mg_none_of X G z2, PySem.W.mg_none_of X G z3, PySem.W.mg_none_of X G z4, PySem.W.mg_none_of X G z5, PySem.W.mg_none_of X G z6, PySem.W.mg_none_of X G z7, PySem.W.mg_none_of X G z8, PySem.W.mg_none_of X G z9, ⟨_, PySem.W.mg_of X G v1⟩, PySem.W.mg_none_of X G z10, PySem.W.mg_none_of X G z11, PySem.W.mg_none_of X G z12, PySem.W.mg_none_of X G z13, PySem.W.mg_none_of X G z14, PySem.W.mg_none_of X G z15, PySem.W.mg_none_of X G z16, PySem.W.mg_none_of X G z17⟩
  have N : Ngt K mg := ⟨nA, PySem.W.mg_of X G nN1, fun H => .inr ⟨_, _, _, nN2, rfl, rfl, by show 2 ≤ sizeLine; decide, .cons ⟨_, rfl⟩ (.cons ⟨_, rfl⟩ .nil)⟩⟩
  have F1 := fun_mk (st := sGcd) l1 c1 k1
  have F2 := fun_mk (st := sAdded) l2 c2 k2
  have F3 := fun_mk (st := sLess) l3 c3 k3
  have F4 := fun_mk (st := sMul) l4 c4 k4
  have F5 := fun_mk (st := sDiv) l5 c5 k5
  have F6 := fun_mk (st := sDegree) l6 c6 k6
  have F7 := fun_mk (st := sNumbers) l7 c7 k7
  have F8 := fun_mk (st := sSumFrom) l8 c8 k8
  have F9 := fun_mk (st := sQuot) l9 c9 k9
  have F10 := fun_mk (st := sDraw) l10 c10 k10
  have F11 := fun_mk (st := sLow) l11 c11 k11
  have F12 := fun_mk (st := sPlus) l12 c12 k12
  have F13 := fun_mk (st := sLMul) l13 c13 k13
  have F14 := fun_mk (st := sLike) l14 c14 k14
  have F15 := fun_mk (st := sPut) l15 c15 k15
  have F16 := fun_mk (st := sLAdded) l16 c16 k16
  have F17 := fun_mk (st := sProduct) l17 c17 k17
  have F18 := fun_mk (st := sSame) l18 c18 k18
  have F19 := fun_mk (st := sLSum) l19 c19 k19
  have F20 := fun_mk (st := sNumber) l20 c20 k20
  have F21 := fun_mk (st := sPoly) l21 c21 k21
  have F22 := fun_mk (st := sDeg) l22 c22 k22
  have F23 := fun_mk (st := sRefused) l23 c23 k23
  have F24 := fun_mk (st := sRight) l24 c24 k24
  have F25 := fun_mk (st := sLaw) l25 c25 k25
  have b1 := F1.binds (ps := ["one", "other"]) fun _ _ _ _ _ _ us hl => match us, hl with | [_, _], _ => rfl
  have D1 : Df K mg "greatest_divisor" sGcd ["one", "other"] f1 _ := ⟨F1, b1, PySem.W.mg_of X G a1⟩
  have b2 := F2.binds (ps := ["one", "other"]) fun _ _ _ _ _ _ us hl => match us, hl with | [_, _], _ => rfl
  have D2 : Df K mg "added" sAdded ["one", "other"] f2 _ := ⟨F2, b2, PySem.W.mg_of X G a2⟩
  have b3 := F3.binds (ps := ["one", "other"]) fun _ _ _ _ _ _ us hl => match us, hl with | [_, _], _ => rfl
  have D3 : Df K mg "less" sLess ["one", "other"] f3 _ := ⟨F3, b3, PySem.W.mg_of X G a3⟩
  have b4 := F4.binds (ps := ["one", "other"]) fun _ _ _ _ _ _ us hl => match us, hl with | [_, _], _ => rfl
  have D4 : Df K mg "multiplied" sMul ["one", "other"] f4 _ := ⟨F4, b4, PySem.W.mg_of X G a4⟩
  have b5 := F5.binds (ps := ["one", "other"]) fun _ _ _ _ _ _ us hl => match us, hl with | [_, _], _ => rfl
  have D5 : Df K mg "divided" sDiv ["one", "other"] f5 _ := ⟨F5, b5, PySem.W.mg_of X G a5⟩
  have b6 := F6.binds (ps := ["one"]) fun _ _ _ _ _ _ us hl => match us, hl with | [_], _ => rfl
  have D6 : Df K mg "degree" sDegree ["one"] f6 _ := ⟨F6, b6, PySem.W.mg_of X G a6⟩
  have b7 := F7.binds (ps := ["one"]) fun _ _ _ _ _ _ us hl => match us, hl with | [_], _ => rfl
  have D7 : Df K mg "numbers_of" sNumbers ["one"] f7 _ := ⟨F7, b7, PySem.W.mg_of X G a7⟩
  have b8 := F8.binds (ps := ["numbers"]) fun _ _ _ _ _ _ us hl => match us, hl with | [_], _ => rfl
  have D8 : Df K mg "sum_from" sSumFrom ["numbers"] f8 _ := ⟨F8, b8, PySem.W.mg_of X G a8⟩
  have b9 := F9.binds (ps := ["one", "other"]) fun _ _ _ _ _ _ us hl => match us, hl with | [_, _], _ => rfl
  have D9 : Df K mg "quotient" sQuot ["one", "other"] f9 _ := ⟨F9, b9, PySem.W.mg_of X G a9⟩
  have b10 := F10.binds (ps := ["tape", "many"]) fun _ _ _ _ _ _ us hl => match us, hl with | [_, _], _ => rfl
  have D10 : Df K mg "_law_draw" sDraw ["tape", "many"] f10 _ := ⟨F10, b10, PySem.W.mg_of X G a10⟩
  have b11 := F11.binds (ps := ["top", "bottom"]) fun _ _ _ _ _ _ us hl => match us, hl with | [_, _], _ => rfl
  have D11 : Df K mg "_law_low" sLow ["top", "bottom"] f11 _ := ⟨F11, b11, PySem.W.mg_of X G a11⟩
  have b12 := F12.binds (ps := ["one", "other"]) fun _ _ _ _ _ _ us hl => match us, hl with | [_, _], _ => rfl
  have D12 : Df K mg "_law_plus" sPlus ["one", "other"] f12 _ := ⟨F12, b12, PySem.W.mg_of X G a12⟩
  have b13 := F13.binds (ps := ["one", "other"]) fun _ _ _ _ _ _ us hl => match us, hl with | [_, _], _ => rfl
  have D13 : Df K mg "_law_mul" sLMul ["one", "other"] f13 _ := ⟨F13, b13, PySem.W.mg_of X G a13⟩
  have b14 := F14.binds (ps := ["one", "other"]) fun _ _ _ _ _ _ us hl => match us, hl with | [_, _], _ => rfl
  have D14 : Df K mg "_law_like" sLike ["one", "other"] f14 _ := ⟨F14, b14, PySem.W.mg_of X G a14⟩
  have b15 := F15.binds (ps := ["found", "powers", "number"]) fun _ _ _ _ _ _ us hl => match us, hl with | [_, _, _], _ => rfl
  have D15 : Df K mg "_law_put" sPut ["found", "powers", "number"] f15 _ := ⟨F15, b15, PySem.W.mg_of X G a15⟩
  have b16 := F16.binds (ps := ["one", "other"]) fun _ _ _ _ _ _ us hl => match us, hl with | [_, _], _ => rfl
  have D16 : Df K mg "_law_added" sLAdded ["one", "other"] f16 _ := ⟨F16, b16, PySem.W.mg_of X G a16⟩
  have b17 := F17.binds (ps := ["one", "other"]) fun _ _ _ _ _ _ us hl => match us, hl with | [_, _], _ => rfl
  have D17 : Df K mg "_law_product" sProduct ["one", "other"] f17 _ := ⟨F17, b17, PySem.W.mg_of X G a17⟩
  have b18 := F18.binds (ps := ["one", "other"]) fun _ _ _ _ _ _ us hl => match us, hl with | [_, _], _ => rfl
  have D18 : Df K mg "_law_same" sSame ["one", "other"] f18 _ := ⟨F18, b18, PySem.W.mg_of X G a18⟩
  have b19 := F19.binds (ps := ["many", "one"]) fun _ _ _ _ _ _ us hl => match us, hl with | [_, _], _ => rfl
  have D19 : Df K mg "_law_sum" sLSum ["many", "one"] f19 _ := ⟨F19, b19, PySem.W.mg_of X G a19⟩
  have b20 := F20.binds (ps := ["tape"]) fun _ _ _ _ _ _ us hl => match us, hl with | [_], _ => rfl
  have D20 : Df K mg "_law_number" sNumber ["tape"] f20 _ := ⟨F20, b20, PySem.W.mg_of X G a20⟩
  have b21 := F21.binds (ps := ["tape", "most"]) fun _ _ _ _ _ _ us hl => match us, hl with | [_, _], _ => rfl
  have D21 : Df K mg "_law_poly" sPoly ["tape", "most"] f21 _ := ⟨F21, b21, PySem.W.mg_of X G a21⟩
  have b22 := F22.binds (ps := ["one"]) fun _ _ _ _ _ _ us hl => match us, hl with | [_], _ => rfl
  have D22 : Df K mg "_law_deg" sDeg ["one"] f22 _ := ⟨F22, b22, PySem.W.mg_of X G a22⟩
  have b23 := F23.binds (ps := ["one"]) fun _ _ _ _ _ _ us hl => match us, hl with | [_], _ => rfl
  have D23 : Df K mg "_law_refused" sRefused ["one"] f23 _ := ⟨F23, b23, PySem.W.mg_of X G a23⟩
  have b24 := F24.binds (ps := ["one", "other", "told"]) fun _ _ _ _ _ _ us hl => match us, hl with | [_, _, _], _ => rfl
  have D24 : Df K mg "_law_right" sRight ["one", "other", "told"] f24 _ := ⟨F24, b24, PySem.W.mg_of X G a24⟩
  have xq : LwE.XCls K cq fI bl "ValueError.__new__" := ⟨⟨_, _, _, _, _, _, _, _, _, _, _, _, _, _, _, wqo⟩, wqb, wqe, wqa, wqn, wqi, iF, wqk, wqg, wqh, wqc, wqm⟩
  have xd : LwE.XCls K cD fI bd "ValueError.__new__" := ⟨⟨_, _, _, _, _, _, _, _, _, _, _, _, _, _, _, wdo⟩, wdb, wde, wda, wdn, wdi, iF, wdk, wdg, wdh, wdc, wdm⟩
  have c2 : Cls2 K mg fI cq cD bl bd := ⟨xq, xd, up, PySem.W.mg_of X G m1, PySem.W.mg_of X G m2⟩
  have bI := init_binds (dV := .ref tI) (kV := kVI) (doc := dcI) (pm := pmI) (cdv := cdI) (ct := ctI) (an := anI) rfl iT iN
  refine ⟨PySem.W.fnOf "law" "law" (defArgs sLaw) (defBody sLaw) (defScope sLaw) .none kV25 dc25 pm25 an25 cd25 ct25, fun s v => .of_eq rfl, fun base _ _ => ?_⟩
  have GX := ok_refused (P := l.prog) (w := w) (base := base) F23 T D9 c2 (ok_init iL iC (PySem.W.mg_none_of X G z18)) bI
  have GT := ok_right (P := l.prog) (w := w) (base := base) F24 T D19 D11 D17 D16 D18 D22 D15 D12 D13 D14
  have GQ := ok_quot (P := l.prog) (w := w) (base := base) F9 T N D7 D8 D5 D4 D3 D2 D1 D6
  exact ok_law F25 T ⟨D10, ok_draw F10 T, D21, ok_poly F21 T D10 D11 D20, D22, ok_deg F22 T, D16, ok_ladd F16 T D15 D12, D17, ok_prod F17 T D15 D12 D13, D19, ok_lsum F19 T D11, D9, GQ, D24, GT, D23, GX⟩
theorem walk {l : PySem.W.OpenLaw} {q : Program} {loose : List Str} {XP : (Str → Option Value) → Heap → Prop} {YP : World → Heap → Prop} {d : DefRec} {K : Params → PySem.W.Frag} (hn : l.most = some 63) (hdf : d.params.defaults = [])
    (hY : ∀ (w : World) (h : Heap), YP w h → (K w.params).In h)
    (F : ∀ (w : World) (mg : Str → Option Value) (fa : Addr) (h : Heap), (K w.params).In h → h.Ns mainGlobals mg → mg d.name = some (.ref fa) →
      ∃ fd : FuncData, (∀ (s : Shared) (u : Value), BindsTo s fd ⟨[u], []⟩ [("script", u)]) ∧ ∀ base : Heap, (K w.params).In base → base.Ns mainGlobals mg → FnOk l.prog w (K w.params) mg base CX0 6 fa fd ["script"] (spLaw46 (K w.params))) :
    PySem.W.WalkO q loose XP YP l.row.toRowW d [] (fun f vs => PySem.call f vs) :=
  L2.walk_of (n := 63) (k := 6) (x := "script") (CX := fun _ => CX0) (sp := fun w => spLaw46 (K w.params)) hn (by decide) hdf ⟨rfl, by decide, by decide⟩ hY F (fun _ _ a ns hl _ hS => ⟨a, ns, rfl, hS, hl, fun _ => rfl⟩) fun _ _ _ _ _ z => z
end Lw

open PySem PySem.W PyProof.Rows
set_option maxRecDepth 100000 in
set_option maxHeartbeats 0 in
theorem PySem.Challenge.cw_lowwater_k46_quotients_and_rests_holds : PySem.Challenge.rw_lowwater_k46_quotients_and_rests.Holds := by
  w_on; o_law; k_head; (case hw => w_witness2)
  k_fill
  refine Lw.walk (l := PySem.Challenge.rw_lowwater_k46_quotients_and_rests) rfl rfl (fun w h Y => PySem.W.kIn_of Y) ?F
  case F =>
    intro w mg fa h KX G hmg
    refine' Lw.all_mk KX G hmg ?a1 ?l1 ?c1 ?k1 ?a2 ?l2 ?c2 ?k2 ?a3 ?l3 ?c3 ?k3 ?a4 ?l4 ?c4 ?k4 ?a5 ?l5 ?c5 ?k5 ?a6 ?l6 ?c6 ?k6 ?a7 ?l7 ?c7 ?k7 ?a8 ?l8 ?c8 ?k8 ?a9 ?l9 ?c9 ?k9 ?a10 ?l10 ?c10 ?k10 ?a11 ?l11 ?c11 ?k11 ?a12 ?l12 ?c12 ?k12 ?a13 ?l13 ?c13 ?k13 ?a14 ?l14 ?c14 ?k14 ?a15 ?l15 ?c15 ?k15 ?a16 ?l16 ?c16 ?k16 ?a17 ?l17 ?c17 ?k17 ?a18 ?l18 ?c18 ?k18 ?a19 ?l19 ?c19 ?k19 ?a20 ?l20 ?c20 ?k20 ?a21 ?l21 ?c21 ?k21 ?a22 ?l22 ?c22 ?k22 ?a23 ?l23 ?c23 ?k23 ?a24 ?l24 ?c24 ?k24 ?a25 ?l25 ?c25 ?k25 ?z1 ?z2 ?z3 ?z4 ?z5 ?z6 ?z7 ?z8 ?z9 ?z10 ?z11 ?z12 ?z13 ?z14 ?z15 ?z16 ?z17 ?z18 ?v1 ?nN1 ?nN2 ?iL ?iC ?iT ?iN ?m1 ?m2 ?wqo ?wqb ?wqe ?wqa ?wqn ?wqi ?wqk ?wqg ?wqh ?wqc ?wqm ?wdo ?wdb ?wde ?wda ?wdn ?wdi ?wdk ?wdg ?wdh ?wdc ?wdm ?iF ?up
    (case a1 => k_is)
    (case l1 => k_is)
    (case c1 => k_is)
    (case k1 => k_is)
    (case a2 => k_is)
    (case l2 => k_is)
    (case c2 => k_is)
    (case k2 => k_is)
    (case a3 => k_is)
    (case l3 => k_is)
    (case c3 => k_is)
    (case k3 => k_is)
    (case a4 => k_is)
    (case l4 => k_is)
    (case c4 => k_is)
    (case k4 => k_is)
    (case a5 => k_is)
    (case l5 => k_is)
    (case c5 => k_is)
    (case k5 => k_is)
    (case a6 => k_is)
    (case l6 => k_is)
    (case c6 => k_is)
    (case k6 => k_is)
    (case a7 => k_is)
    (case l7 => k_is)
    (case c7 => k_is)
    (case k7 => k_is)
    (case a8 => k_is)
    (case l8 => k_is)
    (case c8 => k_is)
    (case k8 => k_is)
    (case a9 => k_is)
    (case l9 => k_is)
    (case c9 => k_is)
    (case k9 => k_is)
    (case a10 => k_is)
    (case l10 => k_is)
    (case c10 => k_is)
    (case k10 => k_is)
    (case a11 => k_is)
    (case l11 => k_is)
    (case c11 => k_is)
    (case k11 => k_is)
    (case a12 => k_is)
    (case l12 => k_is)
    (case c12 => k_is)
    (case k12 => k_is)
    (case a13 => k_is)
    (case l13 => k_is)
    (case c13 => k_is)
    (case k13 => k_is)
    (case a14 => k_is)
    (case l14 => k_is)
    (case c14 => k_is)
    (case k14 => k_is)
    (case a15 => k_is)
    (case l15 => k_is)
    (case c15 => k_is)
    (case k15 => k_is)
    (case a16 => k_is)
    (case l16 => k_is)
    (case c16 => k_is)
    (case k16 => k_is)
    (case a17 => k_is)
    (case l17 => k_is)
    (case c17 => k_is)
    (case k17 => k_is)
    (case a18 => k_is)
    (case l18 => k_is)
    (case c18 => k_is)
    (case k18 => k_is)
    (case a19 => k_is)
    (case l19 => k_is)
    (case c19 => k_is)
    (case k19 => k_is)
    (case a20 => k_is)
    (case l20 => k_is)
    (case c20 => k_is)
    (case k20 => k_is)
    (case a21 => k_is)
    (case l21 => k_is)
    (case c21 => k_is)
    (case k21 => k_is)
    (case a22 => k_is)
    (case l22 => k_is)
    (case c22 => k_is)
    (case k22 => k_is)
    (case a23 => k_is)
    (case l23 => k_is)
    (case c23 => k_is)
    (case k23 => k_is)
    (case a24 => k_is)
    (case l24 => k_is)
    (case c24 => k_is)
    (case k24 => k_is)
    (case a25 => k_is)
    (case l25 => k_is)
    (case c25 => k_is)
    (case k25 => k_is)
    (case z1 => k_is)
    (case z2 => k_is)
    (case z3 => k_is)
    (case z4 => k_is)
    (case z5 => k_is)
    (case z6 => k_is)
    (case z7 => k_is)
    (case z8 => k_is)
    (case z9 => k_is)
    (case z10 => k_is)
    (case z11 => k_is)
    (case z12 => k_is)
    (case z13 => k_is)
    (case z14 => k_is)
    (case z15 => k_is)
    (case z16 => k_is)
    (case z17 => k_is)
    (case z18 => k_is)
    (case v1 => k_is)
    (case nN1 => k_is)
    (case nN2 => k_is)
    (case m1 => k_is)
    (case m2 => k_is)
    (case wqo => k_is)
    (case wqb => first | k_is | rfl | decide +kernel)
    (case wqe => first | k_is | rfl | decide +kernel)
    (case wqa => first | k_is | rfl | decide +kernel)
    (case wqn => first | k_is | rfl | decide +kernel)
    (case wqi => first | k_is | rfl | decide +kernel)
    (case wqk => first | k_is | rfl | decide +kernel)
    (case wqg => first | k_is | rfl | decide +kernel)
    (case wqh => first | k_is | rfl | decide +kernel)
    (case wqc => first | k_is | rfl | decide +kernel)
    (case wqm => first | k_is | rfl | decide +kernel)
    (case wdo => k_is)
    (case wdb => first | k_is | rfl | decide +kernel)
    (case wde => first | k_is | rfl | decide +kernel)
    (case wda => first | k_is | rfl | decide +kernel)
    (case wdn => first | k_is | rfl | decide +kernel)
    (case wdi => first | k_is | rfl | decide +kernel)
    (case wdk => first | k_is | rfl | decide +kernel)
    (case wdg => first | k_is | rfl | decide +kernel)
    (case wdh => first | k_is | rfl | decide +kernel)
    (case wdc => first | k_is | rfl | decide +kernel)
    (case wdm => first | k_is | rfl | decide +kernel)
    (case iL => k_is)
    (case iC => k_is)
    (case iT => k_is)
    (case iN => first | k_is | rfl | decide +kernel)
    (case iF => first | k_is | rfl | decide +kernel)
    (case up => first | k_is | rfl | decide +kernel)

