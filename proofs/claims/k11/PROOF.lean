import PyProof.Rows.All
import Wide.All
import OpenK.AllK
import Wide.FinOn
import Lean
import PyProof.EqAt
import PyProof.EqKinds
import PyProof.TupleCall
import PySem.Challenge.RW_stepcells_k11_lines_that_write_nothing
set_option Elab.async false
set_option linter.all false
set_option maxRecDepth 100000
/-! THE HAND LAYER, for ints, bools, texts, own classes, LISTS and tuples (index, slices, in, append, pop ..), calls, loops. Paste it whole ahead of your own text; what your proof does not reach may be deleted. -/
namespace L2
inductive Ex1_2 {α0 : Type} (A0 A1 : α0 → Prop) : Prop where
  | intro (x0 : α0) (h0 : A0 x0) (h1 : A1 x0) : Ex1_2 A0 A1
inductive Ex1_3 {α0 : Type} (A0 A1 A2 : α0 → Prop) : Prop where
  | intro (x0 : α0) (h0 : A0 x0) (h1 : A1 x0) (h2 : A2 x0) : Ex1_3 A0 A1 A2
inductive Ex1_4 {α0 : Type} (A0 A1 A2 A3 : α0 → Prop) : Prop where
  | intro (x0 : α0) (h0 : A0 x0) (h1 : A1 x0) (h2 : A2 x0) (h3 : A3 x0) : Ex1_4 A0 A1 A2 A3
inductive Ex2_3 {α0 : Type} {α1 : Type} (A0 A1 A2 : α0 → α1 → Prop) : Prop where
  | intro (x0 : α0) (x1 : α1) (h0 : A0 x0 x1) (h1 : A1 x0 x1) (h2 : A2 x0 x1) : Ex2_3 A0 A1 A2
inductive Ex2_4 {α0 : Type} {α1 : Type} (A0 A1 A2 A3 : α0 → α1 → Prop) : Prop where
  | intro (x0 : α0) (x1 : α1) (h0 : A0 x0 x1) (h1 : A1 x0 x1) (h2 : A2 x0 x1) (h3 : A3 x0 x1) : Ex2_4 A0 A1 A2 A3
inductive Ex2_5 {α0 : Type} {α1 : Type} (A0 A1 A2 A3 A4 : α0 → α1 → Prop) : Prop where
  | intro (x0 : α0) (x1 : α1) (h0 : A0 x0 x1) (h1 : A1 x0 x1) (h2 : A2 x0 x1) (h3 : A3 x0 x1) (h4 : A4 x0 x1) : Ex2_5 A0 A1 A2 A3 A4
inductive Ex3_3 {α0 : Type} {α1 : Type} {α2 : Type} (A0 A1 A2 : α0 → α1 → α2 → Prop) : Prop where
  | intro (x0 : α0) (x1 : α1) (x2 : α2) (h0 : A0 x0 x1 x2) (h1 : A1 x0 x1 x2) (h2 : A2 x0 x1 x2) : Ex3_3 A0 A1 A2
inductive Ex3_5 {α0 : Type} {α1 : Type} {α2 : Type} (A0 A1 A2 A3 A4 : α0 → α1 → α2 → Prop) : Prop where
  | intro (x0 : α0) (x1 : α1) (x2 : α2) (h0 : A0 x0 x1 x2) (h1 : A1 x0 x1 x2) (h2 : A2 x0 x1 x2) (h3 : A3 x0 x1 x2) (h4 : A4 x0 x1 x2) : Ex3_5 A0 A1 A2 A3 A4
inductive Ex4_4 {α0 : Type} {α1 : Type} {α2 : Type} {α3 : Type} (A0 A1 A2 A3 : α0 → α1 → α2 → α3 → Prop) : Prop where
  | intro (x0 : α0) (x1 : α1) (x2 : α2) (x3 : α3) (h0 : A0 x0 x1 x2 x3) (h1 : A1 x0 x1 x2 x3) (h2 : A2 x0 x1 x2 x3) (h3 : A3 x0 x1 x2 x3) : Ex4_4 A0 A1 A2 A3
inductive Ex4_5 {α0 : Type} {α1 : Type} {α2 : Type} {α3 : Type} (A0 A1 A2 A3 A4 : α0 → α1 → α2 → α3 → Prop) : Prop where
  | intro (x0 : α0) (x1 : α1) (x2 : α2) (x3 : α3) (h0 : A0 x0 x1 x2 x3) (h1 : A1 x0 x1 x2 x3) (h2 : A2 x0 x1 x2 x3) (h3 : A3 x0 x1 x2 x3) (h4 : A4 x0 x1 x2 x3) : Ex4_5 A0 A1 A2 A3 A4
inductive Ex4_6 {α0 : Type} {α1 : Type} {α2 : Type} {α3 : Type} (A0 A1 A2 A3 A4 A5 : α0 → α1 → α2 → α3 → Prop) : Prop where
  | intro (x0 : α0) (x1 : α1) (x2 : α2) (x3 : α3) (h0 : A0 x0 x1 x2 x3) (h1 : A1 x0 x1 x2 x3) (h2 : A2 x0 x1 x2 x3) (h3 : A3 x0 x1 x2 x3) (h4 : A4 x0 x1 x2 x3) (h5 : A5 x0 x1 x2 x3) : Ex4_6 A0 A1 A2 A3 A4 A5
end L2
namespace L2
open PySem PySem.Spec PyProof.Rows

/-- a key: an int or a str -/
noncomputable abbrev Key := Sum Int Str
noncomputable def keyIs : Key → Value → Bool
  | .inl k, v => Value.isInt k v
  | .inr x, v => Value.isStrOf x v
noncomputable def keyH (w : World) : Key → Int
  | .inl k => hashInt k
  | .inr x => hashStr w x
theorem keyIs_shape : ∀ {k : Key} {v : Value}, keyIs k v = true → (∃ i t, k = Sum.inl i ∧ v = Value.int i t) ∨ (∃ x t, k = Sum.inr x ∧ v = Value.str x t)
  | .inl i, v, h => by
    obtain ⟨t, e⟩ := Value.isInt_shape (k := i) (v := v) h
    exact .inl ⟨i, t, rfl, e⟩
  | .inr x, v, h => by
    obtain ⟨t, e⟩ := Value.isStrOf_shape (x := x) (v := v) h
    exact .inr ⟨x, t, rfl, e⟩
theorem key_ll (a b : Int) : decide ((Sum.inl a : Key) = Sum.inl b) = (a == b) := by
  by_cases e : a = b
  · subst e; simp
  · have h : ¬ (Sum.inl a : Key) = Sum.inl b := fun q => e (Sum.inl.inj q)
    rw [decide_eq_false h]
    exact (beq_eq_false_iff_ne.mpr e).symm
theorem key_rr (a b : Str) : decide ((Sum.inr a : Key) = Sum.inr b) = decide (a = b) := by
  by_cases e : a = b
  · subst e; simp
  · have h : ¬ (Sum.inr a : Key) = Sum.inr b := fun q => e (Sum.inr.inj q)
    rw [decide_eq_false h, decide_eq_false e]
theorem key_lr (a : Int) (b : Str) : decide ((Sum.inl a : Key) = Sum.inr b) = false := decide_eq_false (fun q => nomatch q)
theorem key_rl (a : Str) (b : Int) : decide ((Sum.inr a : Key) = Sum.inl b) = false := decide_eq_false (fun q => nomatch q)

noncomputable def mixKind (prog : Program) (w : World) : PySem.KeyKind prog w Key where
  is := keyIs
  hash := keyH w
  inj := fun v a b ha hb => by
    rcases keyIs_shape ha with ⟨i, t, rfl, rfl⟩ | ⟨x, t, rfl, rfl⟩
    · rcases keyIs_shape hb with ⟨j, u, rfl, e⟩ | ⟨y, u, rfl, e⟩
      · injection e with e1 _; rw [e1]
      · exact nomatch e
    · rcases keyIs_shape hb with ⟨j, u, rfl, e⟩ | ⟨y, u, rfl, e⟩
      · exact nomatch e
      · injection e with e1 _; rw [e1]
  byValue := fun k v h => by
    rcases keyIs_shape h with ⟨i, t, rfl, rfl⟩ | ⟨x, t, rfl, rfl⟩ <;> rfl
  pyHash := fun hv h => by
    rcases keyIs_shape hv with ⟨i, t, rfl, rfl⟩ | ⟨x, t, rfl, rfl⟩
    · exact wpAny_pyHash_int h
    · exact wpAny_pyHash_str h
  eqBool := fun hu hv h => by
    rcases keyIs_shape hu with ⟨i, t, rfl, rfl⟩ | ⟨x, t, rfl, rfl⟩
    · rcases keyIs_shape hv with ⟨j, u, rfl, rfl⟩ | ⟨y, u, rfl, rfl⟩
      · rw [key_ll] at h; exact wpAny_eqBool_int h
      · rw [key_lr] at h; exact SeqAt.EqAt.int_str i t y u _ _ _ _ h
    · rcases keyIs_shape hv with ⟨j, u, rfl, rfl⟩ | ⟨y, u, rfl, rfl⟩
      · rw [key_rl] at h; exact SeqAt.EqAt.str_int x t j u _ _ _ _ h
      · rw [key_rr] at h; exact wpAny_eqBool_str h
  «strs» := fun k x t v h => by
    rcases keyIs_shape h with ⟨i, u, rfl, e⟩ | ⟨y, u, rfl, e⟩
    · exact nomatch e
    · injection e with e1 _
      subst e1
      cases v <;> rfl

end L2

namespace L2
open PySem PySem.Spec PyProof.Rows

/-- a value, without the heap -/
inductive V where
  | non | bl (b : Bool) | int (i : Int) | str (x : Str) | byt (b : Array UInt8) | flt (b : UInt64) | ref (a : Addr) | ty (n : String)
  deriving DecidableEq

noncomputable def RelV : V → Value → Prop
  | .non, u => u = Value.none
  | .bl b, u => u = Value.bool b
  | .int i, u => ∃ t, u = Value.int i t
  | .str x, u => ∃ t, u = Value.str x t
  | .byt b, u => ∃ t, u = Value.bytes b t
  | .flt b, u => ∃ t, u = Value.float b t
  | .ref a, u => u = Value.ref a
  | .ty n, u => u = Value.type n

noncomputable abbrev Vals : List V → List Value → Prop := Paired RelV
theorem Vals.length {xs : List V} {us : List Value} (r : Vals xs us) : xs.length = us.length := Paired.length r
theorem Vals.get {xs : List V} {us : List Value} {i : Nat} {x : V} (h : Vals xs us) (e : xs[i]? = some x) : ∃ u, us[i]? = some u ∧ RelV x u := by
  induction h generalizing i with
  | nil => rw [List.getElem?_nil] at e; cases e
  | cons r _ ih =>
    cases i with
    | zero =>
      obtain rfl := Option.some.inj e
      exact ⟨_, rfl, r⟩
    | succ i => exact ih e
theorem Vals.append {xs ys : List V} {us ws : List Value} (h : Vals xs us) (s : Vals ys ws) : Vals (xs ++ ys) (us ++ ws) := by
  induction h with
  | nil => exact s
  | cons r _ ih => exact .cons r ih
theorem Vals.take {xs : List V} {us : List Value} (n : Nat) (h : Vals xs us) : Vals (xs.take n) (us.take n) := by
  induction h generalizing n with
  | nil => rw [List.take_nil, List.take_nil]; exact .nil
  | cons r _ ih =>
    cases n with
    | zero => exact .nil
    | succ n => exact .cons r (ih n)
theorem Vals.drop {xs : List V} {us : List Value} (n : Nat) (h : Vals xs us) : Vals (xs.drop n) (us.drop n) := by
  induction h generalizing n with
  | nil => rw [List.drop_nil, List.drop_nil]; exact .nil
  | cons r t ih =>
    cases n with
    | zero => exact .cons r t
    | succ n => exact ih n
noncomputable def RelO : Option V → Option Value → Prop
  | some v, some u => RelV v u
  | none, none => True
  | _, _ => False
noncomputable def KV {κ : Type} : List (κ × V) → List (κ × Value) → Prop := Paired fun (p : κ × V) (q : κ × Value) => p.1 = q.1 ∧ RelV p.2 q.2

/-- a key of a dict (00_mix): an int or a text -/
noncomputable def kV : Key → V
  | .inl i => .int i
  | .inr x => .str x

/-- what stands at a tracked address -/
inductive HO where
  /-- a list -/
  | lst (xs : List V)
  /-- a tuple (never changes) -/
  | tup (xs : List V)
  /-- a dict whose keys are ints and texts; one whose keys are tuples of ints and texts (the empty one is both) -/
  | dK (kvs : List (Key × V)) | dT (kvs : List (List Key × V))
  /-- a set of ints: its members, its size -/
  | set (S : Int → Bool) (n : Nat)
  /-- an instance of the class at C, its dict at dx, its attributes -/
  | ins (C dx : Addr) (fs : List (Str × V))
  /-- the dict of the instance at x -/
  | own (x : Addr)
  /-- the dict of an exception -/
  | xd (fs : List (Str × V))
  /-- a bound method, f of x -/
  | met (f x : Addr)
  /-- a range object lo, lo + 1, .. below hi -/
  | rng (lo hi : Int)
  /-- a thing that is known to the object (the script; a dict while a loop walks it): read, never written while it is so -/
  | frz (o : Obj) (u : HO)
  /-- a code object's table -/
  | tbl (ps : Array Value)
  /-- any other thing, by what is true of its one object (a def of one's own: SetO a S n := HO.ext fun h => ..) -/
  | ext (φ : Heap → Prop)

noncomputable abbrev Hp := Addr → Option HO
noncomputable def upd (H : Hp) (a : Addr) (o : HO) : Hp := fun b => if b = a then some o else H b
theorem upd_same {H : Hp} {a : Addr} {o : HO} : upd H a o a = some o := by unfold upd; rw [if_pos rfl]
theorem upd_ne {H : Hp} {a b : Addr} {o : HO} (h : b ≠ a) : upd H a o b = H b := by unfold upd; rw [if_neg h]
theorem ne_of_none {H : Hp} {a b : Addr} {o : HO} (h : H a = some o) (h' : H b = none) : a ≠ b := by
  intro e; subst e; rw [h] at h'; cases h'

section
variable (P : Program) (w : World)
noncomputable def ObjOk (H : Hp) (h : Heap) (a : Addr) : HO → Prop
  | .lst xs => xs.length ≤ sizeLine ∧ ∃ (its : List Value) (n : Nat), Vals xs its ∧ h.get? a = some { cls := .type "list", data := .seq its.toArray n }
  | .tup xs => xs.length ≤ sizeLine ∧ ∃ its : List Value, Vals xs its ∧ IsTup h a its.toArray
  | .dK kvs => kvs.length ≤ sizeLine ∧ (a == sysModules) = false ∧ ∃ vs, KV kvs vs ∧ h.DictOf (mixKind P w) a vs
  | .dT kvs => kvs.length ≤ sizeLine ∧ (a == sysModules) = false ∧ ∃ xs : List (List Key × Addr × Value),
      Paired (fun (p : List Key × V) (q : List Key × Addr × Value) => p.1 = q.1 ∧ H q.2.1 = some (.tup (p.1.map kV)) ∧ RelV p.2 q.2.2) kvs xs ∧
      ∃ o es ep, h.get? a = some o ∧ o.ExactDict ∧ o.data = .dict es ep ∧ es.toList = xs.map (entryOfKey (tupleKind (mixKind P w))) ∧ (xs.map (·.1)).Nodup
  | .set S n => h.SetOf (intKind P w) a S n
  | .ins C dx fs => H dx = some (.own a) ∧ fs.length ≤ 1000 ∧ dx ≠ a ∧ h.get? a = some (PySem.W.instObj C dx) ∧
      ∃ mA, h.Ns1 dx mA ∧ (∀ f, RelO (fs.lookup f) (mA f)) ∧ PySem.Within mA (fs.map (·.1))
  | .own _ => ∃ o, h.get? a = some o
  | .xd fs => ∃ mA, h.Ns1 a mA ∧ ∀ f, RelO (fs.lookup f) (mA f)
  | .rng lo hi => ∃ t u v, h.get? a = some { cls := .type "range", data := .fields #[.int lo t, .int hi u, .int 1 v] }
  | .frz o u => h.get? a = some o ∧ ObjOk H h a u
  | .tbl ps => h.get? a = some { cls := .none, data := .fields ps }
  | .met f x => h.get? a = some (PySem.W.methodObj (.ref f) (.ref x))
  | .ext φ => φ h ∧ (∃ o, h.get? a = some o) ∧ ∀ h1 h2 : Heap, φ h1 → (∀ o, h1.get? a = some o → h2.get? a = some o) → φ h2
/-- the abstract heap is held -/
noncomputable def HOk (H : Hp) (h : Heap) : Prop := ∀ a o, H a = some o → ObjOk P w H h a o
end

section
variable {P : Program} {w : World} {H H' : Hp} {h h' : Heap} {a : Addr} {o : HO}
theorem ObjOk.lt (x : ObjOk P w H h a o) : a < h.objs.size := by
  cases o with
  | lst xs => obtain ⟨_, _, _, _, e⟩ := x; exact Heap.lt_size e
  | tup xs => obtain ⟨_, _, _, p⟩ := x; exact p.lt
  | dK kvs => obtain ⟨_, _, _, _, o, _, _, e, _⟩ := x; exact Heap.lt_size e
  | dT kvs => obtain ⟨_, _, _, _, o, _, _, e, _⟩ := x; exact Heap.lt_size e
  | set S n => obtain ⟨o, _, _, _, e, _⟩ := x; exact Heap.lt_size e
  | ins C dx fs => obtain ⟨_, _, _, e, _⟩ := x; exact Heap.lt_size e
  | own y => obtain ⟨_, e⟩ := x; exact Heap.lt_size e
  | xd fs => obtain ⟨_, ⟨_, _, _, e, _⟩, _⟩ := x; exact Heap.lt_size e
  | rng lo hi => obtain ⟨_, _, _, e⟩ := x; exact Heap.lt_size e
  | frz ob u => obtain ⟨e, _⟩ := x; exact Heap.lt_size e
  | tbl ps => exact Heap.lt_size (show h.get? a = some _ from x)
  | met f y => exact Heap.lt_size (show h.get? a = some _ from x)
  | ext φ => obtain ⟨_, ⟨_, e⟩, _⟩ := x; exact Heap.lt_size e
theorem Paired.mapP {α β : Type} {F G : α → β → Prop} {l₁ : List α} {l₂ : List β} (p : Paired F l₁ l₂) (f : ∀ a b, F a b → G a b) : Paired G l₁ l₂ := by
  induction p with
  | nil => exact .nil
  | cons r _ ih => exact .cons (f _ _ r) ih
/-- what an object's description leans on: its own object, its own dict, the tuples -/
theorem ObjOk.stay (x : ObjOk P w H h a o) (k : ∀ b u, (b = a ∨ H b = some (.own a)) → h.get? b = some u → h'.get? b = some u)
    (ho : ∀ b, H b = some (.own a) → H' b = some (.own a)) (ht : ∀ b xs, H b = some (.tup xs) → H' b = some (.tup xs)) : ObjOk P w H' h' a o := by
  induction o with
  | lst xs => obtain ⟨z, its, n, r, e⟩ := x; exact ⟨z, its, n, r, k _ _ (.inl rfl) e⟩
  | tup xs => obtain ⟨z, its, r, ob, e, c⟩ := x; exact ⟨z, its, r, ob, k _ _ (.inl rfl) e, c⟩
  | dK kvs => obtain ⟨z, y, vs, r, ob, es, ep, e, c⟩ := x; exact ⟨z, y, vs, r, ob, es, ep, k _ _ (.inl rfl) e, c⟩
  | dT kvs =>
    obtain ⟨z, y, xs, r, ob, es, ep, e, c⟩ := x
    exact ⟨z, y, xs, Paired.mapP r fun p q z => ⟨z.1, ht _ _ z.2.1, z.2.2⟩, ob, es, ep, k _ _ (.inl rfl) e, c⟩
  | set S n => obtain ⟨ob, es, ep, t, e, c⟩ := x; exact ⟨ob, es, ep, t, k _ _ (.inl rfl) e, c⟩
  | ins C dx fs =>
    obtain ⟨d, z, ne, e, mA, ⟨od, es, ep, e2, c⟩, r⟩ := x
    exact ⟨ho _ d, z, ne, k _ _ (.inl rfl) e, mA, ⟨od, es, ep, k _ _ (.inr d) e2, c⟩, r⟩
  | own y => obtain ⟨ob, e⟩ := x; exact ⟨ob, k _ _ (.inl rfl) e⟩
  | xd fs => obtain ⟨mA, ⟨od, es, ep, e, c⟩, r⟩ := x; exact ⟨mA, ⟨od, es, ep, k _ _ (.inl rfl) e, c⟩, r⟩
  | rng lo hi => obtain ⟨t, u, v, e⟩ := x; exact ⟨t, u, v, k _ _ (.inl rfl) e⟩
  | frz ob u ih => obtain ⟨e, q⟩ := x; exact ⟨k _ _ (.inl rfl) e, ih q⟩
  | tbl ps =>
    have e : h.get? a = some { cls := .none, data := .fields ps } := x
    show h'.get? a = some { cls := .none, data := .fields ps }
    exact k a _ (.inl rfl) e
  | met f y =>
    have e : h.get? a = some (PySem.W.methodObj (.ref f) (.ref y)) := x
    show h'.get? a = some (PySem.W.methodObj (.ref f) (.ref y))
    exact k a _ (.inl rfl) e
  | ext φ => obtain ⟨p, ⟨o, e⟩, st⟩ := x; exact ⟨st _ _ p fun o q => k _ _ (.inl rfl) q, ⟨o, k _ _ (.inl rfl) e⟩, st⟩
theorem HOk.lt (x : HOk P w H h) (e : H a = some o) : a < h.objs.size := (x a o e).lt
theorem HOk.fresh (x : HOk P w H h) (e : h.objs.size ≤ a) : H a = none := by
  cases q : H a with
  | none => rfl
  | some u => exact absurd (Nat.lt_of_lt_of_le (x.lt q) e) (Nat.lt_irrefl _)
/-- every object of the heap is kept -/
theorem HOk.kept (x : HOk P w H h) (k : ∀ b u, h.get? b = some u → h'.get? b = some u) : HOk P w H h' := fun a o e =>
  (x a o e).stay (fun b u _ q => k b u q) (fun _ q => q) fun _ _ q => q
/-- a new object is laid and tracked -/
theorem HOk.laid (x : HOk P w H h) (k : ∀ b u, h.get? b = some u → h'.get? b = some u) (hp : h.objs.size ≤ a) (new : ObjOk P w (upd H a o) h' a o) : HOk P w (upd H a o) h' := fun b u e => by
  have hn := x.fresh hp
  by_cases hb : b = a
  · subst hb; rw [upd_same] at e; cases e; exact new
  · rw [upd_ne hb] at e
    exact (x b u e).stay (fun c v _ q => k c v q) (fun c q => by rw [upd_ne (ne_of_none q hn)]; exact q) fun c xs q => by rw [upd_ne (ne_of_none q hn)]; exact q
end

/-- what may be read as u: it is u, or a known u -/
noncomputable def Rd (H : Hp) (a : Addr) (u : HO) : Prop := H a = some u ∨ ∃ o, H a = some (.frz o u)
theorem Rd.ok {P : Program} {w : World} {H : Hp} {h : Heap} {a : Addr} {u : HO} (r : Rd H a u) (x : HOk P w H h) : ObjOk P w H h a u := by
  rcases r with r | ⟨o, r⟩
  · exact x a u r
  · obtain ⟨_, q⟩ := x a _ r
    exact q
/-- what may be written -/
noncomputable def Mut : Option HO → Prop
  | some (.lst _) => True
  | some (.dK _) => True
  | some (.dT _) => True
  | some (.set _ _) => True
  | some (.ins _ _ _) => True
  | some (.ext _) => True
  | _ => False
section
variable {P : Program} {w : World} {H : Hp} {h h' : Heap} {x e : Addr} {o' : HO}
/-- the object at e is changed: x itself, or the dict of the instance x -/
theorem HOk.write (ok : HOk P w H h) (mu : Mut (H x)) (he : e = x ∨ H e = some (.own x)) (k : ∀ b u, b ≠ e → h.get? b = some u → h'.get? b = some u) (heo : ∃ u, h'.get? e = some u)
    (new : ObjOk P w (upd H x o') h' x o') : HOk P w (upd H x o') h' := fun b u q => by
  have nown : ∀ c y, H c = some (.own y) → c ≠ x := fun c y r z => by subst z; rw [r] at mu; exact mu
  have ntup : ∀ c xs, H c = some (.tup xs) → c ≠ x := fun c xs r z => by subst z; rw [r] at mu; exact mu
  by_cases hb : b = x
  · subst hb; rw [upd_same] at q; cases q; exact new
  · rw [upd_ne hb] at q
    by_cases hbe : b = e
    · have q' : H b = some (.own x) := by
        rcases he with z | z
        · exact absurd (hbe.trans z) hb
        · rw [hbe]; exact z
      rw [q] at q'; cases q'
      obtain ⟨v, hv⟩ := heo
      exact ⟨v, by rw [hbe]; exact hv⟩
    · refine (ok b u q).stay (fun c v hc r => k c v ?_ r) (fun c r => by rw [upd_ne (nown c b r)]; exact r) fun c xs r => by rw [upd_ne (ntup c xs r)]; exact r
      rcases hc with rfl | hc
      · exact hbe
      · rintro rfl
        rcases he with z | z
        · exact nown c b hc z
        · rw [hc] at z; cases z; exact hb rfl
end

/-! ### kept unless tracked; of the frames at fs (the callers') the slots may change (an exception that passes writes there); of the records at ex (iterators) nothing is said -/
structure Un (fs ex : List Addr) (H H' : Hp) (h h' : Heap) : Prop where
  keep : ∀ b o, h.get? b = some o → H b = none → b ∉ fs → b ∉ ex → h'.get? b = some o
  slot : ∀ b o, h.get? b = some o → H b = none → b ∈ fs → b ∉ ex → ∃ sl, h'.get? b = some { o with slots := sl }
  free : ∀ b o, h.get? b = some o → H b = none → b ∉ ex → H' b = none
  there : ∀ b o, h.get? b = some o → b ∉ ex → ∃ o', h'.get? b = some o'
  tups : ∀ b xs, H b = some (.tup xs) → H' b = some (.tup xs)
  frzs : ∀ b o u, H b = some (.frz o u) → H' b = some (.frz o u)
  tbls : ∀ b ps, H b = some (.tbl ps) → ∃ more, H' b = some (.tbl (ps ++ more))
section
variable {fs fs' ex ex' : List Addr} {H H1 H2 : Hp} {h h1 h2 h' : Heap} {a x e : Addr} {o : HO}
theorem Un.any (u : Un fs ex H H1 h h1) {b : Addr} {ob : Obj} (q : h.get? b = some ob) (n : H b = none) (hx : b ∉ ex) : ∃ sl, h1.get? b = some { ob with slots := sl } := by
  by_cases hb : b ∈ fs
  · exact u.slot b ob q n hb hx
  · exact ⟨ob.slots, u.keep b ob q n hb hx⟩
theorem Un.kept (k : ∀ b u, h.get? b = some u → h'.get? b = some u) : Un fs ex H H h h' :=
  ⟨fun b ob q _ _ _ => k b ob q, fun b ob q _ _ _ => ⟨ob.slots, k b ob q⟩, fun _ _ _ n _ => n, fun b ob q _ => ⟨ob, k b ob q⟩, fun _ _ q => q, fun _ _ _ q => q, fun _ ps q => ⟨#[], by rw [q]; simp⟩⟩
theorem Un.refl : Un fs ex H H h h := Un.kept fun _ _ q => q
theorem Un.laid (k : ∀ b u, h.get? b = some u → h'.get? b = some u) (hp : h.objs.size ≤ a) (hn : H a = none) : Un fs ex H (upd H a o) h h' where
  keep := fun b u q _ _ _ => k b u q
  slot := fun b u q _ _ _ => ⟨u.slots, k b u q⟩
  free := fun b u q n _ => by rw [upd_ne (Nat.ne_of_lt (Nat.lt_of_lt_of_le (Heap.lt_size q) hp))]; exact n
  there := fun b u q _ => ⟨u, k b u q⟩
  tups := fun b xs q => by rw [upd_ne (ne_of_none q hn)]; exact q
  frzs := fun b u xs q => by rw [upd_ne (ne_of_none q hn)]; exact q
  tbls := fun b ps q => ⟨#[], by rw [upd_ne (ne_of_none q hn), q]; simp⟩
theorem Un.write (mu : Mut (H x)) (he : e = x ∨ H e = some (.own x)) (k : ∀ b u, b ≠ e → h.get? b = some u → h'.get? b = some u) (heo : ∃ u, h'.get? e = some u) : Un fs ex H (upd H x o) h h' := by
  have hx : ∀ b, H b = none → b ≠ x := fun b n z => by subst z; rw [n] at mu; exact mu
  have hb : ∀ b, H b = none → b ≠ e := fun b n z => by
    subst z
    rcases he with r | r
    · exact hx b n r
    · rw [n] at r; cases r
  have hm : ∀ b u, H b = some u → ¬ Mut (some u) → b ≠ x := fun b u q nm z => by subst z; rw [q] at mu; exact nm mu
  refine ⟨fun b u q n _ _ => k b u (hb b n) q, fun b u q n _ _ => ⟨u.slots, k b u (hb b n) q⟩, fun b u q n _ => by rw [upd_ne (hx b n)]; exact n, fun b u q _ => ?_,
    fun b xs q => by rw [upd_ne (hm b _ q fun z => z)]; exact q, fun b u xs q => by rw [upd_ne (hm b _ q fun z => z)]; exact q, fun b ps q => ⟨#[], by rw [upd_ne (hm b _ q fun z => z), q]; simp⟩⟩
  by_cases hbe : b = e
  · subst hbe; exact heo
  · exact ⟨u, k b u hbe q⟩
end

/-! ### the heap without what is tracked -/
noncomputable def trk (h : Heap) (H : Hp) : List Addr := (List.range h.objs.size).filter fun a => (H a).isSome
noncomputable def hidT (h : Heap) (H : Hp) : Heap := PySem.W.hideAll h (trk h H)
theorem hidT_size (h : Heap) (H : Hp) : (hidT h H).objs.size = h.objs.size := PySem.W.hideAll_size _ _
theorem hidT_get {h : Heap} {H : Hp} {b : Addr} {o : Obj} (e : h.get? b = some o) (n : H b = none) : (hidT h H).get? b = some o :=
  PySem.W.hideAll_get _ e fun hm => by
    have q : (H b).isSome = true := (List.mem_filter.mp hm).2
    rw [n] at q; simp at q
theorem of_hidT {h : Heap} {H : Hp} {b : Addr} {o : Obj} (e : (hidT h H).get? b = some o) : h.get? b = some o ∧ H b = none := by
  have e' : h.get? b = some o := PySem.W.of_hideAll (trk h H) e
  refine ⟨e', ?_⟩
  cases q : H b with
  | none => rfl
  | some x =>
    have hm : b ∈ trk h H := List.mem_filter.mpr ⟨List.mem_range.mpr (Heap.lt_size e'), by simp [q]⟩
    have z : (hidT h H).get? b = none := PySem.W.hideAll_none (trk h H) hm
    rw [z] at e; cases e

/-! ### OpenK's ledger, filled with every new object but one -/
noncomputable def allNews (g h : Heap) (L : Addr) : List (Addr × Obj) := (List.range h.objs.size).filterMap fun a => if a = L ∨ (g.get? a).isSome = true then none else (h.get? a).map fun o => (a, o)
noncomputable def rest (g h : Heap) (L d : Addr) : List (Addr × Obj) := (allNews g h L).filter fun p => decide (p.1 ≠ d)
end L2

namespace L2
open PySem PySem.Spec PyProof.Rows

/-- the module's facts, over the base: the heap at the law's entry without what is tracked there -/
structure Mod (K : PySem.W.Frag) (mg : Str → Option Value) (base : Heap) : Prop where
  kin : K.In base
  glob : base.Ns mainGlobals mg
  blt : ∃ mb, base.Ns builtinsNs mb ∧ ∀ x : Str, x ≠ "__name__" → mb x = bootBuiltins x
  nolimit : base.NoLimit

/-- the context: a def's body (or a comprehension's block) running. base: fixed through the whole law; s₀, H₀: the entry; outer: the frames whose slots others may change (a def's callers); stack: all frames that run;
   ex: iterators that were made ahead of the entry and are walked here (a comprehension's); fn: the names whose cells were made at the entry (a def: all; a comprehension's block: its own); calm: not within an except suite; pn: pins that every state bears; xe: what is wanted of an exception that leaves the code -/
structure Cx where
  prog : Program
  w : World
  K : PySem.W.Frag
  mg : Str → Option Value
  base : Heap
  A : Around
  N : List Str
  s₀ : Shared
  H₀ : Hp
  env : Env
  outer : List Env
  stack : List Env
  ex : List Addr
  fn : Str → Bool
  calm : Bool
  pn : List (Addr × Obj)
  xe : Value → Shared → Prop
/-- the callers' frames -/
noncomputable def frs (l : List Env) : List Addr := l.filterMap (·.frame)
noncomputable abbrev Cx.fs (X : Cx) : List Addr := frs X.outer

noncomputable def Vis (sc : Scope) (x : Str) : Prop := sc.names.lookup x = some .local ∨ sc.names.lookup x = some .cell ∨ sc.names.lookup x = some .free
noncomputable def Loc (sc : Scope) (x : Str) : Prop := sc.names.lookup x = some .local ∨ sc.names.lookup x = some .cell
noncomputable def Look (env : Env) (h : Heap) (m : Str → Option Value) (x : Str) (u : Value) : Prop :=
  (env.kindOf x = some .local ∧ m x = some u) ∨ ((env.kindOf x = some .cell ∨ env.kindOf x = some .free) ∧ ∃ c, env.cells.lookup x = some c ∧ h.IsCell c (some u))

structure Cx.Ok (X : Cx) : Prop where
  mod : Mod X.K X.mg X.base
  kind : X.env.scope.kind = .function
  glob : X.env.globals = mainGlobals
  blt : X.env.builtins = builtinsNs
  above : X.s₀.heap.objs.size ≤ X.env.locals
  inj : ∀ x y c, X.env.cells.lookup x = some c → X.env.cells.lookup y = some c → x = y
  has : ∀ x, (X.env.kindOf x = some .cell ∨ X.env.kindOf x = some .free) → ∃ c, X.env.cells.lookup x = some c
  cab : ∀ x c, X.fn x = true → X.env.cells.lookup x = some c → X.s₀.heap.objs.size ≤ c
  hd : X.calm = true → X.A.handled = none
  frames : X.A.frames = some X.stack
  stk : X.stack = X.outer ∨ (X.stack = X.env :: X.outer ∧ X.env.frame = some X.env.locals)
  exf : ∀ b ∈ X.ex, b ≠ X.env.locals ∧ ∀ x c, X.env.cells.lookup x = some c → c ≠ b
  bs : ∀ b o, X.base.get? b = some o → X.s₀.heap.get? b = some o ∧ X.H₀ b = none
  bsz : X.base.objs.size ≤ X.s₀.heap.objs.size
  noex : ∀ b o, X.base.get? b = some o → b ∉ X.ex
  exfs : ∀ b ∈ X.ex, b ∉ X.fs
  funs : X.s₀.heap.FunFrames X.base X.outer
  frf : ∀ b ∈ X.fs, X.H₀ b = none

structure Inv (X : Cx) (pins : List (Addr × Obj)) (σ : List (Option V)) (H : Hp) (s : Shared) : Prop where
  ok : X.Ok
  os : s.os = X.s₀.os
  bare : AllBare s.gens
  base : Un X.fs X.ex X.H₀ H X.s₀.heap s.heap
  loc : ∃ m, s.heap.Ns X.env.locals m ∧ ∀ (i : Nat) (x : Str) (v : V), X.N[i]? = some x → σ[i]? = some (some v) → Vis X.env.scope x → ∃ u, RelV v u ∧ Look X.env s.heap m x u
  cell : ∀ x c, X.env.cells.lookup x = some c → ∃ v, s.heap.IsCell c v
  free : H X.env.locals = none
  freeC : ∀ x c, X.env.cells.lookup x = some c → H c = none
  pin : ∀ p ∈ X.pn ++ pins, s.heap.get? p.1 = some p.2 ∧ H p.1 = none ∧ p.1 ≠ X.env.locals ∧ p.1 ∉ X.fs ∧ ∀ v, p.2.data ≠ .cell v
  hok : HOk X.prog X.w H s.heap
  len : σ.length = X.N.length

section
variable {X : Cx} {pins : List (Addr × Obj)} {σ : List (Option V)} {H H' : Hp} {s : Shared} {h' : Heap}

theorem Cx.Ok.nofr (ok : X.Ok) {b : Addr} {o : Obj} (e : X.base.get? b = some o) : b ∉ X.fs := fun hb => by
  have := (ok.funs.mem hb).1
  rw [e] at this; cases this
theorem Inv.bs (I : Inv X pins σ H s) : ∀ b o, X.base.get? b = some o → s.heap.get? b = some o ∧ H b = none := fun b o e =>
  ⟨I.base.keep b o (I.ok.bs b o e).1 (I.ok.bs b o e).2 (I.ok.nofr e) (I.ok.noex b o e), I.base.free b o (I.ok.bs b o e).1 (I.ok.bs b o e).2 (I.ok.noex b o e)⟩
theorem Inv.bk (I : Inv X pins σ H s) : ∀ b o, X.base.get? b = some o → s.heap.get? b = some o := fun b o e => (I.bs b o e).1
theorem Inv.mod (I : Inv X pins σ H s) : Mod X.K X.mg X.base := I.ok.mod
theorem Inv.kIn (I : Inv X pins σ H s) : X.K.In s.heap := I.ok.mod.kin.keeps I.bk
theorem Inv.lt (I : Inv X pins σ H s) : X.env.locals < s.heap.objs.size := let ⟨_, hn, _⟩ := I.loc; hn.lt
theorem Inv.sz (I : Inv X pins σ H s) : X.s₀.heap.objs.size ≤ s.heap.objs.size := Nat.le_trans I.ok.above (Nat.le_of_lt I.lt)
theorem Inv.nofs (I : Inv X pins σ H s) {a : Addr} (h : s.heap.objs.size ≤ a) : a ∉ X.fs := fun hb => by
  obtain ⟨_, o, ho, _⟩ := I.ok.funs.mem hb
  exact absurd (Nat.lt_of_lt_of_le (Heap.lt_size ho) (Nat.le_trans I.sz h)) (Nat.lt_irrefl _)
theorem Inv.cne (I : Inv X pins σ H s) : ∀ x c, X.env.cells.lookup x = some c → c ≠ X.env.locals := fun x c e z => by
  obtain ⟨v, o, ho, hd⟩ := I.cell x c e
  obtain ⟨m, ⟨o', es, ep, ho', hd', _⟩, _⟩ := I.loc
  rw [z, ho'] at ho; cases ho; rw [hd'] at hd; cases hd
theorem Inv.funs (I : Inv X pins σ H s) : s.heap.FunFrames X.base X.outer := by
  have all : ∀ (l : List Env), (∀ b ∈ frs l, b ∈ X.fs) → X.s₀.heap.FunFrames X.base l → s.heap.FunFrames X.base l := by
    intro l
    induction l with
    | nil => intro _ _; trivial
    | cons env r ih =>
      intro hs hl
      obtain ⟨hk, ⟨L, o, hf, hn, ho, hd⟩, hr⟩ := hl
      have hL : L ∈ X.fs := hs L (by unfold frs; rw [List.filterMap_cons, hf]; exact List.mem_cons_self)
      obtain ⟨sl, e⟩ := I.base.slot L o ho (I.ok.frf L hL) hL fun z => I.ok.exfs L z hL
      exact ⟨hk, ⟨L, _, hf, hn, e, hd⟩, ih (fun b hb => hs b (by unfold frs; rw [List.filterMap_cons, hf]; exact List.mem_cons_of_mem _ hb)) hr⟩
  exact all X.outer (fun _ hb => hb) I.ok.funs

/-- the frames that run, for a call -/
theorem Inv.stack (I : Inv X pins σ H s) : s.heap.FunFrames X.base X.stack := by
  rcases I.ok.stk with e | ⟨e, hf⟩
  · rw [e]; exact I.funs
  · rw [e]
    obtain ⟨m, hn, _⟩ := I.loc
    refine .cons (by rw [I.ok.kind]; decide) hf hn ?_ I.funs
    exact Heap.get?_none_of_le (Nat.le_trans I.ok.bsz I.ok.above)
theorem Inv.stkSub (I : Inv X pins σ H s) : ∀ b ∈ frs X.stack, b ∈ X.env.locals :: X.fs := fun b hb => by
  rcases I.ok.stk with e | ⟨e, hf⟩
  · rw [e] at hb; exact List.mem_cons_of_mem _ hb
  · rw [e] at hb
    unfold frs at hb
    rw [List.filterMap_cons, hf] at hb
    exact hb
theorem Inv.stkFree (I : Inv X pins σ H s) : ∀ b ∈ frs X.stack, H b = none := fun b hb => by
  rcases List.mem_cons.mp (I.stkSub b hb) with e | hb
  · rw [e]; exact I.free
  · obtain ⟨_, o, ho, _⟩ := I.ok.funs.mem hb
    exact I.base.free b o ho (I.ok.frf b hb) fun z => I.ok.exfs b z hb

/-- THE STEP: the untracked objects but the frame and the records at ch are kept (the callers' frames up to slots), the frame's map is kept, the new abstract heap is held -/
theorem Inv.step {g' : Array GenState} {t' : Nat} {d' : Drawn} {ch : List Addr} (I : Inv X pins σ H s)
    (hch : ∀ b ∈ ch, (b ∈ X.ex ∨ X.s₀.heap.objs.size ≤ b) ∧ b ≠ X.env.locals ∧ (∀ x c, X.env.cells.lookup x = some c → c ≠ b) ∧ ∀ p ∈ X.pn ++ pins, p.1 ≠ b)
    (keep : ∀ b o, b ≠ X.env.locals → b ∉ X.fs → b ∉ ch → s.heap.get? b = some o → H b = none → h'.get? b = some o)
    (slot : ∀ b o, b ≠ X.env.locals → b ∈ X.fs → b ∉ ch → s.heap.get? b = some o → H b = none → ∃ sl, h'.get? b = some { o with slots := sl }) (free : ∀ b o, b ∉ ch → s.heap.get? b = some o → H b = none → H' b = none)
    (there : ∀ b o, b ∉ ch → s.heap.get? b = some o → ∃ o', h'.get? b = some o')
    (tups : ∀ b xs, H b = some (.tup xs) → H' b = some (.tup xs)) (frzs : ∀ b o u, H b = some (.frz o u) → H' b = some (.frz o u)) (tbls : ∀ b ps, H b = some (.tbl ps) → ∃ more, H' b = some (.tbl (ps ++ more)))
    (ns : ∀ m, s.heap.Ns X.env.locals m → h'.Ns X.env.locals m) (hok : HOk X.prog X.w H' h') (hg : AllBare g') :
    Inv X pins σ H' { s with heap := h', gens := g', drawn := d', toks := t' } := by
  have neL : ∀ b o, X.s₀.heap.get? b = some o → b ≠ X.env.locals := fun b o e => Nat.ne_of_lt (Nat.lt_of_lt_of_le (Heap.lt_size e) I.ok.above)
  have neC : ∀ b o, X.s₀.heap.get? b = some o → b ∉ X.ex → b ∉ ch := fun b o e hx hb => by
    rcases (hch b hb).1 with z | z
    · exact hx z
    · exact absurd (Nat.lt_of_lt_of_le (Heap.lt_size e) z) (Nat.lt_irrefl _)
  have cellK : ∀ x c, X.env.cells.lookup x = some c → ∀ v, s.heap.IsCell c v → h'.IsCell c v := fun x c e v ⟨o, ho, hd⟩ => by
    have nch : c ∉ ch := fun z => (hch c z).2.2.1 x c e rfl
    by_cases hc : c ∈ X.fs
    · obtain ⟨sl, q⟩ := slot c o (I.cne x c e) hc nch ho (I.freeC x c e)
      exact ⟨_, q, hd⟩
    · exact ⟨o, keep c o (I.cne x c e) hc nch ho (I.freeC x c e), hd⟩
  refine ⟨I.ok, I.os, hg, ⟨fun b o e n hb hx => ?_, fun b o e n hb hx => ?_, fun b o e n hx => ?_, fun b o e hx => ?_, fun b xs e => tups b xs (I.base.tups b xs e), fun b o xs e => frzs b o xs (I.base.frzs b o xs e), fun b ps e => ?_⟩, ?_, fun x c e => ?_, ?_, fun x c e => ?_, fun p hp => ?_, hok, I.len⟩
  · exact keep b o (neL b o e) hb (neC b o e hx) (I.base.keep b o e n hb hx) (I.base.free b o e n hx)
  · obtain ⟨sl, e1⟩ := I.base.slot b o e n hb hx
    obtain ⟨sl', e2⟩ := slot b _ (neL b o e) hb (neC b o e hx) e1 (I.base.free b o e n hx)
    exact ⟨sl', e2⟩
  · obtain ⟨o', e1⟩ := I.base.there b o e hx
    exact free b o' (neC b o e hx) e1 (I.base.free b o e n hx)
  · obtain ⟨o', e1⟩ := I.base.there b o e hx
    exact there b o' (neC b o e hx) e1
  · obtain ⟨m1, e1⟩ := I.base.tbls b ps e
    obtain ⟨m2, e2⟩ := tbls b _ e1
    exact ⟨m1 ++ m2, by rw [e2, Array.append_assoc]⟩
  · obtain ⟨m, hn, hl⟩ := I.loc
    refine ⟨m, ns m hn, fun i x v e1 e2 e3 => ?_⟩
    obtain ⟨u, r, l⟩ := hl i x v e1 e2 e3
    refine ⟨u, r, ?_⟩
    rcases l with l | ⟨k, c, e, z⟩
    · exact .inl l
    · exact .inr ⟨k, c, e, cellK x c e _ z⟩
  · obtain ⟨v, z⟩ := I.cell x c e
    exact ⟨v, cellK x c e v z⟩
  · obtain ⟨m, ⟨o, _, _, ho, _⟩, _⟩ := I.loc
    exact free _ o (fun z => (hch _ z).2.1 rfl) ho I.free
  · obtain ⟨v, o, ho, hd⟩ := I.cell x c e
    exact free c o (fun z => (hch c z).2.2.1 x c e rfl) ho (I.freeC x c e)
  · obtain ⟨e, n, ne, nf, d⟩ := I.pin p hp
    have nch : p.1 ∉ ch := fun z => (hch p.1 z).2.2.2 p hp rfl
    exact ⟨keep p.1 p.2 ne nf nch e n, free p.1 p.2 nch e n, ne, nf, d⟩
/-- .. where the frame's own object is kept too -/
theorem Inv.un {t' : Nat} (I : Inv X pins σ H s) (u : Un X.fs [] H H' s.heap h') (hok : HOk X.prog X.w H' h') : Inv X pins σ H' { s with heap := h', toks := t' } := by
  obtain ⟨m, ⟨o, es, ep, ho, r⟩, _⟩ := id I.loc
  obtain ⟨sl, hL⟩ := u.any ho I.free (by simp)
  exact I.step (g' := s.gens) (d' := s.drawn) (ch := []) (fun _ z => nomatch z) (fun b o _ hb _ e n => u.keep b o e n hb (by simp)) (fun b o _ hb _ e n => u.slot b o e n hb (by simp)) (fun b o _ e n => u.free b o e n (by simp)) (fun b o _ e => u.there b o e (by simp)) u.tups u.frzs u.tbls (fun m' hm => by
    obtain ⟨o', es', ep', ho', r'⟩ := hm
    rw [ho] at ho'; cases ho'
    exact ⟨_, es', ep', hL, r'⟩) hok I.bare
/-- behind a call (or a comprehension's block): the slots of this frame may have changed too, the records at ch may have turned -/
theorem Inv.call {g' : Array GenState} {t' : Nat} {d' : Drawn} {ch : List Addr} (I : Inv X pins σ H s) (u : Un (frs X.stack) ch H H' s.heap h') (hok : HOk X.prog X.w H' h') (hg : AllBare g')
    (hch : ∀ b ∈ ch, (b ∈ X.ex ∨ X.s₀.heap.objs.size ≤ b) ∧ b ≠ X.env.locals ∧ (∀ x c, X.env.cells.lookup x = some c → c ≠ b) ∧ ∀ p ∈ X.pn ++ pins, p.1 ≠ b) :
    Inv X pins σ H' { s with heap := h', gens := g', drawn := d', toks := t' } := by
  obtain ⟨m, ⟨o, es, ep, ho, r⟩, _⟩ := id I.loc
  obtain ⟨sl, hL⟩ := u.any ho I.free fun z => (hch _ z).2.1 rfl
  exact I.step (ch := ch) hch (fun b o hL hb hc e n => u.keep b o e n (fun z => (List.mem_cons.mp (I.stkSub b z)).elim hL hb) hc) (fun b o _ _ hc e n => u.any e n hc) (fun b o hc e n => u.free b o e n hc) (fun b o hc e => u.there b o e hc) u.tups u.frzs u.tbls (fun m' hm => by
    obtain ⟨o', es', ep', ho', r'⟩ := hm
    rw [ho] at ho'; cases ho'
    exact ⟨_, es', ep', hL, r'⟩) hok hg
/-- an untracked record of ours (an iterator) has turned -/
theorem Inv.turned {t' : Nat} {it : Addr} (I : Inv X pins σ H s) (k : ∀ b o, b ≠ it → s.heap.get? b = some o → h'.get? b = some o) (hn : H it = none) (hL : it ≠ X.env.locals)
    (h1 : it ∈ X.ex ∨ X.s₀.heap.objs.size ≤ it) (h2 : ∀ x c, X.env.cells.lookup x = some c → c ≠ it) (h3 : ∀ p ∈ X.pn ++ pins, p.1 ≠ it) : Inv X pins σ H { s with heap := h', toks := t' } := by
  have nit : ∀ b u, H b = some u → b ≠ it := fun b u e z => by rw [z, hn] at e; cases e
  refine I.step (g' := s.gens) (d' := s.drawn) (ch := [it]) (fun b hb => ?_) (fun b o _ _ hc e _ => k b o (fun z => hc (by simp [z])) e) (fun b o _ _ hc e _ => ⟨o.slots, k b o (fun z => hc (by simp [z])) e⟩) (fun _ _ _ _ n => n)
    (fun b o hc e => ⟨o, k b o (fun z => hc (by simp [z])) e⟩) (fun _ _ e => e) (fun _ _ _ e => e) (fun b ps e => ⟨#[], by rw [e]; simp⟩) (fun m hm => ?_) (fun b u e => ?_) I.bare
  · have e : b = it := by simpa using hb
    subst e
    exact ⟨h1, hL, h2, h3⟩
  · obtain ⟨o, es, ep, ho, r⟩ := hm
    exact ⟨o, es, ep, k _ o (Ne.symm hL) ho, r⟩
  · refine (I.hok b u e).stay (fun c v hc q => k c v ?_ q) (fun _ q => q) fun _ _ q => q
    rcases hc with z | z
    · rw [z]; exact nit b u e
    · exact nit c _ z
theorem Inv.tok (I : Inv X pins σ H s) (t : Nat) : Inv X pins σ H { s with toks := t } := I.un (h' := s.heap) (t' := t) Un.refl I.hok
/-- all objects kept -/
theorem Inv.kept {t' : Nat} (I : Inv X pins σ H s) (k : ∀ b u, s.heap.get? b = some u → h'.get? b = some u) : Inv X pins σ H { s with heap := h', toks := t' } := I.un (Un.kept k) (I.hok.kept k)
/-- a new object laid and tracked -/
theorem Inv.laid {a : Addr} {o : HO} {t' : Nat} (I : Inv X pins σ H s) (k : ∀ b u, s.heap.get? b = some u → h'.get? b = some u) (hp : s.heap.objs.size ≤ a) (new : ObjOk X.prog X.w (upd H a o) h' a o) :
    Inv X pins σ (upd H a o) { s with heap := h', toks := t' } := I.un (Un.laid k hp (I.hok.fresh hp)) (I.hok.laid k hp new)
/-- an object written -/
theorem Inv.write {x e : Addr} {o : HO} {t' : Nat} (I : Inv X pins σ H s) (mu : Mut (H x)) (he : e = x ∨ H e = some (.own x)) (k : ∀ b u, b ≠ e → s.heap.get? b = some u → h'.get? b = some u) (heo : ∃ u, h'.get? e = some u)
    (new : ObjOk X.prog X.w (upd H x o) h' x o) : Inv X pins σ (upd H x o) { s with heap := h', toks := t' } := I.un (Un.write mu he k heo) (I.hok.write mu he k heo new)
theorem Inv.pins_of {pins' : List (Addr × Obj)} (I : Inv X pins σ H s) (h : ∀ p ∈ pins', s.heap.get? p.1 = some p.2 ∧ H p.1 = none ∧ p.1 ≠ X.env.locals ∧ p.1 ∉ X.fs ∧ ∀ v, p.2.data ≠ .cell v) : Inv X pins' σ H s :=
  ⟨I.ok, I.os, I.bare, I.base, I.loc, I.cell, I.free, I.freeC, fun p hp => (List.mem_append.mp hp).elim (fun z => I.pin p (List.mem_append_left _ z)) (h p), I.hok, I.len⟩

theorem nodup_ix {N : List Str} (hN : N.Nodup) {i j : Nat} {x : Str} (a : N[i]? = some x) (b : N[j]? = some x) : i = j := by
  obtain ⟨h1, e1⟩ := List.getElem?_eq_some_iff.mp a
  obtain ⟨h2, e2⟩ := List.getElem?_eq_some_iff.mp b
  exact (List.getElem_inj hN).mp (e1.trans e2.symm)

/-- a name is stored; what changed -/
theorem store_ok2 {M : Model} {A : Around} {E : Value → Shared → Prop} {i : Nat} {x : Str} {v : V} {u : Value} {Q : Unit → Shared → Prop} (I : Inv X pins σ H s) (hN : X.N.Nodup) (hi : X.N[i]? = some x) (hx : Loc X.env.scope x) (r : RelV v u)
    (h : ∀ s', Inv X pins (σ.set i (some v)) H s' → (∃ a, Heap.SameBut a s.heap s'.heap ∧ (a = X.env.locals ∨ X.env.cells.lookup x = some a)) → Q () s') (hf : X.fn x = true ∨ X.env.scope.names.lookup x = some .local := by first | exact .inl rfl | exact .inr rfl | assumption) : wpAny M A (storeName X.env x u) Q E s := by
  obtain ⟨m, hn, hl⟩ := id I.loc
  have hcls : (X.env.scope.kind == .class || (X.env.scope.kind == .module && X.env.locals != X.env.globals)) = false := by rw [I.ok.kind]; rfl
  have hiσ : i < σ.length := by rw [I.len]; exact (List.getElem?_eq_some_iff.mp hi).1
  have cne := I.cne
  have tracked : ∀ {a : Addr} {h' : Heap}, (∃ o, s.heap.get? a = some o ∧ H a = none) → Heap.SameBut a s.heap h' → HOk X.prog X.w H h' := fun {a h'} ha hs b ob e => by
    obtain ⟨_, _, hfree⟩ := ha
    refine (I.hok b ob e).stay (fun c w' hc q => (hs.2 c ?_).trans q) (fun _ q => q) fun _ _ q => q
    rintro rfl
    rcases hc with rfl | hc
    · rw [hfree] at e; cases e
    · rw [hfree] at hc; cases hc
  rcases hx with hk | hk
  · refine wpAny_storeName_local hk hn (fun h' hn' hs => ?_) hcls
    obtain ⟨oL, _, _, hoL, _⟩ := id hn
    refine h _ ⟨I.ok, I.os, I.bare, ⟨fun b o e n hb hx => ?_, fun b o e n hb hx => ?_, I.base.free, fun b o e hx => ?_, I.base.tups, I.base.frzs, I.base.tbls⟩, ⟨_, hn', fun j y v' e1 e2 e3 => ?_⟩, fun y c e => ?_, I.free, I.freeC, fun p hp => ?_, tracked ⟨oL, hoL, I.free⟩ hs, by simpa using I.len⟩ ⟨_, hs, .inl rfl⟩
    · exact (hs.2 b (Nat.ne_of_lt (Nat.lt_of_lt_of_le (Heap.lt_size e) I.ok.above))).trans (I.base.keep b o e n hb hx)
    · obtain ⟨sl, e1⟩ := I.base.slot b o e n hb hx
      exact ⟨sl, (hs.2 b (Nat.ne_of_lt (Nat.lt_of_lt_of_le (Heap.lt_size e) I.ok.above))).trans e1⟩
    · obtain ⟨o', e1⟩ := I.base.there b o e hx
      exact ⟨o', (hs.2 b (Nat.ne_of_lt (Nat.lt_of_lt_of_le (Heap.lt_size e) I.ok.above))).trans e1⟩
    · by_cases hj : j = i
      · subst hj
        rw [hi] at e1; cases e1
        rw [List.getElem?_set_self hiσ] at e2
        cases e2
        exact ⟨u, r, .inl ⟨hk, by simp⟩⟩
      · rw [List.getElem?_set_ne (Ne.symm hj)] at e2
        obtain ⟨u', r', q⟩ := hl j y v' e1 e2 e3
        refine ⟨u', r', ?_⟩
        rcases q with ⟨k, e⟩ | ⟨k, c, e, z⟩
        · refine .inl ⟨k, ?_⟩
          have : y ≠ x := fun e => hj (nodup_ix hN e1 (e ▸ hi))
          simp [this, e]
        · exact .inr ⟨k, c, e, z.sameBut hs (cne y c e)⟩
    · obtain ⟨w', z⟩ := I.cell y c e
      exact ⟨w', z.sameBut hs (cne y c e)⟩
    · obtain ⟨e, n, ne, nf, d⟩ := I.pin p hp
      exact ⟨(hs.2 p.1 ne).trans e, n, ne, nf, d⟩
  · have hfn : X.fn x = true := by
      rcases hf with z | z
      · exact z
      · rw [z] at hk; cases hk
    obtain ⟨c, hc⟩ := I.ok.has x (.inl hk)
    obtain ⟨w', z⟩ := I.cell x c hc
    refine wpAny_storeName_cell I.ok.kind hk hc z (fun h' hc' hs => ?_)
    obtain ⟨oc, hoc, hocd⟩ := id z
    refine h { s with heap := h' } ⟨I.ok, I.os, I.bare, ⟨fun b o e n hb hx => ?_, fun b o e n hb hx => ?_, I.base.free, fun b o e hx => ?_, I.base.tups, I.base.frzs, I.base.tbls⟩, ⟨m, hn.sameBut hs (Ne.symm (cne x c hc)), fun j y v' e1 e2 e3 => ?_⟩, fun y c' e => ?_, I.free, I.freeC, fun p hp => ?_, tracked ⟨oc, hoc, I.freeC x c hc⟩ hs, by simpa using I.len⟩ ⟨c, hs, .inr hc⟩
    · exact (hs.2 b (Nat.ne_of_lt (Nat.lt_of_lt_of_le (Heap.lt_size e) (I.ok.cab x c hfn hc)))).trans (I.base.keep b o e n hb hx)
    · obtain ⟨sl, e1⟩ := I.base.slot b o e n hb hx
      exact ⟨sl, (hs.2 b (Nat.ne_of_lt (Nat.lt_of_lt_of_le (Heap.lt_size e) (I.ok.cab x c hfn hc)))).trans e1⟩
    · obtain ⟨o', e1⟩ := I.base.there b o e hx
      exact ⟨o', (hs.2 b (Nat.ne_of_lt (Nat.lt_of_lt_of_le (Heap.lt_size e) (I.ok.cab x c hfn hc)))).trans e1⟩
    · by_cases hj : j = i
      · subst hj
        rw [hi] at e1; cases e1
        rw [List.getElem?_set_self hiσ] at e2
        cases e2
        exact ⟨u, r, .inr ⟨.inl hk, c, hc, hc'⟩⟩
      · rw [List.getElem?_set_ne (Ne.symm hj)] at e2
        obtain ⟨u', r', q⟩ := hl j y v' e1 e2 e3
        refine ⟨u', r', ?_⟩
        rcases q with q | ⟨k, c', e, z'⟩
        · exact .inl q
        · refine .inr ⟨k, c', e, z'.sameBut hs ?_⟩
          rintro rfl
          exact hj (nodup_ix hN e1 (I.ok.inj _ _ _ e hc ▸ hi))
    · by_cases hcc : c' = c
      · subst hcc; exact ⟨_, hc'⟩
      · obtain ⟨w2, z2⟩ := I.cell y c' e
        exact ⟨w2, z2.sameBut hs hcc⟩
    · obtain ⟨e, n, ne, nf, d⟩ := I.pin p hp
      refine ⟨(hs.2 p.1 ?_).trans e, n, ne, nf, d⟩
      intro q
      rw [q, hoc] at e
      have q' : oc = p.2 := Option.some.inj e
      exact d w' (by rw [← q']; exact hocd)
theorem store_ok {M : Model} {A : Around} {E : Value → Shared → Prop} {i : Nat} {x : Str} {v : V} {u : Value} {Q : Unit → Shared → Prop} (I : Inv X pins σ H s) (hN : X.N.Nodup) (hi : X.N[i]? = some x) (hx : Loc X.env.scope x) (r : RelV v u)
    (h : ∀ s', Inv X pins (σ.set i (some v)) H s' → Q () s') (hf : X.fn x = true ∨ X.env.scope.names.lookup x = some .local := by first | exact .inl rfl | exact .inr rfl | assumption) : wpAny M A (storeName X.env x u) Q E s :=
  store_ok2 I hN hi hx r (fun s' I' _ => h s' I') hf
/-- behind a call or a block, the state as it is -/
theorem Inv.call' {s' : Shared} {ch : List Addr} (I : Inv X pins σ H s) (ho : s'.os = s.os) (u : Un (frs X.stack) ch H H' s.heap s'.heap) (hok : HOk X.prog X.w H' s'.heap) (hg : AllBare s'.gens)
    (hch : ∀ b ∈ ch, (b ∈ X.ex ∨ X.s₀.heap.objs.size ≤ b) ∧ b ≠ X.env.locals ∧ (∀ x c, X.env.cells.lookup x = some c → c ≠ b) ∧ ∀ p ∈ X.pn ++ pins, p.1 ≠ b) : Inv X pins σ H' s' := by
  obtain ⟨h', g', d', t', o'⟩ := s'
  have e : o' = s.os := ho
  subst e
  exact I.call (g' := g') (t' := t') (d' := d') u hok hg hch
end

/-! ### the judgements -/
/-- an exception: its class, its own dict's address (where it has one), the abstract heap behind it -/
noncomputable abbrev XK := Value → Option Addr → Hp → Prop
noncomputable abbrev St := List (Option V)
noncomputable abbrev VK := V → Hp → Prop
/-- an expression's reading; a test's; an argument list's -/
noncomputable abbrev TE := St → Hp → VK → Prop
noncomputable abbrev TT := St → Hp → (Bool → Hp → Prop) → Prop
noncomputable abbrev TA := St → Hp → (List V → Hp → Prop) → Prop
/-- what is wanted behind a statement -/
structure Ends where
  nx : St → Hp → Prop
  rt : VK
  bk : St → Hp → Prop := fun _ _ => False
  ct : St → Hp → Prop := fun _ _ => False
noncomputable abbrev TS := Ends → St → Hp → Prop

noncomputable def EP (X : Cx) (pins : List (Addr × Obj)) (σ : St) (Q : VK) (u : Value) (s' : Shared) : Prop := ∃ v H', Inv X pins σ H' s' ∧ RelV v u ∧ Q v H'
noncomputable def TP (X : Cx) (pins : List (Addr × Obj)) (σ : St) (Q : Bool → Hp → Prop) (b : Bool) (s' : Shared) : Prop := ∃ H', Inv X pins σ H' s' ∧ Q b H'
noncomputable def AP (X : Cx) (pins : List (Addr × Obj)) (σ : St) (Q : List V → Hp → Prop) (us : List Value) (s' : Shared) : Prop := ∃ vs H', Inv X pins σ H' s' ∧ Vals vs us ∧ Q vs H'
noncomputable def SP (X : Cx) (pins : List (Addr × Obj)) (D : Ends) (f : Flow) (s' : Shared) : Prop :=
  match f with
  | .next => ∃ σ' H', Inv X pins σ' H' s' ∧ D.nx σ' H'
  | .brk => ∃ σ' H', Inv X pins σ' H' s' ∧ D.bk σ' H'
  | .cont => ∃ σ' H', Inv X pins σ' H' s' ∧ D.ct σ' H'
  | .ret u => ∃ v σ' H', Inv X pins σ' H' s' ∧ RelV v u ∧ D.rt v H'

noncomputable def PE (X : Cx) (e : Expr) (t : TE) : Prop :=
  ∀ (pins : List (Addr × Obj)) (s : Shared) (σ : St) (H : Hp) (Q : VK), Inv X pins σ H s → t σ H Q → wpAny (model X.prog X.w) X.A (eval e X.env) (EP X pins σ Q) X.xe s
noncomputable def PT (X : Cx) (e : Expr) (t : TT) : Prop :=
  ∀ (pins : List (Addr × Obj)) (s : Shared) (σ : St) (H : Hp) (Q : Bool → Hp → Prop), Inv X pins σ H s → t σ H Q → wpAny (model X.prog X.w) X.A (isTrue e X.env (eval e X.env)) (TP X pins σ Q) X.xe s
/-- a test whatever its 'whole' is (and, or) -/
noncomputable def PW (X : Cx) (e : Expr) (t : TT) : Prop :=
  ∀ (whole : Sem Value) (pins : List (Addr × Obj)) (s : Shared) (σ : St) (H : Hp) (Q : Bool → Hp → Prop), Inv X pins σ H s → t σ H Q → wpAny (model X.prog X.w) X.A (isTrue e X.env whole) (TP X pins σ Q) X.xe s
theorem PW.pt {X : Cx} {e : Expr} {t : TT} (h : PW X e t) : PT X e t := h _
/-- an argument list (no star), from the left -/
noncomputable def PA (X : Cx) (es : List Expr) (t : TA) : Prop :=
  ∀ (pos : Pos) (pins : List (Addr × Obj)) (s : Shared) (σ : St) (H : Hp) (Q : List V → Hp → Prop), Inv X pins σ H s → t σ H Q → wpAny (model X.prog X.w) X.A (spliced (backTo pos (starEach es X.env))) (AP X pins σ Q) X.xe s
noncomputable def PS (X : Cx) (st : Stmt) (t : TS) : Prop :=
  ∀ (pins : List (Addr × Obj)) (s : Shared) (σ : St) (H : Hp) (D : Ends), Inv X pins σ H s → t D σ H → wpAny (model X.prog X.w) X.A (exec st X.env) (SP X pins D) X.xe s
noncomputable def PSs (X : Cx) (st : List Stmt) (t : TS) : Prop :=
  ∀ (pins : List (Addr × Obj)) (s : Shared) (σ : St) (H : Hp) (D : Ends), Inv X pins σ H s → t D σ H → wpAny (model X.prog X.w) X.A (execs st X.env) (SP X pins D) X.xe s
/-- weaken the end -/
theorem thn {α : Type} {t : Sem α} {Q Q' : α → Shared → Prop} {M : Model} {A : Around} {E : Value → Shared → Prop} {s : Shared} (h : wpAny M A t Q E s) (hQ : ∀ a s, Q a s → Q' a s) : wpAny M A t Q' E s := wpAny_mono h hQ fun _ _ x => x
end L2

namespace L2
open PySem PySem.Spec PyProof.Rows
section
variable {X : Cx}

/-- two expressions in a row -/
theorem bin {a b : Expr} {ta tb : TE} (ha : PE X a ta) (hb : PE X b tb) {pins : List (Addr × Obj)} {s : Shared} {σ : St} {H : Hp} {R : V → V → Hp → Prop} (I : Inv X pins σ H s) (h : ta σ H fun x H1 => tb σ H1 fun y H2 => R x y H2)
    {α : Type} {Q : α → Shared → Prop} {f : Value → Value → Sem α}
    (hf : ∀ v u s2 x y H2, Inv X pins σ H2 s2 → RelV x v → RelV y u → R x y H2 → wpAny (model X.prog X.w) X.A (f v u) Q X.xe s2) :
    wpAny (model X.prog X.w) X.A (eval a X.env) (fun v s₁ => wpAny (model X.prog X.w) X.A (eval b X.env) (fun u s₂ => wpAny (model X.prog X.w) X.A (f v u) Q X.xe s₂) X.xe s₁) X.xe s := by
  refine thn (ha pins s σ H _ I h) fun v s1 ⟨x, H1, I1, r1, q1⟩ => ?_
  refine thn (hb pins s1 σ H1 _ I1 q1) fun u s2 ⟨y, H2, I2, r2, q2⟩ => ?_
  exact hf v u s2 x y H2 I2 r1 r2 q2

/-! ### names and constants -/
noncomputable def tVar (i : Nat) : TE := fun σ H Q => Ex1_2 (fun v => σ[i]? = some (some v)) (fun v => Q v H)
noncomputable def tC (v : V) : TE := fun _ H Q => Q v H
theorem pe_var {i : Nat} {x : Str} {pos : Pos} (hN : X.N[i]? = some x) (hv : Vis X.env.scope x) (hd : (x == ("__debug__" : Str)) = false := by decide) (hcd : (x == ("__classdict__" : Str)) = false := by decide) : PE X (.Name x pos) (tVar i) := by
  intro pins s σ H Q I h
  obtain ⟨v, e, h⟩ := h
  obtain ⟨m, hn, hl⟩ := I.loc
  obtain ⟨u, r, l⟩ := hl i x v hN e hv
  have fin : EP X pins σ Q u s := ⟨v, H, I, r, h⟩
  rcases l with ⟨hk, hm⟩ | ⟨hk, c, hc, hcell⟩
  · exact wpAny_Name (wpAny_loadName_local I.ok.kind hk hn hm fin) hd
  · rcases hk with hk | hk
    · exact wpAny_Name (wpAny_loadName_cell I.ok.kind hk hc hcell fin) hd
    · exact wpAny_Name (wpAny_loadName_free I.ok.kind hk hc hcell fin hcd) hd
theorem pe_int {i j pos} : PE X (.Constant (.int i) j pos) (tC (.int i)) := fun _ _ _ H _ I h => wpAny_Constant_int ⟨.int i, H, I.tok _, ⟨_, rfl⟩, h⟩
theorem pe_bl {b j pos} : PE X (.Constant (.bool b) j pos) (tC (.bl b)) := fun _ _ _ H _ I h => Constant_bool ⟨.bl b, H, I, rfl, h⟩
theorem pe_non {j pos} : PE X (.Constant .none j pos) (tC .non) := fun _ _ _ H _ I h => Constant_none ⟨.non, H, I, rfl, h⟩
theorem pe_str {x j pos} : PE X (.Constant (.str x) j pos) (tC (.str x)) := fun _ _ _ H _ I h => Calls.Constant_str ⟨.str x, H, I.tok _, ⟨_, rfl⟩, h⟩

/-- a global name of the def -/
noncomputable def Gl (X : Cx) (x : Str) : Prop := X.env.kindOf x = some .globalImplicit
theorem ld_glob {E : Value → Shared → Prop} {pins : List (Addr × Obj)} {s : Shared} {σ : St} {H : Hp} {x : Str} {u : Value} {pos : Pos} {Q : Value → Shared → Prop} (I : Inv X pins σ H s) (hg : Gl X x) (hm : X.mg x = some u) (h : Q u s)
    (hd : (x == ("__debug__" : Str)) = false := by decide) : wpAny (model X.prog X.w) X.A (eval (.Name x pos) X.env) Q E s :=
  Calls.Name_function_global I.ok.kind hg (Calls.loadGlobal_global (by rw [I.ok.glob]; exact I.mod.glob.keeps I.bk) hm h) hd
theorem ld_blt {E : Value → Shared → Prop} {pins : List (Addr × Obj)} {s : Shared} {σ : St} {H : Hp} {x : Str} {u : Value} {pos : Pos} {Q : Value → Shared → Prop} (I : Inv X pins σ H s) (hg : Gl X x) (hm : X.mg x = none) (hv : bootBuiltins x = some u) (h : Q u s)
    (hn : x ≠ "__name__" := by decide) (hd : (x == ("__debug__" : Str)) = false := by decide) : wpAny (model X.prog X.w) X.A (eval (.Name x pos) X.env) Q E s := by
  obtain ⟨mb, h1, h2⟩ := I.mod.blt
  exact Calls.Name_function_global I.ok.kind hg (Calls.loadGlobal_builtin (by rw [I.ok.glob]; exact I.mod.glob.keeps I.bk) hm (by rw [I.ok.blt]; exact h1.keeps I.bk) ((h2 x hn).trans hv) h) hd
/-- a module's constant, a class, a function, as a value -/
theorem pe_glob {x : Str} {v : V} {u : Value} {pos : Pos} (hg : Gl X x) (hm : X.mg x = some u) (r : RelV v u) (hd : (x == ("__debug__" : Str)) = false := by decide) : PE X (.Name x pos) (tC v) :=
  fun _ _ _ H _ I h => ld_glob I hg hm ⟨v, H, I, r, h⟩ hd
theorem pe_bltn {x : Str} {v : V} {u : Value} {pos : Pos} (hg : Gl X x) (hm : X.mg x = none) (hv : bootBuiltins x = some u) (r : RelV v u) (hn : x ≠ "__name__" := by decide) (hd : (x == ("__debug__" : Str)) = false := by decide) : PE X (.Name x pos) (tC v) :=
  fun _ _ _ H _ I h => ld_blt I hg hm hv ⟨v, H, I, r, h⟩ hn hd

variable {a b : Expr} {ta tb : TE} {pos : Pos}
/-! ### comparisons -/
noncomputable def PC (X : Cx) (op : CmpOp) (a b : Expr) (t : TE) : Prop :=
  ∀ (pins : List (Addr × Obj)) (s : Shared) (σ : St) (H : Hp) (Q : VK), Inv X pins σ H s → t σ H Q →
    wpAny (model X.prog X.w) X.A (eval a X.env) (fun v s₁ => wpAny (model X.prog X.w) X.A (eval b X.env) (fun u s₂ => wpAny (model X.prog X.w) X.A (compareOp op v u) (EP X pins σ Q) X.xe s₂) X.xe s₁) X.xe s
/-- a comparison as a value, as a test -/
noncomputable def tB (t : TE) : TT := fun σ H Q => t σ H fun x H1 => Ex1_2 (fun c => x = .bl c) (fun c => Q c H1)
theorem pt_cmp {op : CmpOp} {t : TE} (h : PC X op a b t) (h1 : behindInMarks op b = false := by first | exact nobehind _ (by decide) (by decide) | rfl) : PT X (.Compare a [op] [b] pos) (tB t) := by
  intro pins s σ H Q I hw
  refine wpAny_isTrue_Compare1 (thn (h pins s σ H _ I hw) fun v s1 h1 => thn h1 fun u s2 h2 => thn h2 fun c s3 ⟨x, H1, I1, r1, q1⟩ => ?_) h1
  obtain ⟨d, rfl, q⟩ := q1
  cases r1
  exact wpAny_truthy_bool ⟨H1, I1, q⟩
/-- an expression whose value is a bool, as a test -/
theorem pt_val {e : Expr} {t : TE} (h : PE X e t) (he : ∀ whole, isTrue e X.env whole = (do let v ← whole; standAt e.pos; holding [v] (truthy v)) := by intro _; rfl) : PT X e (tB t) := by
  intro pins s σ H Q I hw
  refine isTrue_plain (thn (h pins s σ H _ I hw) fun v s1 ⟨x, H1, I1, r1, q1⟩ => ?_) (he _)
  obtain ⟨d, rfl, q⟩ := q1
  cases r1
  exact wpAny_truthy_bool ⟨H1, I1, q⟩

/-! ### and, or, not -/
variable {tA tB' : TT} {rest : List Expr}
noncomputable def tAnd (t u : TT) : TT := fun σ H Q => t σ H fun c H1 => if c = true then u σ H1 Q else Q false H1
noncomputable def tOr (t u : TT) : TT := fun σ H Q => t σ H fun c H1 => if c = true then Q true H1 else u σ H1 Q
noncomputable def tNot (t : TT) : TT := fun σ H Q => t σ H fun c H1 => Q (!c) H1
theorem pw_and1 (ha : PT X a tA) : PW X (.BoolOp .And [a] pos) tA := by
  intro wh pins s σ H Q I h
  refine isTrue_and (thn (ha pins s σ H Q I h) fun c s1 e => ?_)
  cases c with
  | true => exact isTrue_and_nil e
  | false => exact e
theorem pw_or1 (ha : PT X a tA) : PW X (.BoolOp .Or [a] pos) tA := by
  intro wh pins s σ H Q I h
  refine isTrue_or (thn (ha pins s σ H Q I h) fun c s1 e => ?_)
  cases c with
  | false => exact isTrue_or_nil e
  | true => exact e
theorem pw_and (ha : PT X a tA) (hb : PW X (.BoolOp .And (b :: rest) pos) tB') : PW X (.BoolOp .And (a :: b :: rest) pos) (tAnd tA tB') := by
  intro wh pins s σ H Q I h
  refine isTrue_and (thn (ha pins s σ H _ I h) fun c s1 ⟨H1, I1, q1⟩ => ?_)
  cases c with
  | true => exact hb wh pins s1 σ H1 Q I1 q1
  | false => exact ⟨H1, I1, q1⟩
theorem pw_or (ha : PT X a tA) (hb : PW X (.BoolOp .Or (b :: rest) pos) tB') : PW X (.BoolOp .Or (a :: b :: rest) pos) (tOr tA tB') := by
  intro wh pins s σ H Q I h
  refine isTrue_or (thn (ha pins s σ H _ I h) fun c s1 ⟨H1, I1, q1⟩ => ?_)
  cases c with
  | true => exact ⟨H1, I1, q1⟩
  | false => exact hb wh pins s1 σ H1 Q I1 q1
theorem pt_not (ha : PT X a tA) : PT X (.UnaryOp .Not a pos) (tNot tA) := by
  intro pins s σ H Q I h
  exact isTrue_not (ha pins s σ H (fun c H1 => Q (!c) H1) I h)
/-- .. as values (bools) -/
noncomputable def tAndV (ta tb : TE) : TE := fun σ H Q => ta σ H fun x H1 => Ex1_2 (fun c => x = .bl c) (fun c => if c = true then tb σ H1 Q else Q (.bl false) H1)
noncomputable def tOrV (ta tb : TE) : TE := fun σ H Q => ta σ H fun x H1 => Ex1_2 (fun c => x = .bl c) (fun c => if c = true then Q (.bl true) H1 else tb σ H1 Q)
noncomputable def tNotV (ta : TE) : TE := fun σ H Q => ta σ H fun x H1 => Ex1_2 (fun c => x = .bl c) (fun c => Q (.bl (!c)) H1)
theorem pe_one {op} {t : TE} (h : PE X a t) : PE X (.BoolOp op [a] pos) t := fun pins s σ H Q I hw => BoolOp_one (h pins s σ H Q I hw)
theorem pe_and (ha : PE X a ta) (hb : PE X (.BoolOp .And (b :: rest) pos) tb) : PE X (.BoolOp .And (a :: b :: rest) pos) (tAndV ta tb) := by
  intro pins s σ H Q I h
  refine BoolOp_and (thn (ha pins s σ H _ I h) fun v s1 ⟨x, H1, I1, r1, q1⟩ => ?_)
  obtain ⟨c, rfl, q1⟩ := q1
  cases r1
  refine wpAny_truthy_bool ?_
  cases c with
  | true => exact hb pins s1 σ H1 Q I1 q1
  | false => exact ⟨.bl false, H1, I1, rfl, q1⟩
theorem pe_or (ha : PE X a ta) (hb : PE X (.BoolOp .Or (b :: rest) pos) tb) : PE X (.BoolOp .Or (a :: b :: rest) pos) (tOrV ta tb) := by
  intro pins s σ H Q I h
  refine BoolOp_or (thn (ha pins s σ H _ I h) fun v s1 ⟨x, H1, I1, r1, q1⟩ => ?_)
  obtain ⟨c, rfl, q1⟩ := q1
  cases r1
  refine wpAny_truthy_bool ?_
  cases c with
  | false => exact hb pins s1 σ H1 Q I1 q1
  | true => exact ⟨.bl true, H1, I1, rfl, q1⟩
theorem pe_not (ha : PE X a ta) : PE X (.UnaryOp .Not a pos) (tNotV ta) := by
  intro pins s σ H Q I h
  refine UnaryOp_ (thn (ha pins s σ H _ I h) fun v s1 ⟨x, H1, I1, r1, q1⟩ => ?_)
  obtain ⟨c, rfl, q1⟩ := q1
  cases r1
  exact not_of (wpAny_truthy_bool ⟨.bl (!c), H1, I1, rfl, q1⟩)
/-- a if t else b -/
noncomputable def tIf (t : TT) (ta tb : TE) : TE := fun σ H Q => t σ H fun c H1 => if c = true then ta σ H1 Q else tb σ H1 Q
theorem pe_ifExp {c : Expr} (hc : PT X c tA) (ha : PE X a ta) (hb : PE X b tb) : PE X (.IfExp c a b pos) (tIf tA ta tb) := by
  intro pins s σ H Q I h
  refine wpAny_IfExp (thn (hc pins s σ H _ I h) fun d s1 ⟨H1, I1, q1⟩ => ?_)
  cases d with
  | true => exact ha pins s1 σ H1 Q I1 q1
  | false => exact hb pins s1 σ H1 Q I1 q1
end
end L2

namespace L2
open PySem PySem.Spec PyProof.Rows

/-! ### a list, a tuple that is read: tracked, frozen, or an object of the module -/
noncomputable def SqL (K : PySem.W.Frag) (H : Hp) (a : Addr) (xs : List V) : Prop :=
  Rd H a (.lst xs) ∨
    ∃ (o : Obj) (its : Array Value) (n : Nat), K.lookup a = some o ∧ o.cls = .type "list" ∧ o.dict = none ∧ o.data = .seq its n ∧ its.size ≤ sizeLine ∧ Vals xs its.toList
noncomputable def SqT (K : PySem.W.Frag) (H : Hp) (a : Addr) (xs : List V) : Prop :=
  Rd H a (.tup xs) ∨
    ∃ (o : Obj) (its : Array Value) (n : Nat), K.lookup a = some o ∧ o.cls = .type "tuple" ∧ o.data = .seq its n ∧ its.size ≤ sizeLine ∧ Vals xs its.toList
noncomputable def absV : Value → Option V
  | .none => some .non
  | .bool b => some (.bl b)
  | .int i _ => some (.int i)
  | .str x _ => some (.str x)
  | .bytes b _ => some (.byt b)
  | .float b _ => some (.flt b)
  | .ref a => some (.ref a)
  | .type n => some (.ty n)
  | _ => none
theorem RelV.abs {x : V} {u : Value} (r : RelV x u) : absV u = some x := by
  cases x with
  | non => cases r; rfl
  | bl _ => cases r; rfl
  | int _ => obtain ⟨t, rfl⟩ := r; rfl
  | str _ => obtain ⟨t, rfl⟩ := r; rfl
  | byt _ => obtain ⟨t, rfl⟩ := r; rfl
  | flt _ => obtain ⟨t, rfl⟩ := r; rfl
  | ref _ => cases r; rfl
  | ty _ => cases r; rfl
theorem RelV.inj {x y : V} {u : Value} (r : RelV x u) (q : RelV y u) : x = y := Option.some.inj (r.abs.symm.trans q.abs)
theorem Vals.inj {xs ys : List V} {us : List Value} (h : Vals xs us) (q : Vals ys us) : xs = ys := by
  induction h generalizing ys with
  | nil => cases q; rfl
  | cons r _ ih =>
    cases q with
    | cons r' t' => rw [r.inj r', ih t']
section
variable {X : Cx} {pins : List (Addr × Obj)} {σ : St} {H : Hp} {s : Shared} {a : Addr} {xs ys : List V}
theorem SqL.of {K : PySem.W.Frag} (h : H a = some (.lst xs)) : SqL K H a xs := .inl (.inl h)
theorem SqT.of {K : PySem.W.Frag} (h : H a = some (.tup xs)) : SqT K H a xs := .inl (.inl h)
theorem Inv.list (I : Inv X pins σ H s) (h : SqL X.K H a xs) : ∃ its : List Value, Vals xs its ∧ PlainL s.heap a its.toArray ∧ xs.length ≤ sizeLine := by
  rcases h with h | ⟨o, its, n, hk, hc, hd, hs, hz, r⟩
  · obtain ⟨z, its, n, r, e⟩ := h.ok I.hok
    exact ⟨its, r, ⟨_, n, e, rfl, rfl, rfl⟩, z⟩
  · refine ⟨its.toList, r, ⟨o, n, I.kIn a o hk, hc, hd, by simpa using hs⟩, ?_⟩
    have e := r.length
    simp only [Array.length_toList] at e
    omega
theorem Inv.tuple (I : Inv X pins σ H s) (h : SqT X.K H a xs) : ∃ its : List Value, Vals xs its ∧ IsTup s.heap a its.toArray ∧ xs.length ≤ sizeLine := by
  rcases h with h | ⟨o, its, n, hk, hc, hs, hz, r⟩
  · obtain ⟨z, its, r, p⟩ := h.ok I.hok
    exact ⟨its, r, p, z⟩
  · refine ⟨its.toList, r, ⟨o, I.kIn a o hk, hc, n, by simpa using hs⟩, ?_⟩
    have e := r.length
    simp only [Array.length_toList] at e
    omega
theorem Inv.list_inj (I : Inv X pins σ H s) (h : SqL X.K H a xs) (h' : SqL X.K H a ys) : xs = ys := by
  obtain ⟨its, r, ⟨o, n, e, _, _, d⟩, _⟩ := I.list h
  obtain ⟨its', r', ⟨o', n', e', _, _, d'⟩, _⟩ := I.list h'
  rw [e] at e'; cases e'
  rw [d] at d'
  injection d' with d1 _
  have : its = its' := by simpa using congrArg Array.toList d1
  subst this
  exact r.inj r'
end

/-! ### another wish about exceptions -/
noncomputable abbrev Cx.wish (X : Cx) (E : Value → Shared → Prop) : Cx := { X with xe := E }
/-- no exception leaves -/
noncomputable abbrev Cx.nox (X : Cx) : Cx := X.wish fun _ _ => False
theorem Cx.Ok.wish {X : Cx} (ok : X.Ok) (E : Value → Shared → Prop) : (X.wish E).Ok :=
  ⟨ok.mod, ok.kind, ok.glob, ok.blt, ok.above, ok.inj, ok.has, ok.cab, ok.hd, ok.frames, ok.stk, ok.exf, ok.bs, ok.bsz, ok.noex, ok.exfs, ok.funs, ok.frf⟩
theorem Cx.Ok.unwish {X : Cx} {E : Value → Shared → Prop} (ok : (X.wish E).Ok) : X.Ok :=
  ⟨ok.mod, ok.kind, ok.glob, ok.blt, ok.above, ok.inj, ok.has, ok.cab, ok.hd, ok.frames, ok.stk, ok.exf, ok.bs, ok.bsz, ok.noex, ok.exfs, ok.funs, ok.frf⟩
section
variable {X : Cx} {pins : List (Addr × Obj)} {σ : St} {H : Hp} {s : Shared} {E : Value → Shared → Prop}
theorem Inv.wish (I : Inv X pins σ H s) (E : Value → Shared → Prop) : Inv (X.wish E) pins σ H s := ⟨I.ok.wish E, I.os, I.bare, I.base, I.loc, I.cell, I.free, I.freeC, I.pin, I.hok, I.len⟩
theorem Inv.unwish (I : Inv (X.wish E) pins σ H s) : Inv X pins σ H s := ⟨I.ok.unwish, I.os, I.bare, I.base, I.loc, I.cell, I.free, I.freeC, I.pin, I.hok, I.len⟩
theorem SP.unwish {D : Ends} {f : Flow} {s' : Shared} (h : SP (X.wish E) pins D f s') : SP X pins D f s' := by
  cases f with
  | next => obtain ⟨σ', H', I, q⟩ := h; exact ⟨σ', H', I.unwish, q⟩
  | brk => obtain ⟨σ', H', I, q⟩ := h; exact ⟨σ', H', I.unwish, q⟩
  | cont => obtain ⟨σ', H', I, q⟩ := h; exact ⟨σ', H', I.unwish, q⟩
  | ret u => obtain ⟨v, σ', H', I, r, q⟩ := h; exact ⟨v, σ', H', I.unwish, r, q⟩
theorem PSs.nox {st : List Stmt} {t : TS} (h : PSs X.nox st t) : PSs X st t := fun pins s σ H D I hw =>
  wpAny_mono (h pins s σ H D (I.wish _) hw) (fun _ _ q => q.unwish) fun _ _ z => False.elim z
end

/-! ### blocks and small statements -/
section
variable {X : Cx} {st : Stmt} {rest : List Stmt} {t u : TS} {e : Expr} {te : TE} {pos : Pos}
noncomputable def tNext : TS := fun D σ H => D.nx σ H
noncomputable def tSeq (t u : TS) : TS := fun D σ H => t { D with nx := u D } σ H
theorem pss_nil : PSs X [] tNext := fun _ _ σ H _ I h => wpAny_execs_nil ⟨σ, H, I, h⟩
theorem pss_cons (h1 : PS X st t) (h2 : PSs X rest u) : PSs X (st :: rest) (tSeq t u) := by
  intro pins s σ H D I h
  refine wpAny_execs_cons (thn (h1 pins s σ H { D with nx := u D } I h) fun f s1 q => ?_)
  cases f with
  | next =>
    obtain ⟨σ', H', I', q⟩ := q
    exact h2 pins s1 σ' H' D I' q
  | ret v => exact q
  | brk => exact q
  | cont => exact q
theorem pss_one (h1 : PS X st t) : PSs X [st] t := by
  intro pins s σ H D I h
  refine wpAny_execs_cons (thn (h1 pins s σ H D I h) fun f s1 q => ?_)
  cases f with
  | next => exact wpAny_execs_nil q
  | ret v => exact q
  | brk => exact q
  | cont => exact q
/-- in a def's body nothing is shown -/
theorem Inv.quiet {pins : List (Addr × Obj)} {σ : St} {H : Hp} {s : Shared} (I : Inv X pins σ H s) : interactive X.env = false := by simp [interactive, I.ok.kind]
/-- an expression whose value is dropped -/
noncomputable def tDrop (te : TE) : TS := fun D σ H => te σ H fun _ H1 => D.nx σ H1
theorem ps_expr (he : PE X e te) (hs : swapsWith e none pos.line X.env = pure false := by rfl) : PS X (.Expr e pos) (tDrop te) := by
  intro pins s σ H D I h
  exact wpAny_Expr_any (thn (he pins s σ H _ I h) fun v s1 ⟨x, H1, I1, r1, q1⟩ => ⟨σ, H1, I1, q1⟩) I.quiet hs
noncomputable def tRet (te : TE) : TS := fun D σ H => te σ H D.rt
theorem ps_ret (he : PE X e te) : PS X (.Return (some e) pos) (tRet te) := by
  intro pins s σ H D I h
  exact wpAny_Return_some (thn (he pins s σ H _ I h) fun v s1 ⟨x, H1, I1, r1, q1⟩ => ⟨x, σ, H1, I1, r1, q1⟩)
noncomputable def tIfS (c : TT) (t u : TS) : TS := fun D σ H => c σ H fun b H1 => if b = true then t D σ H1 else u D σ H1
theorem ps_if {c : Expr} {a b : List Stmt} {tc : TT} (hc : PT X c tc) (ha : PSs X a t) (hb : PSs X b u) : PS X (.If c a b pos) (tIfS tc t u) := by
  intro pins s σ H D I h
  refine wpAny_If (thn (hc pins s σ H _ I h) fun d s1 ⟨H1, I1, q1⟩ => ?_)
  cases d with
  | true => exact ha pins s1 σ H1 D I1 q1
  | false => exact hb pins s1 σ H1 D I1 q1
/-- code that the proof never comes to -/
noncomputable def tNever : TS := fun _ _ _ => False
theorem ps_never : PS X st tNever := fun _ _ _ _ _ _ h => h.elim
end

/-! ### targets -/
noncomputable abbrev TG := V → St → Hp → (St → Hp → Prop) → Prop
noncomputable def PG (X : Cx) (target : Expr) (t : TG) : Prop :=
  ∀ (pins : List (Addr × Obj)) (s : Shared) (σ : St) (H : Hp) (v : V) (u : Value) (Q : St → Hp → Prop), Inv X pins σ H s → RelV v u → t v σ H Q →
    wpAny (model X.prog X.w) X.A (assign target X.env u) (fun _ s' => ∃ σ' H', Inv X pins σ' H' s' ∧ Q σ' H') X.xe s
section
variable {X : Cx} {pos : Pos}
noncomputable def gName (i : Nat) : TG := fun v σ H Q => Q (σ.set i (some v)) H
theorem pg_name {i : Nat} {x : Str} (hN : X.N.Nodup) (hi : X.N[i]? = some x) (hx : Loc X.env.scope x) (hf : X.fn x = true ∨ X.env.scope.names.lookup x = some .local := by first | exact .inl rfl | exact .inr rfl | assumption) : PG X (.Name x pos) (gName i) := by
  intro pins s σ H v u Q I r h
  exact wpAny_assign_Name (store_ok I hN hi hx r (fun s' I' => ⟨_, H, I', h⟩) hf)
/-- target = value -/
noncomputable def tAsg (te : TE) (g : TG) : TS := fun D σ H => te σ H fun x H1 => g x σ H1 D.nx
/-- name = value -/
theorem ps_set {i : Nat} {x : Str} {e : Expr} {te : TE} {pos' : Pos} (hN : X.N.Nodup) (hi : X.N[i]? = some x) (hx : Loc X.env.scope x) (he : PE X e te) (hs : swapsWith e (some (.Name x pos')) pos.line X.env = pure false := by rfl) (hf : X.fn x = true ∨ X.env.scope.names.lookup x = some .local := by first | exact .inl rfl | exact .inr rfl | assumption) :
    PS X (.Assign [.Name x pos'] e pos) (tAsg te (gName i)) := by
  intro pins s σ H D I h
  refine wpAny_Assign_Name (thn (he pins s σ H _ I h) fun v s1 ⟨y, H1, I1, r1, q1⟩ => ?_) hs
  exact store_ok I1 hN hi hx r1 (fun s2 I2 => ⟨_, H1, I2, q1⟩) hf
end

/-! ### while -/
section
variable {X : Cx} {pos : Pos}
end

/-! ### what a loop or a comprehension walks -/
/-- at turn i: it yields x (the heap may grow), or it stops -/
structure It where
  go : Nat → Hp → Prop
  yld : Nat → Hp → V → Hp → Prop
  stop : Nat → Hp → Prop
/-- the iterator's own objects may turn: they are not the frame's, not pinned, younger than the entry (or a comprehension's own) -/
noncomputable def FpOk (X : Cx) (pins : List (Addr × Obj)) (H : Hp) (b : Addr) : Prop :=
  H b = none ∧ b ≠ X.env.locals ∧ b ∉ X.fs ∧ (b ∈ X.ex ∨ X.s₀.heap.objs.size ≤ b) ∧ (∀ x c, X.env.cells.lookup x = some c → c ≠ b) ∧ ∀ p ∈ X.pn ++ pins, p.1 ≠ b
theorem Inv.fpOk {X : Cx} {pins : List (Addr × Obj)} {σ : St} {H H' : Hp} {s : Shared} {b : Addr} (I : Inv X pins σ H s) (hb : s.heap.objs.size ≤ b) (hn : H' b = none) : FpOk X pins H' b := by
  refine ⟨hn, Nat.ne_of_gt (Nat.lt_of_lt_of_le I.lt hb), I.nofs hb, .inr (Nat.le_trans I.sz hb), fun x c e z => ?_, fun p hp z => ?_⟩
  · obtain ⟨v, q⟩ := I.cell x c e
    exact absurd (Nat.lt_of_lt_of_le q.lt (by rw [z]; exact hb)) (Nat.lt_irrefl _)
  · exact absurd (Nat.lt_of_lt_of_le (Heap.lt_size (I.pin p hp).1) (by rw [z]; exact hb)) (Nat.lt_irrefl _)
structure Turn (P : Program) (w : World) (K : PySem.W.Frag) (tg : Expr) (J : It) (fp : List Addr) (it : Addr) (tn : Nat → Heap → Prop) : Prop where
  mem : it ∈ fp
  obj : ∀ i h, tn i h → ∀ b ∈ fp, ∃ o, h.get? b = some o ∧ ∀ v, o.data ≠ .cell v
  keep : ∀ i h h', tn i h → (∀ b ∈ fp, ∀ o, h.get? b = some o → h'.get? b = some o) → tn i h'
  item : ∀ (X : Cx), X.prog = P → X.w = w → X.K = K → X.calm = true → ∀ (i : Nat) (pins : List (Addr × Obj)) (s : Shared) (σ : St) (H : Hp) (E : Value → Shared → Prop), Inv X pins σ H s → (∀ b ∈ fp, FpOk X pins H b) → tn i s.heap → J.go i H →
    wpAny (model P w) X.A (pyNext (.ref it)) (fun r s1 => ∃ u, r = some u ∧
      wpAny (model P w) X.A (letOwnedTupleGo tg (.ref it) u) (fun _ s2 => ∃ x H', Inv X pins σ H' s2 ∧ RelV x u ∧ J.yld i H x H' ∧ tn (i + 1) s2.heap ∧ ∀ b ∈ fp, H' b = none) E s1) E s
  done : ∀ (X : Cx), X.prog = P → X.w = w → X.K = K → X.calm = true → ∀ (i : Nat) (pins : List (Addr × Obj)) (s : Shared) (σ : St) (H : Hp) (E : Value → Shared → Prop), Inv X pins σ H s → (∀ b ∈ fp, FpOk X pins H b) → tn i s.heap → J.stop i H →
    wpAny (model P w) X.A (pyNext (.ref it)) (fun r s1 => r = none ∧ Inv X pins σ H s1) E s
  self : ∀ (A : Around) (i : Nat) (s : Shared) (Q : Value → Shared → Prop) (E : Value → Shared → Prop), tn i s.heap → Q (.ref it) s → wpAny (model P w) A (pyIter (.ref it)) Q E s
noncomputable abbrev TI := St → Hp → (It → Hp → Prop) → Prop
/-- an iterator has come -/
noncomputable def PIE (X : Cx) (pins : List (Addr × Obj)) (σ : St) (tg : Expr) (R : It → Hp → Prop) (itv : Value) (s2 : Shared) : Prop :=
  ∃ (it : Addr) (fp : List Addr) (tn : Nat → Heap → Prop) (J : It) (H' : Hp), itv = .ref it ∧ Inv X pins σ H' s2 ∧ Turn X.prog X.w X.K tg J fp it tn ∧ tn 0 s2.heap ∧ (∀ b ∈ fp, FpOk X pins H' b) ∧ R J H'
noncomputable def PI (X : Cx) (tg iter : Expr) (wi : TI) : Prop :=
  ∀ (pins : List (Addr × Obj)) (s : Shared) (σ : St) (H : Hp) (R : It → Hp → Prop), Inv X pins σ H s → wi σ H R →
    wpAny (model X.prog X.w) X.A (eval iter X.env) (fun v s1 => wpAny (model X.prog X.w) X.A (pyIter v) (PIE X pins σ tg R) X.xe s1) X.xe s

/-- the step ahead of the store is nothing for an iterator that keeps no tuple -/
theorem go_of {M : Model} {A : Around} {E : Value → Shared → Prop} {s : Shared} {tg : Expr} {it : Addr} {u : Value} {o : Obj} {n : String} {vs : Array Value} {Q : Unit → Shared → Prop} (ho : s.heap.get? it = some o) (hc : o.cls = .type n) (hd : o.data = .fields vs)
    (hn : ["enumerate", "zip", "dict_itemiterator", "dict_reverseitemiterator", "odict_iterator", "itertools.zip_longest", "itertools.pairwise"].contains n = false) (hQ : Q () s) : wpAny M A (letOwnedTupleGo tg (.ref it) u) Q E s := by
  unfold letOwnedTupleGo
  cases tg <;> first
    | exact wpAny_pure hQ
    | (cases u <;> first
        | exact wpAny_pure hQ
        | (refine wpAny_bind (wpAny_load ho ?_)
           rw [hc, hd]
           show wpAny M A (if (["enumerate", "zip", "dict_itemiterator", "dict_reverseitemiterator", "odict_iterator", "itertools.zip_longest", "itertools.pairwise"].contains n && vs[0]? == some (rawInt _)) = true then _ else _) Q E s
           rw [if_neg (by intro h; rw [hn, Bool.false_and] at h; cases h)]
           exact wpAny_pure hQ))

/-- the list at a, as it stands at each turn (a loop may append to it) -/
noncomputable def Itl (K : PySem.W.Frag) (a : Addr) : It :=
  ⟨fun i H => ∃ xs x, SqL K H a xs ∧ xs[i]? = some x, fun i H x H' => H' = H ∧ ∀ xs, SqL K H a xs → xs[i]? = some x, fun i H => ∃ xs, SqL K H a xs ∧ xs.length ≤ i⟩
/-- lo, lo + 1, .. (n of them) -/
noncomputable def Itr (lo : Int) (n : Nat) : It := ⟨fun i _ => i < n, fun i H x H' => H' = H ∧ x = .int (lo + i), fun i _ => n ≤ i⟩
theorem turn_list {P : Program} {w : World} {K : PySem.W.Frag} {tg : Expr} (a it : Addr) : Turn P w K tg (Itl K a) [it] it (fun i h => h.IsListIter it a i) where
  mem := by simp
  obj := fun i h st b hb => by
    have e : b = it := by simpa using hb
    subst e
    obtain ⟨o, e, c, d⟩ := st
    exact ⟨o, e, fun v z => by rw [d] at z; cases z⟩
  keep := fun i h h' st k => st.at fun o e => k it (by simp) o e
  item := by
    intro X hP hw hK hc i pins s σ H E I hf st hg
    subst hP hw hK
    obtain ⟨xs, x, hq, hx⟩ := hg
    obtain ⟨its, rv, p, hz⟩ := I.list hq
    obtain ⟨u, hu, ru⟩ := rv.get hx
    obtain ⟨f0, f1, f2, f3, f4, f5⟩ := hf it (by simp)
    refine wpAny_pyNext_list_item st p.isList (x := u) (by simpa using hu) fun h' st' sb => ?_
    have I1 : Inv X pins σ H { s with heap := h' } := I.turned (t' := s.toks) (fun b o hb e => (sb.2 b hb).trans e) f0 f1 f3 f4 f5
    obtain ⟨o, e, c, d⟩ := id st'
    exact ⟨u, rfl, go_of (s := { s with heap := h' }) e c d (by decide) ⟨x, H, I1, ru, ⟨rfl, fun ys hy => by rw [I.list_inj hy hq]; exact hx⟩, st', fun b hb => (hf b hb).1⟩⟩
  done := by
    intro X hP hw hK hc i pins s σ H E I hf st hg
    subst hP hw hK
    obtain ⟨xs, hq, hx⟩ := hg
    obtain ⟨its, rv, p, hz⟩ := I.list hq
    obtain ⟨f0, f1, f2, f3, f4, f5⟩ := hf it (by simp)
    have hl := rv.length
    exact wpAny_pyNext_list_end (I.ok.hd hc) st p.isList (by simp; omega) fun h' eb => ⟨rfl, I.turned (t' := s.toks) (fun b o hb e => eb b o hb e) f0 f1 f3 f4 f5⟩
  self := fun _ _ _ _ _ st h => wpAny_pyIter_listiter st h
theorem turn_range {P : Program} {w : World} {K : PySem.W.Frag} {tg : Expr} (it : Addr) (lo : Int) (n : Nat) : Turn P w K tg (Itr lo n) [it] it (fun i h => IsRangeIter h it (lo + (i : Nat) * 1) ((n : Int) - (i : Nat)) 1) where
  mem := by simp
  obj := fun i h st b hb => by
    have e : b = it := by simpa using hb
    subst e
    exact ⟨_, st, fun v z => by
      have z' : Data.fields _ = Data.cell v := z
      cases z'⟩
  keep := fun i h h' st k => k it (by simp) _ st
  item := by
    intro X hP hw hK hc i pins s σ H E I hf st hg
    subst hP hw hK
    obtain ⟨f0, f1, f2, f3, f4, f5⟩ := hf it (by simp)
    have W := Walks.range (prog := X.prog) (w := X.w) (I.ok.hd hc) it lo 1 n
    refine W.item i s _ _ hg st fun v h' tk hv st' kk => ?_
    obtain ⟨t, rfl⟩ := hv
    have I1 : Inv X pins σ H { s with heap := h', toks := tk } := I.turned (fun b o hb e => kk b o (by simpa using hb) e) f0 f1 f3 f4 f5
    refine ⟨_, rfl, go_of (s := { s with heap := h', toks := tk }) (n := "range_iterator") st' rfl rfl (by decide) ⟨.int (lo + i), H, I1, ⟨t, ?_⟩, ⟨rfl, rfl⟩, st', fun b hb => (hf b hb).1⟩⟩
    rw [Int.mul_one]
  done := by
    intro X hP hw hK hc i pins s σ H E I hf st hg
    subst hP hw hK
    obtain ⟨f0, f1, f2, f3, f4, f5⟩ := hf it (by simp)
    exact wpAny_pyNext_range_end (I.ok.hd hc) st (by have : n ≤ i := hg; omega) fun h' eb => ⟨rfl, I.turned (t' := s.toks) (fun b o hb e => eb b o hb e) f0 f1 f3 f4 f5⟩
  self := fun _ _ _ _ _ st h => wpAny_pyIter_rangeiter st h
end L2

namespace L2
open PySem PySem.Spec PyProof.Rows
section
variable {X : Cx} {tg : Expr}
noncomputable def iList (K : PySem.W.Frag) (tl : TE) : TI := fun σ H R => tl σ H fun x H1 => ∃ a, x = .ref a ∧ (∃ xs, SqL K H1 a xs) ∧ R (Itl K a) H1
theorem pi_list {l : Expr} {tl : TE} (hl : PE X l tl) : PI X tg l (iList X.K tl) := by
  intro pins s σ H R I h
  refine thn (hl pins s σ H _ I h) fun v s1 ⟨x, H1, I1, r1, q1⟩ => ?_
  obtain ⟨a, e, ⟨xs, hq⟩, q⟩ := q1
  subst e
  cases r1
  obtain ⟨its, rv, p, hz⟩ := I1.list hq
  refine wpAny_pyIter_list p.isList ?_
  refine ⟨s1.heap.objs.size, [s1.heap.objs.size], _, _, H1, rfl, I1.kept (t' := s1.toks) fun b o e => Heap.get?_push_of_some _ e, turn_list a _, ⟨_, Heap.get?_push_size _ rfl, rfl, rfl⟩, fun b hb => ?_, q⟩
  have e : b = s1.heap.objs.size := by simpa using hb
  subst e
  exact I1.fpOk (Nat.le_refl _) (I1.hok.fresh (Nat.le_refl _))
/-- a range object just made, walked -/
theorem range_it {pins : List (Addr × Obj)} {σ : St} {H : Hp} {s : Shared} {R : It → Hp → Prop} {E : Value → Shared → Prop} {lo hi : Int} {t u v : Tok} {tk : Nat} (I : Inv X pins σ H s) (h1 : -(2 ^ 62) ≤ lo) (h2 : lo < 2 ^ 62) (h3 : -(2 ^ 62) ≤ hi) (h4 : hi < 2 ^ 62)
    (q : R (Itr lo (hi - lo).toNat) H) : wpAny (model X.prog X.w) X.A (pyIter (.ref s.heap.objs.size)) (PIE X pins σ tg R) E { s with heap := s.heap.push { cls := .type "range", data := .fields #[.int lo t, .int hi u, .int 1 v] }, toks := tk } := by
  refine wpAny_pyIter_range (IsRange.new ..) (small_one h1 h2 h3 h4) ?_
  have I1 : Inv X pins σ H { s with heap := s.heap.push { cls := .type "range", data := .fields #[.int lo t, .int hi u, .int 1 v] }, toks := tk } := I.kept fun b o e => Heap.get?_push_of_some _ e
  refine ⟨(s.heap.push { cls := .type "range", data := .fields #[.int lo t, .int hi u, .int 1 v] }).objs.size, [(s.heap.push { cls := .type "range", data := .fields #[.int lo t, .int hi u, .int 1 v] }).objs.size], _, _, H, rfl,
    I1.kept (t' := tk) fun b o e => Heap.get?_push_of_some _ e, turn_range _ lo (hi - lo).toNat, ?_, fun b hb => ?_, q⟩
  · have e1 : lo + ((0 : Nat) : Int) * 1 = lo := by simp
    have e2 : (((hi - lo).toNat : Nat) : Int) - ((0 : Nat) : Int) = Builtin.Range.rangeSize lo hi 1 := by rw [rangeSize_one]; split <;> omega
    show IsRangeIter _ _ (lo + ((0 : Nat) : Int) * 1) ((((hi - lo).toNat : Nat) : Int) - ((0 : Nat) : Int)) 1
    rw [e1, e2]
    exact Heap.get?_push_size _ rfl
  · have e : b = (s.heap.push { cls := .type "range", data := .fields #[.int lo t, .int hi u, .int 1 v] }).objs.size := by simpa using hb
    subst e
    exact I1.fpOk (Nat.le_refl _) (I1.hok.fresh (Nat.le_refl _))
noncomputable def iRng1 (ta : TA) : TI := fun σ H R => ta σ H fun vs H1 => ∃ j : Int, vs = [.int j] ∧ -(2 ^ 62) ≤ j ∧ j < 2 ^ 62 ∧ R (Itr 0 j.toNat) H1
theorem pi_range1 {a : Expr} {ta : TA} {p pos : Pos} (hg : Gl X "range") (hm : X.mg "range" = none) (ha : PA X [a] ta) (hs : starEach [a] X.env = [(false, eval a X.env)] := by rfl) : PI X tg (.Call (.Name "range" p) [a] [] pos) (iRng1 ta) := by
  intro pins s σ H R I h
  refine Call_ (ld_blt I hg hm boot_range (PyProof.Rows.callWith_type1 (thn (ha pos pins s σ H _ I h) fun us s1 ⟨vs, H1, I1, r1, q1⟩ => ?_) hs rfl))
  obtain ⟨j, e, q1, q2, q⟩ := q1
  subst e
  cases r1 with
  | cons r rr =>
    cases rr
    obtain ⟨t, rfl⟩ := r
    exact call_range_1 (range_it I1 (by omega) (by omega) q1 q2 (by simpa using q))
/-! ### for -/
/-- W: the invariant by the turn and a measure; N: what the body is to reach -/
noncomputable def tFor (wi : TI) (g : TG) (tb : TS) : TS := fun D σ H => wi σ H fun J H1 => ∃ W : Nat → Nat → St → Hp → Prop, (∃ m, W 0 m σ H1) ∧ ∀ i m σ H, W i m σ H →
  (J.stop i H ∧ D.nx σ H) ∨ (J.go i H ∧ ∃ N : St → Hp → Prop, (∀ σ' H', N σ' H' → ∃ m', m' < m ∧ W (i + 1) m' σ' H') ∧ ∀ x H', J.yld i H x H' → g x σ H' fun σ2 H2 => tb { D with nx := N, ct := N, bk := D.nx } σ2 H2)
/-- the records at fp as they stand -/
noncomputable def pinsAt (fp : List Addr) (h : Heap) : List (Addr × Obj) := fp.filterMap fun b => (h.get? b).map fun o => (b, o)
theorem mem_pinsAt {fp : List Addr} {h : Heap} {b : Addr} {o : Obj} (hb : b ∈ fp) (e : h.get? b = some o) : (b, o) ∈ pinsAt fp h := List.mem_filterMap.mpr ⟨b, hb, by rw [e]; rfl⟩
theorem of_pinsAt {fp : List Addr} {h : Heap} {p : Addr × Obj} (hp : p ∈ pinsAt fp h) : p.1 ∈ fp ∧ h.get? p.1 = some p.2 := by
  obtain ⟨b, hb, e⟩ := List.mem_filterMap.mp hp
  cases q : h.get? b with
  | none => rw [q] at e; cases e
  | some o =>
    rw [q] at e
    have e' : (b, o) = p := Option.some.inj e
    subst e'
    exact ⟨hb, q⟩
theorem Inv.pinned {pins : List (Addr × Obj)} {σ : St} {H : Hp} {s : Shared} {fp : List Addr} (I : Inv X pins σ H s) (hf : ∀ b ∈ fp, FpOk X pins H b) (ho : ∀ b ∈ fp, ∃ o, s.heap.get? b = some o ∧ ∀ v, o.data ≠ .cell v) : Inv X (pins ++ pinsAt fp s.heap) σ H s :=
  I.pins_of fun p hp => (List.mem_append.mp hp).elim (fun z => I.pin p (List.mem_append_right _ z)) fun z => by
    obtain ⟨hb, e⟩ := of_pinsAt z
    obtain ⟨f0, f1, f2, _⟩ := hf p.1 hb
    obtain ⟨o, e', d⟩ := ho p.1 hb
    rw [e] at e'; cases e'
    exact ⟨e, f0, f1, f2, d⟩
theorem Inv.unpinned {pins pl : List (Addr × Obj)} {σ : St} {H : Hp} {s : Shared} (I : Inv X (pins ++ pl) σ H s) : Inv X pins σ H s := I.pins_of fun p hp => I.pin p (List.mem_append_right _ (List.mem_append_left _ hp))
theorem ps_for {iter : Expr} {body : List Stmt} {wi : TI} {g : TG} {tb : TS} {pos : Pos} (hp : PassesOwn (model X.prog X.w) X.A X.env X.xe) (hc : X.calm = true) (hi : PI X tg iter wi) (hg : PG X tg g) (hb : PSs X body tb)
    (hs : ∀ x, foldedSetIterable iter X.env x = pure x := by intro _; rfl) : PS X (.For tg iter body [] pos) (tFor wi g tb) := by
  intro pins s σ H D I h
  refine wpAny_For (thn (hi pins s σ H _ I h) fun v s1 h1 => thn h1 fun itv s2 h2 => ?_) hs
  obtain ⟨it, fp, tn, J, H2, e, I2, T, st2, f2, W, ⟨m0, w0⟩, turn⟩ := h2
  subst e
  -- what stays true of the iterator's objects through the loop
  have stat : ∀ {H' : Hp}, (∀ b ∈ fp, H' b = none) → ∀ b ∈ fp, FpOk X pins H' b := fun hn b hb => ⟨hn b hb, (f2 b hb).2⟩
  refine codeAny_forLoop_any (fun n s' => ∃ i σ' H', Inv X pins σ' H' s' ∧ tn i s'.heap ∧ (∀ b ∈ fp, H' b = none) ∧ W i n σ' H') ?_ m0 ⟨0, σ, H2, I2, st2, fun b hb => (f2 b hb).1, w0⟩
  rintro n s3 ⟨i, σ3, H3, I3, st3, fr3, w3⟩
  rcases turn i n σ3 H3 w3 with ⟨stop, qn⟩ | ⟨go, N, hN, step⟩
  · refine wpAny_passesOwn hp (thn (T.done X rfl rfl rfl hc i pins s3 σ3 H3 X.xe I3 (stat fr3) st3 stop) fun r s4 ⟨hr, I4⟩ => ?_)
    subst hr
    exact wpAny_execs_nil ⟨σ3, H3, I4, qn⟩
  · refine wpAny_passesOwn hp (thn (T.item X rfl rfl rfl hc i pins s3 σ3 H3 X.xe I3 (stat fr3) st3 go) fun r s4 ⟨u, hr, h4⟩ => ?_)
    subst hr
    refine wpAny_passesOwn hp (thn h4 fun _ s5 ⟨x, H5, I5, r5, y5, st5, fr5⟩ => ?_)
    have I5' := I5.pinned (stat fr5) (T.obj _ _ st5)
    refine wpAny_passesOwn hp (thn (hg _ s5 σ3 H5 x u _ I5' r5 (step x H5 y5)) fun _ s6 ⟨σ6, H6, I6, q6⟩ => ?_)
    refine wpAny_passesOwn hp (thn (hb _ s6 σ6 H6 _ I6 q6) fun f s7 q7 => ?_)
    have again : ∀ {σ7 : St} {H7 : Hp}, Inv X (pins ++ pinsAt fp s5.heap) σ7 H7 s7 → N σ7 H7 → ∃ m, m < n ∧ ∃ i σ' H', Inv X pins σ' H' s7 ∧ tn i s7.heap ∧ (∀ b ∈ fp, H' b = none) ∧ W i m σ' H' := fun {σ7 H7} I7 n7 => by
      obtain ⟨m', hm, w7⟩ := hN σ7 H7 n7
      refine ⟨m', hm, i + 1, σ7, H7, I7.unpinned, T.keep _ _ _ st5 fun b hb o e => (I7.pin (b, o) (List.mem_append_right _ (List.mem_append_right _ (mem_pinsAt hb e)))).1, fun b hb => ?_, w7⟩
      obtain ⟨o, e, d⟩ := T.obj _ _ st5 b hb
      exact (I7.pin (b, o) (List.mem_append_right _ (List.mem_append_right _ (mem_pinsAt hb e)))).2.1
    cases f with
    | next => obtain ⟨σ7, H7, I7, n7⟩ := q7; exact again I7 n7
    | cont => obtain ⟨σ7, H7, I7, n7⟩ := q7; exact again I7 n7
    | brk => obtain ⟨σ7, H7, I7, q7⟩ := q7; exact ⟨σ7, H7, I7.unpinned, q7⟩
    | ret v => obtain ⟨x7, σ7, H7, I7, r7, q7⟩ := q7; exact ⟨x7, σ7, H7, I7.unpinned, r7, q7⟩
end

/-! ### the forms one uses -/
/-- over a list that the body leaves as it is -/
theorem for_list {K : PySem.W.Frag} {a : Addr} {xs : List V} {g : TG} {tb : TS} {D : Ends} {σ : St} {H : Hp} (Pv : Nat → St → Hp → Prop) (h0 : Pv 0 σ H) (hl : ∀ i σ H, i ≤ xs.length → Pv i σ H → SqL K H a xs)
    (hs : ∀ i x σ H, xs[i]? = some x → Pv i σ H → g x σ H fun σ2 H2 => tb { D with nx := Pv (i + 1), ct := Pv (i + 1), bk := D.nx } σ2 H2) (hd : ∀ σ H, Pv xs.length σ H → D.nx σ H) :
    ∃ W : Nat → Nat → St → Hp → Prop, (∃ m, W 0 m σ H) ∧ ∀ i m σ H, W i m σ H →
      ((Itl K a).stop i H ∧ D.nx σ H) ∨ ((Itl K a).go i H ∧ ∃ N : St → Hp → Prop, (∀ σ' H', N σ' H' → ∃ m', m' < m ∧ W (i + 1) m' σ' H') ∧ ∀ x H', (Itl K a).yld i H x H' → g x σ H' fun σ2 H2 => tb { D with nx := N, ct := N, bk := D.nx } σ2 H2) := by
  refine ⟨fun i m σ H => m = xs.length - i ∧ i ≤ xs.length ∧ Pv i σ H, ⟨xs.length, by simp, Nat.zero_le _, h0⟩, ?_⟩
  rintro i m σ H ⟨rfl, hi, p⟩
  have q := hl i σ H hi p
  by_cases hlt : i < xs.length
  · refine .inr ⟨⟨xs, xs[i], q, by simp [hlt]⟩, Pv (i + 1), fun σ' H' p' => ⟨xs.length - (i + 1), by omega, rfl, hlt, p'⟩, fun x H' y => ?_⟩
    obtain ⟨e, y⟩ := y
    subst e
    exact hs i x σ _ (y xs q) p
  · have e : i = xs.length := by omega
    subst e
    exact .inl ⟨⟨xs, q, Nat.le_refl _⟩, hd σ H p⟩
theorem for_range {lo : Int} {n : Nat} {g : TG} {tb : TS} {D : Ends} {σ : St} {H : Hp} (Pv : Nat → St → Hp → Prop) (h0 : Pv 0 σ H)
    (hs : ∀ i σ H, i < n → Pv i σ H → g (.int (lo + i)) σ H fun σ2 H2 => tb { D with nx := Pv (i + 1), ct := Pv (i + 1), bk := D.nx } σ2 H2) (hd : ∀ σ H, Pv n σ H → D.nx σ H) :
    ∃ W : Nat → Nat → St → Hp → Prop, (∃ m, W 0 m σ H) ∧ ∀ i m σ H, W i m σ H →
      ((Itr lo n).stop i H ∧ D.nx σ H) ∨ ((Itr lo n).go i H ∧ ∃ N : St → Hp → Prop, (∀ σ' H', N σ' H' → ∃ m', m' < m ∧ W (i + 1) m' σ' H') ∧ ∀ x H', (Itr lo n).yld i H x H' → g x σ H' fun σ2 H2 => tb { D with nx := N, ct := N, bk := D.nx } σ2 H2) := by
  refine ⟨fun i m σ H => m = n - i ∧ i ≤ n ∧ Pv i σ H, ⟨n, by simp, Nat.zero_le _, h0⟩, ?_⟩
  rintro i m σ H ⟨rfl, hi, p⟩
  by_cases hlt : i < n
  · refine .inr ⟨hlt, Pv (i + 1), fun σ' H' p' => ⟨n - (i + 1), by omega, rfl, hlt, p'⟩, fun x H' y => ?_⟩
    obtain ⟨e, y⟩ := y
    subst e y
    exact hs i σ _ hlt p
  · have e : i = n := by omega
    subst e
    exact .inl ⟨Nat.le_refl _, hd σ H p⟩
end L2

namespace L2
open PySem PySem.Spec PyProof.Rows

noncomputable abbrev R2 := V → V → Hp → VK → Prop
/-- a two-place operation on values: f is binaryOp op, inplaceOp op or compareOp op -/
noncomputable def OpR (X : Cx) (f : Value → Value → Sem Value) (r : R2) : Prop :=
  ∀ (pins : List (Addr × Obj)) (s : Shared) (σ : St) (H : Hp) (x y : V) (v u : Value) (Q : VK), Inv X pins σ H s → RelV x v → RelV y u → r x y H Q →
    wpAny (model X.prog X.w) X.A (f v u) (EP X pins σ Q) X.xe s
/-- a one-place operation -/
noncomputable def UnR (X : Cx) (f : Value → Sem Value) (r : V → Hp → VK → Prop) : Prop :=
  ∀ (pins : List (Addr × Obj)) (s : Shared) (σ : St) (H : Hp) (x : V) (v : Value) (Q : VK), Inv X pins σ H s → RelV x v → r x H Q →
    wpAny (model X.prog X.w) X.A (f v) (EP X pins σ Q) X.xe s
/-- a call of a value that is known (a builtin, a type) with values -/
noncomputable def CallR (X : Cx) (f : Value) (r : List V → Hp → VK → Prop) : Prop :=
  ∀ (pins : List (Addr × Obj)) (s : Shared) (σ : St) (H : Hp) (xs : List V) (us : List Value) (Q : VK), Inv X pins σ H s → Vals xs us → r xs H Q →
    wpAny (model X.prog X.w) X.A (call f us) (EP X pins σ Q) X.xe s
noncomputable def tOp (r : R2) (ta tb : TE) : TE := fun σ H Q => ta σ H fun x H1 => tb σ H1 fun y H2 => r x y H2 Q
noncomputable def tUn (r : V → Hp → VK → Prop) (ta : TE) : TE := fun σ H Q => ta σ H fun x H1 => r x H1 Q
/-- ints in, under C, and a value out -/
noncomputable def rI (C : Int → Int → Prop) (g : Int → Int → V) : R2 := fun x y H Q => Ex2_4 (fun i j => x = .int i) (fun i j => y = .int j) (fun i j => C i j) (fun i j => Q (g i j) H)
noncomputable def rI0 (g : Int → Int → V) : R2 := fun x y H Q => Ex2_3 (fun i j => x = .int i) (fun i j => y = .int j) (fun i j => Q (g i j) H)
noncomputable def rU (g : Int → V) : V → Hp → VK → Prop := fun x H Q => Ex1_2 (fun i => x = .int i) (fun i => Q (g i) H)

section
variable {X : Cx} {a b c : Expr} {ta tb tc : TE} {pos : Pos}

theorem binT (ha : PE X a ta) (hb : PE X b tb) {pins : List (Addr × Obj)} {s : Shared} {σ : St} {H : Hp} {R : V → V → Hp → Prop} (I : Inv X pins σ H s)
    (h : ta σ H fun x H1 => tb σ H1 fun y H2 => R x y H2) {Q : Value → Shared → Prop} {f : Value → Value → Sem Value}
    (hf : ∀ v u s2 x y H2, Inv X pins σ H2 s2 → RelV x v → RelV y u → R x y H2 → wpAny (model X.prog X.w) X.A (f v u) Q X.xe s2) :
    wpAny (model X.prog X.w) X.A (eval a X.env) (fun v s₁ => wpAny (model X.prog X.w) X.A (eval b X.env) (fun u s₂ => wpAny (model X.prog X.w) X.A (f v u) Q X.xe s₂) X.xe s₁) X.xe s := by
  refine thn (ha pins s σ H _ I h) fun v s1 ⟨x, H1, I1, r1, q1⟩ => ?_
  refine thn (hb pins s1 σ H1 _ I1 q1) fun u s2 ⟨y, H2, I2, r2, q2⟩ => ?_
  exact hf v u s2 x y H2 I2 r1 r2 q2

theorem pe_op {op : Operator} {r : R2} (ho : OpR X (binaryOp op) r) (ha : PE X a ta) (hb : PE X b tb) : PE X (.BinOp a op b pos) (tOp r ta tb) := by
  intro pins s σ H Q I h
  exact wpAny_BinOp (binT ha hb I h fun v u s2 x y H2 I2 rx ry q => ho pins s2 σ H2 x y v u Q I2 rx ry q)
theorem pe_un {op : UnaryOp} {r : V → Hp → VK → Prop} (ho : UnR X (unaryOp op) r) (ha : PE X a ta) : PE X (.UnaryOp op a pos) (tUn r ta) := by
  intro pins s σ H Q I h
  exact UnaryOp_ (thn (ha pins s σ H _ I h) fun v s1 ⟨x, H1, I1, r1, q1⟩ => ho pins s1 σ H1 x v Q I1 r1 q1)
/-! ### ints -/
theorem opI {f : Value → Value → Sem Value} {C : Int → Int → Prop} {g : Int → Int → Int}
    (rule : ∀ (i j : Int) (t u : Tok) (s : Shared) (Q : Value → Shared → Prop) (E : Value → Shared → Prop), C i j → Q (.int (g i j) s.toks) { s with toks := s.toks + 1 } → wpAny (model X.prog X.w) X.A (f (.int i t) (.int j u)) Q E s) :
    OpR X f (rI C fun i j => .int (g i j)) := by
  intro pins s σ H x y v u Q I rx ry h
  obtain ⟨i, j, rfl, rfl, hc, q⟩ := h
  obtain ⟨t, rfl⟩ := rx
  obtain ⟨t', rfl⟩ := ry
  exact rule i j t t' s _ _ hc ⟨.int (g i j), H, I.tok _, ⟨_, rfl⟩, q⟩
theorem opI0 {f : Value → Value → Sem Value} {g : Int → Int → Int}
    (rule : ∀ (i j : Int) (t u : Tok) (s : Shared) (Q : Value → Shared → Prop) (E : Value → Shared → Prop), Q (.int (g i j) s.toks) { s with toks := s.toks + 1 } → wpAny (model X.prog X.w) X.A (f (.int i t) (.int j u)) Q E s) :
    OpR X f (rI0 fun i j => .int (g i j)) := by
  intro pins s σ H x y v u Q I rx ry h
  obtain ⟨i, j, rfl, rfl, q⟩ := h
  obtain ⟨t, rfl⟩ := rx
  obtain ⟨t', rfl⟩ := ry
  exact rule i j t t' s _ _ ⟨.int (g i j), H, I.tok _, ⟨_, rfl⟩, q⟩
theorem opB0 {f : Value → Value → Sem Value} {g : Int → Int → Bool}
    (rule : ∀ (i j : Int) (t u : Tok) (s : Shared) (Q : Value → Shared → Prop) (E : Value → Shared → Prop), Q (.bool (g i j)) s → wpAny (model X.prog X.w) X.A (f (.int i t) (.int j u)) Q E s) :
    OpR X f (rI0 fun i j => .bl (g i j)) := by
  intro pins s σ H x y v u Q I rx ry h
  obtain ⟨i, j, rfl, rfl, q⟩ := h
  obtain ⟨t, rfl⟩ := rx
  obtain ⟨t', rfl⟩ := ry
  exact rule i j t t' s _ _ ⟨.bl (g i j), H, I, rfl, q⟩

noncomputable def CDiv (i j : Int) : Prop := 0 < j ∧ j < 1073741824
noncomputable def CMul (i j : Int) : Prop := (-(2 ^ 64) < i ∧ i < 2 ^ 64) ∨ (-(2 ^ 64) < j ∧ j < 2 ^ 64)
theorem CMul.ok {i j : Int} (h : CMul i j) : IntMulOk i j := by
  rcases h with ⟨h1, h2⟩ | ⟨h1, h2⟩
  · exact .of_left (intBits_le_64 h1 h2)
  · exact .of_right (intBits_le_64 h1 h2)
theorem op_add : OpR X (binaryOp .Add) (rI0 fun i j => .int (i + j)) := opI0 fun _ _ _ _ _ _ _ q => add_int q
theorem op_mul : OpR X (binaryOp .Mult) (rI CMul fun i j => .int (i * j)) := opI fun _ _ _ _ _ _ _ hc q => mul_int q hc.ok
/-- // by a positive divisor -/
theorem op_fdiv : OpR X (binaryOp .FloorDiv) (rI CDiv fun i j => .int (i / j)) := opI fun i j _ _ _ _ _ hc q => by
  have h1 : (0 : Int) < j := hc.1
  have h2 : j < 1073741824 := hc.2
  exact floordiv_int (by omega) (by rw [Int.fdiv_eq_ediv_of_nonneg i (by omega)]; exact q) (.inl (PyProof.noPylong_small (by omega)))
/-- % by a positive divisor of any size -/
theorem op_mod : OpR X (binaryOp .Mod) (rI (fun _ j => 0 < j) fun i j => .int (i % j)) := opI fun i j _ _ _ _ _ hc q => by
  have h1 : (0 : Int) < j := hc
  exact mod_int' (by omega) (by rw [Int.fmod_eq_emod_of_nonneg i (by omega)]; exact q)
theorem unI {f : Value → Sem Value} {g : Int → Int}
    (rule : ∀ (i : Int) (t : Tok) (s : Shared) (Q : Value → Shared → Prop) (E : Value → Shared → Prop), Q (.int (g i) s.toks) { s with toks := s.toks + 1 } → wpAny (model X.prog X.w) X.A (f (.int i t)) Q E s) :
    UnR X f (rU fun i => .int (g i)) := by
  intro pins s σ H x v Q I rx h
  obtain ⟨i, rfl, q⟩ := h
  obtain ⟨t, rfl⟩ := rx
  exact rule i t s _ _ ⟨.int (g i), H, I.tok _, ⟨_, rfl⟩, q⟩
theorem un_neg : UnR X (unaryOp .USub) (rU fun i => .int (-i)) := unI fun _ _ _ _ _ q => neg_int q
end

/-! ### comparisons -/
/-- the scalars that == tells apart as data does -/
noncomputable def scal : V → V → Bool
  | .non, .non => true | .non, .int _ => true | .int _, .non => true | .non, .bl _ => true | .bl _, .non => true | .non, .str _ => true | .str _, .non => true
  | .int _, .int _ => true | .bl _, .bl _ => true | .str _, .str _ => true | .byt _, .byt _ => true
  | .int _, .str _ => true | .str _, .int _ => true | .bl _, .str _ => true | .str _, .bl _ => true
  | _, _ => false
noncomputable def rEq : R2 := fun x y H Q => scal x y = true ∧ Q (.bl (decide (x = y))) H
noncomputable def rNe : R2 := fun x y H Q => scal x y = true ∧ Q (.bl (!decide (x = y))) H

theorem dec_int {i j : Int} : decide (V.int i = V.int j) = (i == j) := by
  rw [Bool.eq_iff_iff]
  simp
theorem dec_bl {i j : Bool} : decide (V.bl i = V.bl j) = (i == j) := by
  rw [Bool.eq_iff_iff]
  simp
theorem dec_str {i j : Str} : decide (V.str i = V.str j) = (i == j) := by
  rw [Bool.eq_iff_iff]
  simp
theorem dec_byt {i j : Array UInt8} : decide (V.byt i = V.byt j) = (i.toList == j.toList) := by
  rw [Bool.eq_iff_iff]
  cases i
  cases j
  simp

section
variable {X : Cx} {a b c : Expr} {ta tb tc : TE} {pos : Pos}
theorem fin_bl {pins : List (Addr × Obj)} {σ : St} {H : Hp} {s : Shared} {Q : VK} {k k' : Bool} (I : Inv X pins σ H s) (q : Q (.bl k) H) (e : k = k') : EP X pins σ Q (.bool k') s := by
  subst e
  exact ⟨.bl k, H, I, rfl, q⟩
theorem op_eq : OpR X (compareOp .Eq) rEq := by
  intro pins s σ H x y v u Q I rx ry h
  obtain ⟨hs, q⟩ := h
  cases x with
  | non =>
    cases rx
    cases y with
    | non => cases ry; exact PySem.EqNone.eq_none_none (fin_bl I q (by simp))
    | bl j => cases ry; exact PySem.EqNone.eq_none_bool (fin_bl I q (by simp))
    | int j => obtain ⟨t', rfl⟩ := ry; exact PySem.EqNone.eq_none_int (fin_bl I q (by simp))
    | str j => obtain ⟨t', rfl⟩ := ry; exact PySem.EqNone.eq_none_str (fin_bl I q (by simp))
    | _ => exact absurd (show false = true from hs) Bool.false_ne_true
  | bl i =>
    cases rx
    cases y with
    | non => cases ry; exact PySem.EqNone.eq_bool_none (fin_bl I q (by simp))
    | bl j => cases ry; exact eq_bool (fin_bl I q dec_bl)
    | str j => obtain ⟨t', rfl⟩ := ry; exact PySem.EqMixed.eq_bool_str (fin_bl I q (by simp))
    | _ => exact absurd (show false = true from hs) Bool.false_ne_true
  | int i =>
    obtain ⟨t, rfl⟩ := rx
    cases y with
    | non => cases ry; exact PySem.EqNone.eq_int_none (fin_bl I q (by simp))
    | int j => obtain ⟨t', rfl⟩ := ry; exact eq_int (fin_bl I q dec_int)
    | str j => obtain ⟨t', rfl⟩ := ry; exact PySem.EqMixed.eq_int_str (fin_bl I q (by simp))
    | _ => exact absurd (show false = true from hs) Bool.false_ne_true
  | str i =>
    obtain ⟨t, rfl⟩ := rx
    cases y with
    | non => cases ry; exact PySem.EqNone.eq_str_none (fin_bl I q (by simp))
    | bl j => cases ry; exact PySem.EqMixed.eq_str_bool (fin_bl I q (by simp))
    | int j => obtain ⟨t', rfl⟩ := ry; exact PySem.EqMixed.eq_str_int (fin_bl I q (by simp))
    | str j => obtain ⟨t', rfl⟩ := ry; exact eq_str (fin_bl I q dec_str)
    | _ => exact absurd (show false = true from hs) Bool.false_ne_true
  | byt i =>
    obtain ⟨t, rfl⟩ := rx
    cases y with
    | byt j => obtain ⟨t', rfl⟩ := ry; exact PySem.W.eq_bytes (fin_bl I q dec_byt)
    | _ => exact absurd (show false = true from hs) Bool.false_ne_true
  | _ => cases y <;> exact absurd (show false = true from hs) Bool.false_ne_true
theorem op_ne : OpR X (compareOp .NotEq) rNe := by
  intro pins s σ H x y v u Q I rx ry h
  obtain ⟨hs, q⟩ := h
  cases x with
  | non =>
    cases rx
    cases y with
    | non => cases ry; exact PySem.EqNone.ne_none_none (fin_bl I q (by simp))
    | bl j => cases ry; exact PySem.EqNone.ne_none_bool (fin_bl I q (by simp))
    | int j => obtain ⟨t', rfl⟩ := ry; exact PySem.EqNone.ne_none_int (fin_bl I q (by simp))
    | str j => obtain ⟨t', rfl⟩ := ry; exact PySem.EqNone.ne_none_str (fin_bl I q (by simp))
    | _ => exact absurd (show false = true from hs) Bool.false_ne_true
  | bl i =>
    cases rx
    cases y with
    | non => cases ry; exact PySem.EqNone.ne_bool_none (fin_bl I q (by simp))
    | bl j => cases ry; exact ne_bool (fin_bl I q (congrArg not dec_bl))
    | str j => obtain ⟨t', rfl⟩ := ry; exact PySem.EqMixed.ne_bool_str (fin_bl I q (by simp))
    | _ => exact absurd (show false = true from hs) Bool.false_ne_true
  | int i =>
    obtain ⟨t, rfl⟩ := rx
    cases y with
    | non => cases ry; exact PySem.EqNone.ne_int_none (fin_bl I q (by simp))
    | int j => obtain ⟨t', rfl⟩ := ry; exact ne_int (fin_bl I q (congrArg not dec_int))
    | str j => obtain ⟨t', rfl⟩ := ry; exact PySem.EqMixed.ne_int_str (fin_bl I q (by simp))
    | _ => exact absurd (show false = true from hs) Bool.false_ne_true
  | str i =>
    obtain ⟨t, rfl⟩ := rx
    cases y with
    | non => cases ry; exact PySem.EqNone.ne_str_none (fin_bl I q (by simp))
    | bl j => cases ry; exact PySem.EqMixed.ne_str_bool (fin_bl I q (by simp))
    | int j => obtain ⟨t', rfl⟩ := ry; exact PySem.EqMixed.ne_str_int (fin_bl I q (by simp))
    | str j => obtain ⟨t', rfl⟩ := ry; exact ne_str (fin_bl I q (congrArg not dec_str))
    | _ => exact absurd (show false = true from hs) Bool.false_ne_true
  | byt i =>
    obtain ⟨t, rfl⟩ := rx
    cases y with
    | byt j => obtain ⟨t', rfl⟩ := ry; exact PySem.W.ne_bytes (fin_bl I q (congrArg not dec_byt))
    | _ => exact absurd (show false = true from hs) Bool.false_ne_true
  | _ => cases y <;> exact absurd (show false = true from hs) Bool.false_ne_true

theorem op_lt : OpR X (compareOp .Lt) (rI0 fun i j => .bl (decide (i < j))) := opB0 fun _ _ _ _ _ _ _ q => lt_int q
theorem op_gt : OpR X (compareOp .Gt) (rI0 fun i j => .bl (decide (j < i))) := opB0 fun _ _ _ _ _ _ _ q => gt_int q
/-- the one string within the other -/
theorem op_in_str : OpR X (compareOp .In) (fun x y H Q => ∃ i j, x = .str i ∧ y = .str j ∧ Q (.bl (!(Builtin.Str.occurrences j i 0 j.length 1).isEmpty)) H) := by
  intro pins s σ H x y v u Q I rx ry h
  obtain ⟨i, j, rfl, rfl, q⟩ := h
  obtain ⟨t, rfl⟩ := rx
  obtain ⟨t', rfl⟩ := ry
  exact in_str (fin_bl I q rfl)

theorem op_notin_str : OpR X (compareOp .NotIn) (fun x y H Q => ∃ i j, x = .str i ∧ y = .str j ∧ Q (.bl (!(!(Builtin.Str.occurrences j i 0 j.length 1).isEmpty))) H) := by
  intro pins s σ H x y v u Q I rx ry h
  obtain ⟨i, j, rfl, rfl, q⟩ := h
  obtain ⟨t, rfl⟩ := rx
  obtain ⟨t', rfl⟩ := ry
  exact notIn_str (fin_bl I q rfl)
theorem nomark (b : Expr) {op : CmpOp} (h : op ≠ .In := by decide) (h2 : op ≠ .NotIn := by decide) : behindInMarks op b = false := by
  have e1 : (op == CmpOp.In) = false := by cases op <;> first | rfl | exact absurd rfl h
  have e2 : (op == CmpOp.NotIn) = false := by cases op <;> first | rfl | exact absurd rfl h2
  cases b <;> simp [behindInMarks, e1, e2]
/-- a comparison as a value; hm: nomark b, or (for in, not in) by with_unfolding_all rfl -/
theorem pe_cmpR {op : CmpOp} {r : R2} (ho : OpR X (compareOp op) r) (ha : PE X a ta) (hb : PE X b tb) (hm : behindInMarks op b = false) : PE X (.Compare a [op] [b] pos) (tOp r ta tb) := by
  intro pins s σ H Q I h
  exact wpAny_Compare1 (binT ha hb I h fun v u s2 x y H2 I2 rx ry q => ho pins s2 σ H2 x y v u Q I2 rx ry q) hm
/-- a reading of a value as a test -/
noncomputable def tTest (t : TE) : TT := fun σ H Q => t σ H fun x H' => Ex1_2 (fun k => x = .bl k) (fun k => Q k H')
theorem pt_cmpR {op : CmpOp} {r : R2} (ho : OpR X (compareOp op) r) (ha : PE X a ta) (hb : PE X b tb) (hm : behindInMarks op b = false) : PT X (.Compare a [op] [b] pos) (tTest (tOp r ta tb)) := by
  intro pins s σ H Q I h
  refine wpAny_isTrue_Compare1 (thn (ha pins s σ H _ I h) fun v s1 ⟨x, H1, I1, r1, q1⟩ => thn (hb pins s1 σ H1 _ I1 q1) fun u s2 ⟨y, H2, I2, r2, q2⟩ =>
    thn (ho pins s2 σ H2 x y v u _ I2 r1 r2 q2) fun c s3 ⟨z, H3, I3, r3, k, e, q3⟩ => ?_) hm
  subst e
  cases r3
  exact wpAny_truthy_bool ⟨H3, I3, q3⟩
theorem line63 : (sizeLine : Nat) < 2 ^ 63 := by rw [sizeLine_eq]; decide
theorem op_add_str : OpR X (binaryOp .Add) (fun x y H Q => ∃ i j, x = .str i ∧ y = .str j ∧ i.length + j.length ≤ sizeLine ∧ Q (.str (i ++ j)) H) := by
  intro pins s σ H x y v u Q I rx ry h
  obtain ⟨i, j, rfl, rfl, hz, q⟩ := h
  obtain ⟨t, rfl⟩ := rx
  obtain ⟨t', rfl⟩ := ry
  exact add_str (fun t' tk => ⟨.str (i ++ j), H, I.tok _, ⟨_, rfl⟩, q⟩) hz
/-! ### scalar builtins, by CallR -/
theorem vals1 {x : V} {us : List Value} (r : Vals [x] us) : ∃ u, us = [u] ∧ RelV x u := by
  cases r with
  | cons r1 r2 => cases r2; exact ⟨_, rfl, r1⟩
theorem vals2 {x y : V} {us : List Value} (r : Vals [x, y] us) : ∃ u w', us = [u, w'] ∧ RelV x u ∧ RelV y w' := by
  cases r with
  | cons r1 r2 =>
    cases r2 with
    | cons r3 r4 => cases r4; exact ⟨_, _, rfl, r1, r3⟩
end
end L2

namespace L2
open PySem PySem.Spec PyProof.Rows

/-! ### an instance, its attributes a map -/
structure ObjM (h : Heap) (x dx C : Addr) (mA : Str → Option Value) : Prop where
  obj : h.get? x = some (PySem.W.instObj C dx)
  ns : h.Ns1 dx mA
  ne : dx ≠ x

theorem lookIn_ns {h : Heap} {dx : Addr} {mA : Str → Option Value} (n : h.Ns1 dx mA) : ∃ od, h.get? dx = some od ∧ ∀ name, PySem.W.lookIn name od = some (mA name) := by
  obtain ⟨o, es, ep, ho, hd, hk, _, hm⟩ := n
  refine ⟨o, ho, fun name => ?_⟩
  have e := hm name
  unfold nsFind findBy at e
  rw [← Array.find?_toList] at e
  unfold PySem.W.lookIn
  rw [hd]
  dsimp only
  split
  · rename_i y q
    rw [q] at e
    exact congrArg some e
  · rename_i q
    rw [q] at e
    have a : es.toList.any (·.refKey) = false := by
      rw [List.any_eq_false]
      intro y hy
      obtain ⟨z, t, hkey⟩ := hk y (Array.mem_toList_iff.mp hy)
      simp [DictEntry.refKey, hkey]
    have a' : ¬ es.toList.any (·.refKey) = true := by rw [a]; exact Bool.false_ne_true
    rw [if_neg a']
    exact congrArg some e

theorem ObjM.look {h : Heap} {x dx C : Addr} {mA : Str → Option Value} (I : ObjM h x dx C mA) : ∃ od, PySem.W.InstAt h x (PySem.W.instObj C dx) C (some od) ∧ ∀ name, PySem.W.lookIn name od = some (mA name) :=
  let ⟨od, ho, hl⟩ := lookIn_ns I.ns
  ⟨od, ⟨I.obj, rfl, rfl, ho⟩, hl⟩

section
variable {prog : Program} {w : World} {A : Around} {E : Value → Shared → Prop} {s : Shared} {K : PySem.W.Frag} {x dx C f : Addr} {mA : Str → Option Value} {name : Str} {v : Value}

end

section
variable {P : Program} {w : World} {H H' : Hp} {h h' : Heap} {a C dx : Addr} {fs fs' : List (Str × V)}
theorem ins_get (hok : HOk P w H h) (e : H a = some (.ins C dx fs)) : ∃ mA, ObjM h a dx C mA ∧ (∀ f, RelO (fs.lookup f) (mA f)) ∧ PySem.Within mA (fs.map (·.1)) ∧ fs.length ≤ 1000 ∧ H dx = some (.own a) := by
  obtain ⟨d, z, ne, ob, mA, n, r, q⟩ := (show ObjOk P w H h a (.ins C dx fs) from hok a _ e)
  exact ⟨mA, ⟨ob, n, ne⟩, r, q, z, d⟩
end

/-! ### what of the text a class must have -/
structure Cls (K : PySem.W.Frag) (C : Addr) : Prop where
  pg : PySem.W.plainGet K C Str.empty = true
  hd : PySem.W.hasDictIn K C = true
  po : PySem.W.plainOver K C = true
  sa : PySem.W.findIn K (.ref C) "__setattr__" = some (some (.builtin "object.__setattr__"))
theorem Cls.get {K : PySem.W.Frag} {C : Addr} (c : Cls K C) (f : Str) : PySem.W.plainGet K C f = true := c.pg
section
variable {X : Cx} {pins : List (Addr × Obj)} {σ : St} {H : Hp} {s : Shared} {a C dx : Addr} {fs : List (Str × V)} {f : Str} {v : V} {A : Around} {E : Value → Shared → Prop}

end

section
variable {X : Cx} {o e value : Expr} {f : Str} {pos pos' tpos : Pos} {ta tv : TE}
end

/-! ### isinstance -/
section
variable {X : Cx} {pins : List (Addr × Obj)} {σ : St} {H : Hp} {s : Shared} {A : Around} {E : Value → Shared → Prop} {Q : Value → Shared → Prop} {c : Value} {b : Bool}
/-- the type of a value, as the fragment's deciders take it; for an instance its class -/
inductive TyOf (K : PySem.W.Frag) (H : Hp) : V → Value → Prop where
  | non : TyOf K H .non (.type "NoneType")
  | bl (x : Bool) : TyOf K H (.bl x) (.type "bool")
  | int (i : Int) : TyOf K H (.int i) (.type "int")
  | str (x : Str) : TyOf K H (.str x) (.type "str")
  | flt (x : UInt64) : TyOf K H (.flt x) (.type "float")
  | lst {a : Addr} {xs : List V} (e : H a = some (.lst xs)) : TyOf K H (.ref a) (.type "list")
  | frz {a : Addr} {o : Obj} {xs : List V} (e : H a = some (.frz o (.lst xs))) : TyOf K H (.ref a) (.type "list")
  | tup {a : Addr} {xs : List V} (e : H a = some (.tup xs)) : TyOf K H (.ref a) (.type "tuple")
  | dK {a : Addr} {kvs : List (Key × V)} (e : H a = some (.dK kvs)) : TyOf K H (.ref a) (.type "dict")
  | dT {a : Addr} {kvs : List (List Key × V)} (e : H a = some (.dT kvs)) : TyOf K H (.ref a) (.type "dict")
  | ins {a C dx : Addr} {fs : List (Str × V)} (e : H a = some (.ins C dx fs)) (cl : Cls K C) (ha : PySem.W.findIn K (.ref C) "__class__" = some (some (.builtin "object.__class__")))
      (hn : PySem.W.specialIn K (.builtin "object.__class__") "__get__" = some (some (.builtin "getset_descriptor.__get__"))) (htk : PySem.W.takesIn K (.builtin "object.__class__") = some true)
      (hm : PySem.W.mroIn K C (.type "object") = some true) : TyOf K H (.ref a) (.ref C)
/-- isinstance(x, c) for one class c, a built-in or an own one: kitOne's answer -/
theorem isinst_ok {x : V} {u t : Value} (I : Inv X pins σ H s) (rx : RelV x u) (ty : TyOf X.K H x t) (e : PySem.W.kitOne X.K t c = some b) (h : ∀ tk, Q (.bool b) { s with toks := tk }) :
    wpAny (model X.prog X.w) A (call (.builtin "isinstance") [u, c]) Q E s := by
  cases ty with
  | non => cases (show u = Value.none from rx); exact PySem.W.kia_one PySem.W.kitx_none I.kIn True.intro e (fun z => nomatch z) h
  | bl y => cases (show u = Value.bool y from rx); exact PySem.W.kia_one PySem.W.kitx_bool I.kIn True.intro e (fun z => nomatch z) h
  | int i => obtain ⟨t, q⟩ := (show ∃ t, u = Value.int i t from rx); cases q; exact PySem.W.kia_one PySem.W.kitx_int I.kIn True.intro e (fun z => nomatch z) h
  | str y => obtain ⟨t, q⟩ := (show ∃ t, u = Value.str y t from rx); cases q; exact PySem.W.kia_one PySem.W.kitx_str I.kIn True.intro e (fun z => nomatch z) h
  | flt y => obtain ⟨t, q⟩ := (show ∃ t, u = Value.float y t from rx); cases q; exact PySem.W.kia_one PySem.W.kitx_float I.kIn True.intro e (fun z => nomatch z) h
  | @lst a xs ea =>
    cases (show u = Value.ref a from rx)
    obtain ⟨_, _, n, _, h1⟩ := (show ObjOk X.prog X.w H s.heap a (.lst xs) from I.hok a _ ea)
    exact PySem.W.kia_one PySem.W.kitx_list I.kIn ⟨_, h1, rfl⟩ e (fun z => nomatch z) h
  | @frz a ob xs ea =>
    cases (show u = Value.ref a from rx)
    obtain ⟨_, _, _, n, _, h1⟩ := (show ObjOk X.prog X.w H s.heap a (.frz ob (.lst xs)) from I.hok a _ ea)
    exact PySem.W.kia_one PySem.W.kitx_list I.kIn ⟨_, h1, rfl⟩ e (fun z => nomatch z) h
  | @tup a xs ea =>
    cases (show u = Value.ref a from rx)
    obtain ⟨_, _, _, p⟩ := (show ObjOk X.prog X.w H s.heap a (.tup xs) from I.hok a _ ea)
    obtain ⟨o, h1, h2, _⟩ := p
    exact PySem.W.kia_one PySem.W.kitx_tuple I.kIn ⟨o, h1, h2⟩ e (fun z => nomatch z) h
  | @dK a kvs ea =>
    cases (show u = Value.ref a from rx)
    obtain ⟨_, _, vs, _, p⟩ := (show ObjOk X.prog X.w H s.heap a (.dK kvs) from I.hok a _ ea)
    obtain ⟨o, es, ep, h1, h2, _⟩ := p
    exact PySem.W.kia_one PySem.W.kitx_dict I.kIn ⟨o, h1, h2.1⟩ e (fun z => nomatch z) h
  | @dT a kvs ea =>
    cases (show u = Value.ref a from rx)
    obtain ⟨_, _, xs, _, o, es, ep, h1, h2, _⟩ := (show ObjOk X.prog X.w H s.heap a (.dT kvs) from I.hok a _ ea)
    exact PySem.W.kia_one PySem.W.kitx_dict I.kIn ⟨o, h1, h2.1⟩ e (fun z => nomatch z) h
  | @ins a C dx fs ea cl ha hn htk hm =>
    cases (show u = Value.ref a from rx)
    obtain ⟨mA, O, _⟩ := ins_get I.hok ea
    obtain ⟨od, J, _⟩ := O.look
    exact PySem.W.kia_one (PySem.W.kitx_own (cl.get _) cl.hd ha hn htk hm) I.kIn J e (fun z => nomatch z) h
end
end L2

namespace L2
open PySem PySem.Spec PyProof.Rows

/-! ### room -/
structure Room (k : Nat) (A : Around) : Prop where
  hd : A.handled = none
  dp : A.depth + 3 * k + 5 < recursionLimit
  un : A.units + 16 * k + 200 < cLine
theorem Room.mono {j k : Nat} {A : Around} (r : Room k A) (h : j ≤ k) : Room j A := ⟨r.hd, by have := r.dp; omega, by have := r.un; omega⟩
theorem Room.deeper {k : Nat} {A : Around} (r : Room (k + 1) A) (env : Env) : Room k (A.deeper env) :=
  ⟨r.hd, by have := r.dp; show A.depth + 1 + 3 * k + 5 < _; omega, by have := r.un; show A.units + 3 + 16 * k + 200 < _; omega⟩
theorem Room.depth {k : Nat} {A : Around} (r : Room k A) : A.depth < recursionLimit := by have := r.dp; omega
/-! ### argument lists and displays -/
noncomputable def tNil : TA := fun _ H Q => Q [] H
noncomputable def tCons (ta : TE) (tr : TA) : TA := fun σ H Q => ta σ H fun x H1 => tr σ H1 fun xs H2 => Q (x :: xs) H2
section
variable {X : Cx} {e : Expr} {es : List Expr} {te : TE} {t : TA} {pos : Pos}
theorem pa_nil : PA X [] tNil := fun _ _ _ _ H Q I h => Calls.spliced_nil ⟨[], H, I, .nil, h⟩
theorem pa_cons (ha : PE X e te) (hr : PA X es t) (hs : starEach (e :: es) X.env = (false, eval e X.env) :: starEach es X.env := by rfl) : PA X (e :: es) (tCons te t) := by
  intro pos pins s σ H Q I h
  rw [hs]
  show wpAny _ _ (spliced ((false, eval e X.env) :: backTo pos (starEach es X.env))) _ _ s
  refine Calls.spliced_cons (thn (ha pins s σ H _ I h) fun u s1 ⟨x, H1, I1, r1, q1⟩ => ?_)
  exact thn (hr pos pins s1 σ H1 _ I1 q1) fun us s2 ⟨xs, H2, I2, r2, q2⟩ => ⟨x :: xs, H2, I2, .cons r1 r2, q2⟩

/-- a tuple, a list of written items -/
noncomputable def tTup (t : TA) : TE := fun σ H Q => t σ H fun xs H1 => xs.length ≤ sizeLine ∧ ∀ p, H1 p = none → Q (.ref p) (upd H1 p (.tup xs))
noncomputable def tLst (t : TA) : TE := fun σ H Q => t σ H fun xs H1 => xs.length ≤ sizeLine ∧ ∀ p, H1 p = none → Q (.ref p) (upd H1 p (.lst xs))
theorem pe_tup {x1} (h : PA X es t) : PE X (.Tuple es x1 pos) (tTup t) := by
  intro pins s σ H Q I hq
  refine wpAny_Tuple_spliced (thn (h pos pins s σ H _ I hq) fun us s1 ⟨xs, H1, I1, r, z, q⟩ => ⟨by rw [← r.length]; exact z, ?_⟩)
  have hf : H1 s1.heap.objs.size = none := I1.hok.fresh (Nat.le_refl _)
  refine ⟨.ref s1.heap.objs.size, upd H1 s1.heap.objs.size (.tup xs), I1.laid (t' := s1.toks) (fun b u e => Heap.get?_push_of_some _ e) (Nat.le_refl _) ?_, rfl, q _ hf⟩
  exact ⟨z, us, r, ⟨_, Heap.get?_push_size _ rfl, rfl, _, rfl⟩⟩
theorem pe_lst (h : PA X es t) : PE X (.List es pos) (tLst t) := by
  intro pins s σ H Q I hq
  refine wpAny_List_spliced (thn (h pos pins s σ H _ I hq) fun us s1 ⟨xs, H1, I1, r, z, q⟩ => ⟨by rw [← r.length]; exact z, ?_⟩)
  have hf : H1 s1.heap.objs.size = none := I1.hok.fresh (Nat.le_refl _)
  refine ⟨.ref s1.heap.objs.size, upd H1 s1.heap.objs.size (.lst xs), I1.laid (t' := s1.toks) (fun b u e => Heap.get?_push_of_some _ e) (Nat.le_refl _) ?_, rfl, q _ hf⟩
  exact ⟨z, us, 0, r, Heap.get?_push_size _ rfl⟩
end

/-! ### what a def promises -/
/-- a def's promise: the bound arguments in the parameters' order, the heap, the wanted end, the wanted exception -/
noncomputable abbrev Sp := List V → Hp → VK → XK → Prop
/-- how an exception lies behind a call (file 08 gives it): the callers' frames, abstract heap and state ahead of the call, the wish, the exception, the state -/
noncomputable abbrev CXT := List Env → Hp → Shared → XK → Value → Shared → Prop

/-- the state at a call -/
structure Env0 (P : Program) (w : World) (K : PySem.W.Frag) (mg : Str → Option Value) (base : Heap) (A : Around) (outer : List Env) (s : Shared) (H : Hp) : Prop where
  frames : A.frames = some outer
  mod : Mod K mg base
  bs : ∀ b o, base.get? b = some o → s.heap.get? b = some o ∧ H b = none
  bsz : base.objs.size ≤ s.heap.objs.size
  funs : s.heap.FunFrames base outer
  frf : ∀ b ∈ frs outer, H b = none
  hok : HOk P w H s.heap
  bare : AllBare s.gens
/-- a call's end -/
noncomputable def CE (outer : List Env) (P : Program) (w : World) (H : Hp) (s : Shared) (Q : VK) (u : Value) (s' : Shared) : Prop :=
  ∃ v H', s'.os = s.os ∧ AllBare s'.gens ∧ Un (frs outer) [] H H' s.heap s'.heap ∧ HOk P w H' s'.heap ∧ RelV v u ∧ Q v H'
noncomputable def CR (CX : CXT) (outer : List Env) (P : Program) (w : World) (H : Hp) (s : Shared) (Q : VK) (E : XK) (r : Result) (s' : Shared) : Prop :=
  match r with
  | .ok (.ret u) => CE outer P w H s Q u s'
  | .ok _ => False
  | .error e => CX outer H s E e s'
structure FnOk (P : Program) (w : World) (K : PySem.W.Frag) (mg : Str → Option Value) (base : Heap) (CX : CXT) (k : Nat) (f : Addr) (fd : FuncData) (ps : List Str) (sp : Sp) : Prop where
  len : ∀ vs H Q E, sp vs H Q E → vs.length = ps.length
  run : ∀ (A : Around) (outer : List Env) (s : Shared) (H : Hp) (args : Args) (us : List Value) (vs : List V) (Q : VK) (E : XK), Room k A → Env0 P w K mg base A outer s H → BindsTo s fd args (ps.zip us) → Vals vs us → sp vs H Q E →
    codeAny (model P w) A (.call (.ref f) args) (CR CX outer P w H s Q E) s
section
variable {X : Cx} {pins : List (Addr × Obj)} {σ : St} {H : Hp} {s s' : Shared}
/-- from a body: what a callee wants -/
theorem Inv.env0 (I : Inv X pins σ H s) : Env0 X.prog X.w X.K X.mg X.base X.A X.stack s H :=
  ⟨I.ok.frames, I.ok.mod, I.bs, Nat.le_trans I.ok.bsz I.sz, I.stack, I.stkFree, I.hok, I.bare⟩
/-- behind a call -/
theorem Inv.after {Q : VK} {u : Value} (I : Inv X pins σ H s) (h : CE X.stack X.prog X.w H s Q u s') : EP X pins σ Q u s' := by
  obtain ⟨v, H', os, bare, un, hok, r, q⟩ := h
  obtain ⟨hh, g, d, t, os'⟩ := s'
  obtain rfl : os' = s.os := os
  exact ⟨v, H', I.call (h' := hh) (g' := g) (d' := d) (t' := t) (ch := []) un hok bare (fun b z => absurd z (by simp)), r, q⟩
end

/-! ### calls -/
/-- f(..): the written arguments, then the defaults dvs; E: what is wanted of an exception -/
noncomputable def tCall (sp : Sp) (dvs : List V) (E : XK) (t : TA) : TE := fun σ H Q => t σ H fun vs H1 => sp (vs ++ dvs) H1 Q E
/-- how the parameters are bound: us the positional arguments, kw the keywords' values by name, ds the defaults that fill up -/
noncomputable def Binds (K : PySem.W.Frag) (fd : FuncData) (ps : List Str) (ds : List Value) : Prop :=
  ∀ (s : Shared) (us : List Value), K.In s.heap → (us ++ ds).length = ps.length → BindsTo s fd ⟨us, []⟩ (ps.zip (us ++ ds))
/-- every parameter is given -/
theorem Binds.all {K : PySem.W.Frag} {fd : FuncData} {ps : List Str} (h : ∀ us : List Value, us.length = ps.length → bindArgs fd ⟨us, []⟩ = pure (ps.zip us)) : Binds K fd ps [] := fun s us _ hl => by
  rw [List.append_nil] at hl ⊢
  exact .of_eq (h us hl)

/-- an exception of a callee reaches what this body wants of exceptions -/
noncomputable def Passes (CX : CXT) (X : Cx) (E : XK) : Prop := ∀ (pins : List (Addr × Obj)) (σ : St) (H : Hp) (s : Shared) (e : Value) (s' : Shared), Inv X pins σ H s → CX X.stack H s E e s' → X.xe e s'

section
variable {X : Cx} {CX : CXT} {k : Nat} {f C : Addr} {fd : FuncData} {ps : List Str} {sp : Sp} {dvs : List V} {ds : List Value} {E : XK} {x m : Str} {p pos apos : Pos} {e o : Expr} {es : List Expr} {ta : TE} {t : TA}

/-- the callee runs -/
theorem run_fn {pins : List (Addr × Obj)} {σ : St} {H : Hp} {s : Shared} {Q : VK} {us : List Value} {vs : List V} (F : FnOk X.prog X.w X.K X.mg X.base CX k f fd ps sp) (hr : Room k X.A) (hb : Binds X.K fd ps ds) (hd : Vals dvs ds) (hx : Passes CX X E)
    (I : Inv X pins σ H s) (r : Vals vs us) (h : sp (vs ++ dvs) H Q E) : wpAny (model X.prog X.w) X.A (call (.ref f) us) (EP X pins σ Q) X.xe s := by
  have r2 : Vals (vs ++ dvs) (us ++ ds) := r.append hd
  have hl : (us ++ ds).length = ps.length := by rw [← r2.length]; exact F.len _ _ _ _ h
  refine wpAny_call (codeAny_mono (F.run X.A X.stack s H ⟨us, []⟩ (us ++ ds) (vs ++ dvs) Q E hr I.env0 (hb s us I.kIn hl) r2 h) fun r s' hq => ?_)
  cases r with
  | error e => exact hx pins σ H s e s' I hq
  | ok fl =>
    cases fl with
    | ret u => exact I.after hq
    | next => exact False.elim hq
    | brk => exact False.elim hq
    | cont => exact False.elim hq

theorem pe_call (F : FnOk X.prog X.w X.K X.mg X.base CX k f fd ps sp) (hr : Room k X.A) (hg : Gl X x) (hm : X.mg x = some (.ref f)) (hk : PySem.W.keepIn X.K (.ref f) = true) (hb : Binds X.K fd ps ds) (hd : Vals dvs ds) (hx : Passes CX X E)
    (ha : PA X (e :: es) t) (hdb : (x == ("__debug__" : Str)) = false := by decide) (he : starEach (e :: es) X.env = (false, eval e X.env) :: starEach es X.env := by rfl) (hpl : (backTo pos (starEach es X.env)).any (·.1) = false := by rfl) :
    PE X (.Call (.Name x p) (e :: es) [] pos) (tCall sp dvs E t) := by
  intro pins s σ H Q I h
  refine wpAny_Call_Name_kw (ld_glob I hg hm ?_ hdb)
  refine PySem.W.callWith_K (h₀ := X.base) I.ok.mod.kin hk (thn (ha pos pins s σ H _ I h) fun us s1 ⟨vs, H1, I1, r, q⟩ => ⟨I1.kIn, ?_⟩) he hpl
  exact run_fn F hr hb hd hx I1 r q
end

section
variable {X : Cx} {CX : CXT} {k : Nat} {f C : Addr} {fd : FuncData} {ps ks : List Str} {sp : Sp} {E : XK} {x m : Str} {p pos apos kpos : Pos} {e o : Expr} {es : List Expr} {kws : List Keyword} {te ta : TE} {t tk : TA} {nm : Option Str}
variable {g : List Value → List Value → List Value} {gV : List V → List V → List V}
end

/-! ### a def's body keeps its promise -/
/-- names: the parameters first -/
structure FnScope (N P : List Str) (sc : Scope) : Prop where
  kind : sc.kind = .function
  co : sc.isCoroutine = false
  gen : sc.isGenerator = false
  nd : N.Nodup
  pre : N.take P.length = P
  par : ∀ x ∈ P, sc.names.lookup x = some .local ∨ sc.names.lookup x = some .cell
  nofree : ∀ y ∈ sc.names, y.2 ≠ .free

theorem bindL_out {kindOf : Str → Option NameKind} {x : Str} : ∀ {binds : List (Str × Value)} {m : Str → Option Value}, (∀ v, (x, v) ∉ binds) → bindL kindOf binds m x = m x
  | [], _, _ => rfl
  | (n, v) :: r, m, h => by
    unfold bindL
    rw [bindL_out fun w hw => h w (List.mem_cons_of_mem _ hw)]
    split
    · have : x ≠ n := by rintro rfl; exact h v List.mem_cons_self
      simp [this]
    · rfl
theorem bindC_out {kindOf : Str → Option NameKind} {x : Str} : ∀ {binds : List (Str × Value)} {m : Str → Option Value}, (∀ v, (x, v) ∉ binds) → bindC kindOf binds m x = m x
  | [], _, _ => rfl
  | (n, v) :: r, m, h => by
    unfold bindC
    rw [bindC_out fun w hw => h w (List.mem_cons_of_mem _ hw)]
    split
    · rfl
    · have : x ≠ n := by rintro rfl; exact h v List.mem_cons_self
      simp [this]
theorem bindL_get {kindOf : Str → Option NameKind} {x : Str} {v : Value} : ∀ {P : List Str} {vs : List Value} {i : Nat} {m : Str → Option Value}, P.Nodup → P[i]? = some x → vs[i]? = some v → kindOf x = some .local →
    bindL kindOf (P.zip vs) m x = some v
  | [], _, _, _, _, h, _, _ => by simp at h
  | _ :: _, [], _, _, _, _, h, _ => by simp at h
  | p :: P, w :: vs, 0, m, nd, h1, h2, hk => by
    simp at h1 h2; subst h1; subst h2
    show bindL kindOf ((p, w) :: P.zip vs) m p = _
    unfold bindL
    rw [bindL_out fun v hv => (List.nodup_cons.mp nd).1 (List.of_mem_zip hv).1, if_pos hk]
    simp
  | p :: P, w :: vs, i + 1, m, nd, h1, h2, hk => by
    show bindL kindOf ((p, w) :: P.zip vs) m x = _
    unfold bindL
    exact bindL_get (i := i) (List.nodup_cons.mp nd).2 (by simpa using h1) (by simpa using h2) hk
theorem bindC_get {kindOf : Str → Option NameKind} {x : Str} {v : Value} : ∀ {P : List Str} {vs : List Value} {i : Nat} {m : Str → Option Value}, P.Nodup → P[i]? = some x → vs[i]? = some v → kindOf x ≠ some .local →
    bindC kindOf (P.zip vs) m x = some v
  | [], _, _, _, _, h, _, _ => by simp at h
  | _ :: _, [], _, _, _, _, h, _ => by simp at h
  | p :: P, w :: vs, 0, m, nd, h1, h2, hk => by
    simp at h1 h2; subst h1; subst h2
    show bindC kindOf ((p, w) :: P.zip vs) m p = _
    unfold bindC
    rw [bindC_out fun v hv => (List.nodup_cons.mp nd).1 (List.of_mem_zip hv).1, if_neg hk]
    simp
  | p :: P, w :: vs, i + 1, m, nd, h1, h2, hk => by
    show bindC kindOf ((p, w) :: P.zip vs) m x = _
    unfold bindC
    exact bindC_get (i := i) (List.nodup_cons.mp nd).2 (by simpa using h1) (by simpa using h2) hk

/-- the names' values at the entry -/
noncomputable def start (N : List Str) (vs : List V) : St := vs.map some ++ List.replicate (N.length - vs.length) none

/-- the context of a def's body, at its entry; an exception leaves the frame, then lies as CX says -/
noncomputable def cxOf (CX : CXT) (P : Program) (w : World) (K : PySem.W.Frag) (mg : Str → Option Value) (base : Heap) (N : List Str) (qual : Str) (scope : Scope) (f : Addr) (cd : Value) (A : Around) (outer : List Env) (s : Shared) (H : Hp) (E : XK) : Cx where
  prog := P
  w := w
  K := K
  mg := mg
  base := base
  A := A.deeper (envOfC qual scope s.heap.objs.size f cd)
  N := N
  s₀ := s
  H₀ := H
  env := envOfC qual scope s.heap.objs.size f cd
  outer := outer
  stack := envOfC qual scope s.heap.objs.size f cd :: outer
  ex := []
  calm := true
  fn := fun _ => true
  pn := []
  xe := fun e s' => wpAny (model P w) (A.deeper (envOfC qual scope s.heap.objs.size f cd)) (leaving (envOfC qual scope s.heap.objs.size f cd) e) (fun _ s'' => CX outer H s E e s'') (fun e' s'' => CX outer H s E e' s'') s'

theorem cell_has {sc : Scope} {n : Nat} {x : Str} (h : sc.names.lookup x = some .cell) : ∃ c, (cellsFrom n sc.names []).lookup x = some c := by
  have q := PySem.W.cellsFrom_some sc.names n [] (.inl h)
  exact Option.isSome_iff_exists.mp q

theorem inv_start {CX : CXT} {P : Program} {w : World} {K : PySem.W.Frag} {mg : Str → Option Value} {base : Heap} {N ps : List Str} {qual : Str} {scope : Scope} {f : Addr} {cd : Value} {A : Around} {outer : List Env} {s s1 : Shared} {H : Hp} {E : XK} {us : List Value} {vs : List V}
    (S : FnScope N ps scope) (hd : A.handled = none) (e0 : Env0 P w K mg base A outer s H) (hl : vs.length = ps.length) (r : Vals vs us)
    (x : InCallC s s.heap.objs.size (bindL (envOfC qual scope s.heap.objs.size f cd).kindOf (ps.zip us) fun _ => none) (cellsFrom (s.heap.objs.size + 1) scope.names []) (bindC (envOfC qual scope s.heap.objs.size f cd).kindOf (ps.zip us) fun _ => none) s1) :
    Inv (cxOf CX P w K mg base N qual scope f cd A outer s H E) [] (start N vs) H s1 := by
  have hpl : ps.length ≤ N.length := by have := congrArg List.length S.pre; rw [List.length_take] at this; omega
  obtain ⟨h1, tk, rfl, hk⟩ := x.done
  have noA : ∀ b : Addr, b ∉ (cxOf CX P w K mg base N qual scope f cd A outer s H E).ex := fun b z => absurd (show b ∈ ([] : List Addr) from z) (by simp)
  refine ⟨⟨e0.mod, S.kind, rfl, rfl, Nat.le_refl _, fun y z c h1 h2 => ?_, fun y hy => ?_, fun y c _ h => ?_, fun _ => hd, Around.frames_deeper e0.frames, .inr ⟨rfl, rfl⟩, fun b z => absurd z (noA b), e0.bs, e0.bsz, fun b _ _ => noA b, fun b z => absurd z (noA b), e0.funs, e0.frf⟩,
    rfl, e0.bare, Un.kept hk, ⟨_, x.toInCall.ns, fun i y v h1 h2 h3 => ?_⟩, fun y c h => ⟨_, x.cell y c h⟩, e0.hok.fresh (Nat.le_refl _), fun y c h => ?_, fun p hp => absurd (show p ∈ ([] : List (Addr × Obj)) from hp) (by simp), e0.hok.kept hk, ?_⟩
  · exact name_of_addr x.apart (PySem.mem_of_lookup h1) (PySem.mem_of_lookup h2)
  · have hy : scope.names.lookup y = some .cell ∨ scope.names.lookup y = some .free := hy
    rcases hy with hy | hy
    · exact cell_has hy
    · exact absurd rfl (S.nofree _ (PySem.mem_of_lookup hy))
  · exact Nat.le_of_lt (x.above y c (PySem.mem_of_lookup h))
  · have hi : i < vs.length := by
      unfold start at h2
      by_cases hi : i < vs.length
      · exact hi
      · rw [List.getElem?_append_right (by simpa using hi)] at h2
        rw [List.getElem?_replicate] at h2
        split at h2 <;> cases h2
    have ha : vs[i]? = some v := by
      unfold start at h2
      rw [List.getElem?_append_left (by simpa using hi), List.getElem?_map] at h2
      cases e : vs[i]? with
      | none => rw [e] at h2; cases h2
      | some a => rw [e] at h2; cases h2; rfl
    obtain ⟨u, hu, rv⟩ := r.get ha
    have hp : ps[i]? = some y := by
      rw [← S.pre, List.getElem?_take_of_lt (by omega)]; exact h1
    have ndP : ps.Nodup := by rw [← S.pre]; exact S.nd.sublist (List.take_sublist _ _)
    refine ⟨u, rv, ?_⟩
    rcases S.par y (List.mem_of_getElem? hp) with k | k
    · exact .inl ⟨k, bindL_get ndP hp hu k⟩
    · obtain ⟨c, e⟩ := cell_has (n := s.heap.objs.size + 1) k
      refine .inr ⟨.inl k, c, e, ?_⟩
      have q := x.cell y c e
      rw [bindC_get ndP hp hu (by show scope.names.lookup y ≠ _; rw [k]; decide)] at q
      exact q
  · exact e0.hok.fresh (Nat.le_of_lt (x.above y c (PySem.mem_of_lookup h)))
  · unfold start
    show _ = N.length
    rw [List.length_append, List.length_map, List.length_replicate]
    omega

/-- THE RULE: a def (or a method) of the text, by its body. The body's reading t is chosen for each entry; it is run at the parameters' values -/
theorem fn_of {CX : CXT} {P : Program} {w : World} {K : PySem.W.Frag} {mg : Str → Option Value} {base : Heap} {k : Nat} {f : Addr} {name qual : Str} {params : Arguments} {body : List Stmt} {scope : Scope} {dV kV doc pm cdv ct oc : Value} {an od : Option Addr}
    {osl : Array (Option Value)} {N ps : List Str} {sp : Sp} (lk : K.lookup f = some ⟨oc, od, .func (PySem.W.fnOf name qual params body scope dV kV doc pm an cdv ct), osl⟩) (hcd : PySem.W.codeIn K cdv qual = true) (S : FnScope N ps scope)
    (len : ∀ vs H Q E, sp vs H Q E → vs.length = ps.length)
    (hbody : ∀ (A : Around) (outer : List Env) (s : Shared) (H : Hp) (vs : List V) (Q : VK) (E : XK), Room k (A.deeper (envOfC qual scope s.heap.objs.size f cdv)) → sp vs H Q E →
      ∃ t, PSs (cxOf CX P w K mg base N qual scope f cdv A outer s H E) body t ∧ t { nx := fun _ H' => Q .non H', rt := Q } (start N vs) H) :
    FnOk P w K mg base CX (k + 1) f (PySem.W.fnOf name qual params body scope dV kV doc pm an cdv ct) ps sp := by
  refine ⟨len, fun A outer s H args us vs Q E hr e0 hb r hsp => ?_⟩
  have hl := len _ _ _ _ hsp
  have KX : K.In s.heap := e0.mod.kin.keeps fun b o e => (e0.bs b o e).1
  have lim : s.heap.NoLimit := e0.mod.nolimit.keeps fun b o e => (e0.bs b o e).1
  have hkind : ∀ y ∈ ps.zip us, scope.names.lookup y.1 = some .local ∨ (scope.names.lookup y.1 = some .cell ∧ ((cellsFrom (s.heap.objs.size + 1) scope.names []).lookup y.1).isSome = true) := fun ⟨n, v⟩ hy => by
    rcases S.par n (List.of_mem_zip hy).1 with q | q
    · exact .inl q
    · exact .inr ⟨q, PySem.W.cellsFrom_some _ _ _ (.inl q)⟩
  refine codeAny_call_function hr.depth (KX _ _ lk) rfl S.co S.gen rfl (PySem.W.codeRec_of KX hcd) (hb _ _ _ _ ?_)
  refine wpAny_newFunctionEnv_cells S.kind hkind fun env he s1 x => ?_
  subst he
  refine ⟨lim.keeps x.toInCall.keep, codeAny_func ?_⟩
  obtain ⟨t, ht, hq⟩ := hbody A outer s H vs Q E (hr.deeper _) hsp
  have I : Inv (cxOf CX P w K mg base N qual scope f cdv A outer s H E) [] (start N vs) H s1 := inv_start S hr.hd e0 hl r x
  refine wpAny_mono (ht [] s1 (start N vs) H _ I hq) (fun fl s' hs => ?_) fun e s' hs => hs
  have fin : ∀ {σ' : St} {H' : Hp} {v : V} {u : Value}, Inv (cxOf CX P w K mg base N qual scope f cdv A outer s H E) [] σ' H' s' → RelV v u → Q v H' → CE outer P w H s Q u s' :=
    fun {σ' H' v u} J rv q => ⟨v, H', J.os, J.bare, J.base, J.hok, rv, q⟩
  cases fl with
  | ret u =>
    obtain ⟨v, σ', H', J, rv, q⟩ := hs
    exact fin J rv q
  | next =>
    obtain ⟨σ', H', J, q⟩ := hs
    exact fin (v := V.non) (u := Value.none) J rfl q
  | brk =>
    obtain ⟨_, _, _, q⟩ := hs
    exact False.elim q
  | cont =>
    obtain ⟨_, _, _, q⟩ := hs
    exact False.elim q
end L2

namespace L2
open PySem PySem.Spec PyProof.Rows
section
variable {X : Cx} {x : Str} {p pos : Pos} {e : Expr} {es : List Expr} {t : TA} {id T : String} {r : List V → Hp → VK → Prop}

noncomputable def tCB (r : List V → Hp → VK → Prop) (t : TA) : TE := fun σ H Q => t σ H fun vs H1 => r vs H1 Q
/-- f(e, ..), f a built-in function -/
theorem pe_callB (hc : CallR X (.builtin id) r) (hg : Gl X x) (hm : X.mg x = none) (hv : bootBuiltins x = some (.builtin id)) (ha : PA X (e :: es) t) (hn : x ≠ "__name__" := by decide) (hdb : (x == ("__debug__" : Str)) = false := by decide)
    (he : starEach (e :: es) X.env = (false, eval e X.env) :: starEach es X.env := by rfl) (hpl : (backTo pos (starEach es X.env)).any (·.1) = false := by rfl) : PE X (.Call (.Name x p) (e :: es) [] pos) (tCB r t) := by
  intro pins s σ H Q I h
  refine wpAny_Call_Name_kw (ld_blt I hg hm hv ?_ hn hdb)
  exact PyProof.Rows.callWith_builtin1 (thn (ha pos pins s σ H _ I h) fun us s1 ⟨vs, H1, I1, r1, q1⟩ => hc pins s1 σ H1 vs us Q I1 r1 q1) he hpl
/-- T(e, ..), T a built-in type -/
theorem pe_callTy (hc : CallR X (.type T) r) (hg : Gl X x) (hm : X.mg x = none) (hv : bootBuiltins x = some (.type T)) (ha : PA X (e :: es) t) (hn : x ≠ "__name__" := by decide) (hdb : (x == ("__debug__" : Str)) = false := by decide)
    (he : starEach (e :: es) X.env = (false, eval e X.env) :: starEach es X.env := by rfl) (hpl : (backTo pos (starEach es X.env)).any (·.1) = false := by rfl) : PE X (.Call (.Name x p) (e :: es) [] pos) (tCB r t) := by
  intro pins s σ H Q I h
  refine wpAny_Call_Name_kw (ld_blt I hg hm hv ?_ hn hdb)
  exact PyProof.Rows.callWith_type1 (thn (ha pos pins s σ H _ I h) fun us s1 ⟨vs, H1, I1, r1, q1⟩ => hc pins s1 σ H1 vs us Q I1 r1 q1) he hpl
end
end L2

namespace L2
open PySem PySem.Spec PyProof.Rows

/-! ### lists of pairs as tables -/
section
variable {κ : Type} [DecidableEq κ]
end


section
variable {P : Program} {w : World} {H : Hp} {h : Heap} {a : Addr}
end

section
variable {X : Cx} {pins : List (Addr × Obj)} {σ : St} {H : Hp} {s : Shared} {a : Addr} {y v : V} {u r : Value} {o : Option V} {A : Around} {E : Value → Shared → Prop}

end

section
variable {X : Cx} {pins : List (Addr × Obj)} {σ : St} {H : Hp} {s : Shared} {a : Addr} {kvs : List (Key × V)} {k : Key} {u : Value} {A : Around} {E : Value → Shared → Prop}
end


section
variable {X : Cx} {o i e value : Expr} {pos pos' tpos : Pos} {td ty tv : TE}
end


section
variable {X : Cx} {pos : Pos}
end

section
variable {X : Cx} {pins : List (Addr × Obj)} {σ : St} {H : Hp} {s : Shared} {a : Addr} {y d : V} {u r : Value} {o : Option V} {A : Around} {E : Value → Shared → Prop}
end

section
variable {X : Cx} {o e f : Expr} {apos cpos : Pos} {td ty tx : TE}
end

/-! ### dict(d): a copy -/
section
variable {X : Cx} {pins : List (Addr × Obj)} {σ : St} {H : Hp} {s : Shared} {a : Addr} {kvs : List (Key × V)} {A : Around} {E : Value → Shared → Prop}
end


section
variable {X : Cx} {pins : List (Addr × Obj)} {σ : St} {H : Hp} {s : Shared} {a : Addr} {y : V} {u : Value} {A : Around} {E : Value → Shared → Prop}
end
end L2

namespace HT
open PySem PyProof.Rows

section
open PySem.SeqAt
open PySem.AutoSeq1 (wpAny_loadPart')
open PySem.MeetsSeq PySem.MeetsSeq2 PySem.MeetsSeq3

end

section
variable {prog : Program} {w : World} {A : Around} {E : Value → Shared → Prop} {s : Shared}

/-! ### t[a:b], not the whole -/
/-- a slice's bound as a place among n (d where it is left out) -/
noncomputable def sIx (n d : Nat) : Option Int → Nat
  | none => d
  | some v => if v < 0 then (v + (n : Int)).toNat else min v.toNat n
theorem sIx_none (n d : Nat) : sIx n d none = d := rfl
theorem sIx_nat (n d k : Nat) : sIx n d (some (k : Int)) = min k n := by
  show (if (k : Int) < 0 then ((k : Int) + (n : Int)).toNat else min (k : Int).toNat n) = min k n
  rw [if_neg (by omega), Int.toNat_natCast]
end
end HT

namespace L2
open PySem PySem.Spec PyProof.Rows

/-! ### the parts of a slice -/
noncomputable abbrev TO := St → Hp → (Option Int → Hp → Prop) → Prop
/-- a slice's part (left out, or an int) -/
noncomputable def PO (X : Cx) (e : Option Expr) (t : TO) : Prop :=
  ∀ (pins : List (Addr × Obj)) (s : Shared) (σ : St) (H : Hp) (Q : Option Int → Hp → Prop), Inv X pins σ H s → t σ H Q →
    wpAny (model X.prog X.w) X.A (evalPart e X.env) (fun u s' => ∃ o H', Inv X pins σ H' s' ∧ IsPart u o ∧ Q o H') X.xe s
noncomputable def tNoPart : TO := fun _ H Q => Q none H
noncomputable def tPart (t : TE) : TO := fun σ H Q => t σ H fun x H1 => Ex1_2 (fun i => x = .int i) (fun i => Q (some i) H1)

section
variable {X : Cx} {e : Expr} {te : TE} {lo hi : Option Expr} {tl th : TO} {pos p2 : Pos}

theorem po_none : PO X none tNoPart := by
  intro pins s σ H Q I h
  rw [evalPart_none]
  exact wpAny_pure ⟨none, H, I, .none, h⟩
theorem po_some (h : PE X e te) : PO X (some e) (tPart te) := by
  intro pins s σ H Q I hw
  rw [evalPart_some]
  refine thn (h pins s σ H _ I hw) fun u s1 ⟨x, H1, I1, r1, q1⟩ => ?_
  obtain ⟨i, rfl, q⟩ := q1
  obtain ⟨t, rfl⟩ := r1
  exact ⟨some i, H1, I1, .int i t, q⟩

/-- what a slice of a value is, by values: the slice object stands at sl -/
noncomputable def SlR (X : Cx) (r : V → Option Int → Option Int → Hp → VK → Prop) : Prop :=
  ∀ (pins : List (Addr × Obj)) (s : Shared) (σ : St) (H : Hp) (x : V) (v vl vu : Value) (lo hi : Option Int) (sl : Addr) (Q : VK), Inv X pins σ H s → RelV x v → s.heap.IsSliceOf sl vl vu .none → IsPart vl lo → IsPart vu hi → r x lo hi H Q →
    ∃ T id, typeLookup (.type T) "__getitem__" = pure (some (.builtin id)) ∧ s.TypeIs v T ∧ wpAny (model X.prog X.w) X.A (getItem v (.ref sl)) (EP X pins σ Q) X.xe s
noncomputable def tSl (r : V → Option Int → Option Int → Hp → VK → Prop) (te : TE) (tl th : TO) : TE := fun σ H Q => te σ H fun x H1 => tl σ H1 fun l H2 => th σ H2 fun u H3 => r x l u H3 Q
/-- a[lo:hi], any a -/
theorem pe_slice {r : V → Option Int → Option Int → Hp → VK → Prop} (hr : SlR X r) (he : PE X e te) (hl : PO X lo tl) (hu : PO X hi th) : PE X (.Subscript e (.Slice lo hi none p2) pos) (tSl r te tl th) := by
  intro pins s σ H Q I h
  refine Subscript_ (thn (he pins s σ H _ I h) fun v s1 ⟨x, H1, I1, r1, q1⟩ => ?_)
  refine wpAny_Slice (thn (hl pins s1 σ H1 _ I1 q1) fun vl s2 ⟨l, H2, I2, pl, q2⟩ => thn (hu pins s2 σ H2 _ I2 q2) fun vu s3 ⟨u, H3, I3, pu, q3⟩ => ?_)
  rw [evalPart_none]
  refine wpAny_pure ?_
  have I4 : Inv X pins σ H3 { s3 with heap := s3.heap.push { cls := .type "slice", data := .fields #[vl, vu, .none] } } := I3.kept (t' := s3.toks) fun b ob q => Heap.get?_push_of_some _ q
  obtain ⟨T, id, hT, ht, hg⟩ := hr pins { s3 with heap := s3.heap.push { cls := .type "slice", data := .fields #[vl, vu, .none] } } σ H3 x v vl vu l u s3.heap.objs.size Q I4 r1 (Heap.IsSliceOf.new ..) pl pu q3
  show wpAny (model X.prog X.w) X.A (subscriptTail e (.Slice lo hi none p2) v (.ref s3.heap.objs.size)) (EP X pins σ Q) X.xe { s3 with heap := s3.heap.push { cls := .type "slice", data := .fields #[vl, vu, .none] } }
  exact tail_any (ops := [.ref s3.heap.objs.size, v]) ht hT hg (by with_unfolding_all rfl)

/-- the items of xs[lo:hi] -/
noncomputable def cutV (xs : List V) (lo hi : Option Int) : List V := (xs.drop (HT.sIx xs.length 0 lo)).take (HT.sIx xs.length xs.length hi - HT.sIx xs.length 0 lo)
theorem cutV_length (xs : List V) (lo hi : Option Int) : (cutV xs lo hi).length ≤ xs.length := by
  unfold cutV
  rw [List.length_take, List.length_drop]
  omega
end
end L2

namespace L2
open PySem PySem.Spec PyProof.Rows

/-! ### places -/
/-- the place that an index of any sign means -/
noncomputable def ixN (n : Nat) (i : Int) : Option Nat := if 0 ≤ i then (if i < n then some i.toNat else none) else if -(n : Int) ≤ i then some (i + n).toNat else none
noncomputable def atI {α : Type} (xs : List α) (i : Int) : Option α := (ixN xs.length i).bind fun j => xs[j]?
theorem ixN_seq {n : Nat} {i : Int} {j : Nat} (h : ixN n i = some j) : seqIndex? i n = some j ∧ j < n ∧ -(n : Int) ≤ i ∧ i < n := by
  unfold ixN at h
  by_cases h0 : 0 ≤ i
  · rw [if_pos h0] at h
    by_cases h1 : i < n
    · rw [if_pos h1] at h
      have e : i.toNat = j := Option.some.inj h
      exact ⟨by rw [seqIndex_of h0 h1, e], by omega, by omega, h1⟩
    · rw [if_neg h1] at h; cases h
  · rw [if_neg h0] at h
    by_cases h1 : -(n : Int) ≤ i
    · rw [if_pos h1] at h
      have e : (i + n).toNat = j := Option.some.inj h
      exact ⟨by rw [seqIndex_neg (by omega) h1, e], by omega, h1, by omega⟩
    · rw [if_neg h1] at h; cases h
theorem atI_get {α : Type} {xs : List α} {i : Int} {v : α} (h : atI xs i = some v) : ∃ j, seqIndex? i xs.length = some j ∧ xs[j]? = some v ∧ j < xs.length ∧ -(xs.length : Int) ≤ i ∧ i < xs.length := by
  unfold atI at h
  cases e : ixN xs.length i with
  | none => rw [e] at h; cases h
  | some j =>
    rw [e] at h
    obtain ⟨h1, h2, h3, h4⟩ := ixN_seq e
    exact ⟨j, h1, h, h2, h3, h4⟩
theorem atI_nat {α : Type} {xs : List α} {j : Nat} {v : α} (h : xs[j]? = some v) : atI xs (j : Int) = some v := by
  have hj : j < xs.length := (List.getElem?_eq_some_iff.mp h).1
  have e : ixN xs.length (j : Int) = some j := by
    unfold ixN
    rw [if_pos (by omega), if_pos (by omega)]; simp
  unfold atI; rw [e]; exact h
/-! ### what may be subscripted -/
/-- what stands as an index of a plain subscript -/
noncomputable def PlainIx (b : Expr) : Prop := ∀ o i, subscripted b false o i = operate [o, i] (getItem o i)
/-- a subscript by values -/
noncomputable def IxR (X : Cx) (r : R2) : Prop :=
  ∀ (value slice : Expr) (pins : List (Addr × Obj)) (s : Shared) (σ : St) (H : Hp) (x y : V) (v u : Value) (Q : VK), Inv X pins σ H s → RelV x v → RelV y u → r x y H Q →
    subscripted slice false v u = operate [v, u] (getItem v u) → wpAny (model X.prog X.w) X.A (subscriptTail value slice v u) (EP X pins σ Q) X.xe s
/-- a call of a builtin's method by values: the receiver, the arguments -/
noncomputable def MtR (X : Cx) (id : String) (r : V → List V → Hp → VK → Prop) : Prop :=
  ∀ (pins : List (Addr × Obj)) (s : Shared) (σ : St) (H : Hp) (x : V) (xs : List V) (v : Value) (us : List Value) (Q : VK), Inv X pins σ H s → RelV x v → Vals xs us → r x xs H Q →
    wpAny (model X.prog X.w) X.A (call (.builtin id) (v :: us)) (EP X pins σ Q) X.xe s
section
variable {X : Cx} {a b : Expr} {ta tb : TE} {pos : Pos}
/-- a[b] -/
theorem pe_ix {r : R2} (hr : IxR X r) (ha : PE X a ta) (hb : PE X b tb) (hs : PlainIx b) : PE X (.Subscript a b pos) (tOp r ta tb) := by
  intro pins s σ H Q I h
  exact Subscript_ (binT ha hb I h fun v u s2 x y H2 I2 rx ry q => hr a b pins s2 σ H2 x y v u Q I2 rx ry q (hs _ _))

noncomputable def rIxL (K : PySem.W.Frag) : R2 := fun x y H Q => Ex4_5 (fun p xs i v => x = .ref p) (fun p xs i v => y = .int i) (fun p xs i v => SqL K H p xs) (fun p xs i v => atI xs i = some v) (fun p xs i v => Q v H)
noncomputable def rIxT (K : PySem.W.Frag) : R2 := fun x y H Q => Ex4_5 (fun p xs i v => x = .ref p) (fun p xs i v => y = .int i) (fun p xs i v => SqT K H p xs) (fun p xs i v => atI xs i = some v) (fun p xs i v => Q v H)
noncomputable def rIxS : R2 := fun x y H Q => Ex3_5 (fun z i c => x = .str z) (fun z i c => y = .int i) (fun z i c => z.length ≤ sizeLine) (fun z i c => atI z.cps.toList i = some c) (fun z i c => Q (.str ⟨#[c]⟩) H)
theorem ix_list : IxR X (rIxL X.K) := by
  intro value slice pins s σ H x y v u Q I rx ry h hs
  obtain ⟨p, xs, i, z, rfl, rfl, hq, he, q⟩ := h
  cases rx
  obtain ⟨t, rfl⟩ := ry
  obtain ⟨its, r, pl, hz⟩ := I.list hq
  obtain ⟨j, h1, h2, h3, h4, h5⟩ := atI_get he
  obtain ⟨w, ew, rw'⟩ := r.get h2
  have hl := r.length
  have hn := line63
  have fin : EP X pins σ Q w s := ⟨z, H, I, rw', q⟩
  by_cases h0 : 0 ≤ i
  · have hj : i.toNat = j := by
      rw [seqIndex_of h0 h5] at h1
      exact Option.some.inj h1
    exact item_listR pl.isList h0 (by omega) (by rw [hj]; simpa using ew) fin hs
  · have hj : (i + (its.toArray.size : Int)).toNat = j := by
      rw [seqIndex_neg (by omega) h4] at h1
      rw [List.size_toArray, ← hl]
      exact Option.some.inj h1
    exact subscriptTail_builtinR (x := w) pl.isList.typeIs slot_list_getitem.lookup
      (wpAny_getItem_list_neg (Q := fun r s' => r = w ∧ EP X pins σ Q r s') pl.isList (by omega) (by rw [List.size_toArray] <;> omega) (by omega) (by rw [hj]; simpa using ew) ⟨rfl, fin⟩) hs
theorem ix_tup : IxR X (rIxT X.K) := by
  intro value slice pins s σ H x y v u Q I rx ry h hs
  obtain ⟨p, xs, i, z, rfl, rfl, hq, he, q⟩ := h
  cases rx
  obtain ⟨t, rfl⟩ := ry
  obtain ⟨its, r, pl, hz⟩ := I.tuple hq
  obtain ⟨j, h1, h2, h3, h4, h5⟩ := atI_get he
  obtain ⟨w, ew, rw'⟩ := r.get h2
  have hl := r.length
  have hn := line63
  have fin : EP X pins σ Q w s := ⟨z, H, I, rw', q⟩
  exact subscriptTail_builtinR (x := w) pl.typeIs slot_tuple_getitem.lookup
    (getItem_tuple (j := j) (Q := fun r s' => r = w ∧ EP X pins σ Q r s') pl (by omega) (by omega) (by rw [List.size_toArray, ← hl]; exact h1) (by simpa using ew) ⟨rfl, fin⟩) hs
theorem ix_str : IxR X rIxS := by
  intro value slice pins s σ H x y v u Q I rx ry h hs
  obtain ⟨z, i, c, rfl, rfl, hz, he, q⟩ := h
  obtain ⟨t, rfl⟩ := rx
  obtain ⟨t', rfl⟩ := ry
  obtain ⟨j, h1, h2, h3, h4, h5⟩ := atI_get he
  have hl : z.cps.toList.length = z.length := by simp [Str.length]
  rw [hl] at h1 h4 h5
  have hn := line63
  exact tail_any (typeIs_str s z t) slot_str_getitem.lookup (getItem_str (c := c) (by
    have e1 : decide (i < -(2 ^ 63 : Int)) = false := decide_eq_false (by omega)
    have e2 : decide (i ≥ 2 ^ 63) = false := decide_eq_false (by omega)
    rw [e1, e2, Bool.or_false]) (by rw [h1]; simpa using h2) ⟨.str ⟨#[c]⟩, H, I.tok _, ⟨_, rfl⟩, q⟩) hs
/-! ### slices -/
theorem slice_bounds (lo hi : Option Int) (n : Nat) : (sliceBounds lo hi none n).1 = ((HT.sIx n 0 lo : Nat) : Int) ∧ (sliceBounds lo hi none n).2.1 = ((HT.sIx n n hi : Nat) : Int) ∧ (sliceBounds lo hi none n).2.2 = 1 := by
  refine ⟨?_, ?_, rfl⟩
  · cases lo with
    | none => simp [sliceBounds, HT.sIx]
    | some i =>
      simp only [sliceBounds, HT.sIx, Option.getD_none, show (1 : Int) > 0 by decide, if_true]
      by_cases h : i < 0
      · simp only [h, if_true] <;> omega
      · simp only [h, if_false] <;> omega
  · cases hi with
    | none => simp [sliceBounds, HT.sIx]
    | some i =>
      simp only [sliceBounds, HT.sIx, Option.getD_none, show (1 : Int) > 0 by decide, if_true]
      by_cases h : i < 0
      · simp only [h, if_true] <;> omega
      · simp only [h, if_false] <;> omega
theorem slicePick_cut (its : List Value) (lo hi : Option Int) : slicePick its.toArray lo hi none = ((its.drop (HT.sIx its.length 0 lo)).take (HT.sIx its.length its.length hi - HT.sIx its.length 0 lo)).toArray := by
  obtain ⟨h1, h2, h3⟩ := slice_bounds lo hi its.toArray.size
  unfold slicePick
  rw [h1, h2, h3]
  simp only [sliceRange_one, pick_run, List.size_toArray] <;> rfl
/-- xs[lo:hi] of a list: a new list -/
noncomputable def rSlL (K : PySem.W.Frag) : V → Option Int → Option Int → Hp → VK → Prop := fun x lo hi H Q => Ex2_3 (fun a xs => x = .ref a) (fun a xs => SqL K H a xs) (fun a xs => ∀ p, H p = none → Q (.ref p) (upd H p (.lst (cutV xs lo hi))))
theorem sl_list : SlR X (rSlL X.K) := by
  intro pins s σ H x v vl vu lo hi sl Q I rx hs pl pu h
  obtain ⟨a, xs, rfl, hx, q⟩ := h
  cases rx
  obtain ⟨its, r, ht, hz⟩ := I.list hx
  have hlen := r.length
  refine ⟨"list", _, slot_list_getitem.lookup, ht.isList.typeIs, ?_⟩
  refine wpAny_getItem_list_slice ht.isList hs pl pu .none (by simp) ?_ (by rw [List.size_toArray] <;> omega)
  rw [slicePick_cut, ← hlen]
  refine ⟨.ref s.heap.objs.size, _, I.laid (t' := s.toks) (o := .lst (cutV xs lo hi)) (fun b ob q => Heap.get?_push_of_some _ q) (Nat.le_refl _) ?_, rfl, q _ (I.hok.fresh (Nat.le_refl _))⟩
  exact ⟨Nat.le_trans (cutV_length xs lo hi) hz, _, 0, (r.drop (HT.sIx xs.length 0 lo)).take (HT.sIx xs.length xs.length hi - HT.sIx xs.length 0 lo), Heap.get?_push_size _ rfl⟩

/-! ### in, not in: flat items -/
noncomputable def flatV : V → Bool
  | .non => true
  | .bl _ => true
  | .int _ => true
  | .str _ => true
  | _ => false
/-- == of flat values -/
noncomputable def eqV : V → V → Bool
  | .non, .non => true
  | .bl a, .bl b => a == b
  | .bl a, .int b => (if a then 1 else 0) == b
  | .int a, .bl b => a == (if b then 1 else 0)
  | .int a, .int b => a == b
  | .str a, .str b => a == b
  | _, _ => false
theorem eqAt_V {A : Around} {s : Shared} {y x : V} {u v : Value} (ry : RelV y u) (rx : RelV x v) (fy : flatV y = true) (fx : flatV x = true) : SeqAt.EqAt A s u v (eqV y x) := by
  cases y with
  | non =>
    cases ry
    cases x with
    | non => cases rx; exact SeqAt.EqAt.same _
    | bl b => cases rx; exact SeqAt.EqAt.none_bool b
    | int b => obtain ⟨t, rfl⟩ := rx; exact SeqAt.EqAt.none_int b t
    | str b => obtain ⟨t, rfl⟩ := rx; exact SeqAt.EqAt.none_str b t
    | _ => exact absurd (show false = true from fx) Bool.false_ne_true
  | bl a =>
    cases ry
    cases x with
    | non => cases rx; exact SeqAt.EqAt.bool_none a
    | bl b => cases rx; exact SeqAt.EqAt.bool_bool a b
    | int b => obtain ⟨t, rfl⟩ := rx; exact SeqAt.EqAt.bool_int a b t
    | str b => obtain ⟨t, rfl⟩ := rx; exact SeqAt.EqAt.bool_str a b t
    | _ => exact absurd (show false = true from fx) Bool.false_ne_true
  | int a =>
    obtain ⟨t', rfl⟩ := ry
    cases x with
    | non => cases rx; exact SeqAt.EqAt.int_none a t'
    | bl b => cases rx; exact SeqAt.EqAt.int_bool a t' b
    | int b => obtain ⟨t, rfl⟩ := rx; exact SeqAt.EqAt.int_int a t' b t
    | str b => obtain ⟨t, rfl⟩ := rx; exact SeqAt.EqAt.int_str a t' b t
    | _ => exact absurd (show false = true from fx) Bool.false_ne_true
  | str a =>
    obtain ⟨t', rfl⟩ := ry
    cases x with
    | non => cases rx; exact SeqAt.EqAt.str_none a t'
    | bl b => cases rx; exact SeqAt.EqAt.str_bool a t' b
    | int b => obtain ⟨t, rfl⟩ := rx; exact SeqAt.EqAt.str_int a t' b t
    | str b => obtain ⟨t, rfl⟩ := rx; exact SeqAt.EqAt.str_str a t' b t
    | _ => exact absurd (show false = true from fx) Bool.false_ne_true
  | _ => exact absurd (show false = true from fy) Bool.false_ne_true
/-- the items' answers, read off the values (a value's own answer does not lean on its token) -/
noncomputable def eqU (x : V) (u : Value) : Bool := match u with
  | .none => eqV .non x
  | .bool b => eqV (.bl b) x
  | .int i _ => eqV (.int i) x
  | .str z _ => eqV (.str z) x
  | _ => false
theorem eqU_of {x y : V} {u : Value} (r : RelV y u) (f : flatV y = true) : eqU x u = eqV y x := by
  cases y with
  | non => cases r; rfl
  | bl b => cases r; rfl
  | int i => obtain ⟨t, rfl⟩ := r; rfl
  | str z => obtain ⟨t, rfl⟩ := r; rfl
  | _ => exact absurd (show false = true from f) Bool.false_ne_true
theorem any_eqU {x : V} {xs : List V} {us : List Value} (h : Vals xs us) (f : xs.all flatV = true) : us.any (eqU x) = xs.any fun y => eqV y x := by
  induction h with
  | nil => rfl
  | cons r _ ih =>
    rw [List.all_cons, Bool.and_eq_true] at f
    rw [List.any_cons, List.any_cons, eqU_of r f.1, ih f.2]
theorem mem_eqAt {A : Around} {s : Shared} {x : V} {v : Value} (rx : RelV x v) (fx : flatV x = true) {xs : List V} {us : List Value} (h : Vals xs us) (f : xs.all flatV = true) (u : Value) (hu : u ∈ us) : SeqAt.EqAt A s u v (eqU x u) := by
  induction h with
  | nil => cases hu
  | cons r _ ih =>
    rw [List.all_cons, Bool.and_eq_true] at f
    rcases List.mem_cons.mp hu with rfl | hu
    · rw [eqU_of r f.1]; exact eqAt_V r rx f.1 fx
    · exact ih f.2 hu
noncomputable def inV (x : V) (xs : List V) : Bool := xs.any fun y => eqV y x
/-- x in a list or tuple of flat items -/
noncomputable def rIn (K : PySem.W.Frag) (neg : Bool) : R2 := fun x y H Q => Ex2_5 (fun p xs => y = .ref p) (fun p xs => (SqL K H p xs ∨ SqT K H p xs)) (fun p xs => flatV x = true) (fun p xs => xs.all flatV = true) (fun p xs => Q (.bl (if neg then !inV x xs else inV x xs)) H)
theorem op_in_seq : OpR X (compareOp .In) (rIn X.K false) := by
  intro pins s σ H x y v u Q I rx ry h
  obtain ⟨p, xs, rfl, hq, fx, fs, q⟩ := h
  cases ry
  rcases hq with hq | hq
  · obtain ⟨its, r, pl, hz⟩ := I.list hq
    refine SeqAt.in_listAt (eqU x) pl.isList (fun w hw => mem_eqAt rx fx r fs w (by simpa using hw)) ⟨.bl _, H, I, rfl, ?_⟩
    rw [show its.toArray.any (eqU x) = its.any (eqU x) by simp, any_eqU r fs]
    exact q
  · obtain ⟨its, r, pl, hz⟩ := I.tuple hq
    refine SeqAt.in_tupleAt (eqU x) pl (fun w hw => mem_eqAt rx fx r fs w (by simpa using hw)) ⟨.bl _, H, I, rfl, ?_⟩
    rw [show its.toArray.any (eqU x) = its.any (eqU x) by simp, any_eqU r fs]
    exact q
/-! ### len, list(x), tuple(x) of any list or tuple that is read -/
theorem call_len_seq : CallR X (.builtin "len") (fun xs H Q => ∃ p ys, xs = [.ref p] ∧ (SqL X.K H p ys ∨ SqT X.K H p ys) ∧ Q (.int ys.length) H) := by
  intro pins s σ H xs us Q I r h
  obtain ⟨p, ys, rfl, hq, q⟩ := h
  obtain ⟨u, rfl, rx⟩ := vals1 r
  cases rx
  have hn := line63
  rcases hq with hq | hq
  · obtain ⟨its, r', pl, hz⟩ := I.list hq
    have hlen := r'.length
    exact Calls.call_len_list pl.isList (by simp only [List.size_toArray] <;> omega) ⟨.int ys.length, H, I.tok _, ⟨s.toks + 1, by rw [List.size_toArray, hlen]⟩, q⟩
  · obtain ⟨its, r', pl, hz⟩ := I.tuple hq
    have hlen := r'.length
    exact len_tuple pl (by simp only [List.size_toArray] <;> omega) ⟨.int ys.length, H, I.tok _, ⟨s.toks + 1, by rw [List.size_toArray, hlen]⟩, q⟩
theorem call_len_str : CallR X (.builtin "len") (fun xs H Q => ∃ z, xs = [.str z] ∧ z.length ≤ sizeLine ∧ Q (.int z.length) H) := by
  intro pins s σ H xs us Q I r h
  obtain ⟨z, rfl, hz, q⟩ := h
  obtain ⟨u, rfl, t, rfl⟩ := vals1 r
  have hn := line63
  exact len_str (by omega) ⟨.int z.length, H, I.tok _, ⟨_, rfl⟩, q⟩
theorem call_list_of : CallR X (.type "list") (fun xs H Q => ∃ p ys, xs = [.ref p] ∧ (SqL X.K H p ys ∨ SqT X.K H p ys) ∧ ∀ l, H l = none → Q (.ref l) (upd H l (.lst ys))) := by
  intro pins s σ H xs us Q I r h
  obtain ⟨p, ys, rfl, hq, q⟩ := h
  obtain ⟨u, rfl, rx⟩ := vals1 r
  cases rx
  have fin : ∀ (its : List Value), Vals ys its → ys.length ≤ sizeLine → ∀ (h' : Heap) (c' : Nat), (∀ b o', s.heap.get? b = some o' → h'.get? b = some o') →
      h'.get? s.heap.objs.size = some { cls := .type "list", dict := none, data := .seq its.toArray c', slots := #[] } → EP X pins σ Q (.ref s.heap.objs.size) { s with heap := h' } := fun its r' hz h' c' kp e =>
    ⟨.ref s.heap.objs.size, _, I.laid (t' := s.toks) kp (Nat.le_refl _) (show ObjOk X.prog X.w _ h' _ (.lst ys) from ⟨hz, its, c', r', e⟩), rfl, q _ (I.hok.fresh (Nat.le_refl _))⟩
  rcases hq with hq | hq
  · obtain ⟨its, r', pl, hz⟩ := I.list hq
    have hlen := r'.length
    obtain ⟨o, ho, hc, n, hd⟩ := pl.isList
    exact call_list_seq p (.inl rfl) ho hc hd (fun h' c' kp e => fin its r' hz h' c' kp e) (by simp only [List.size_toArray] <;> omega)
  · obtain ⟨its, r', pl, hz⟩ := I.tuple hq
    have hlen := r'.length
    obtain ⟨o, ho, hc, n, hd⟩ := pl
    exact call_list_seq p (.inr rfl) ho hc hd (fun h' c' kp e => fin its r' hz h' c' kp e) (by simp only [List.size_toArray] <;> omega)
/-! ### the call of a builtin's method: o.m(..) -/
/-- the value is of that builtin type -/
noncomputable def tyV (K : PySem.W.Frag) (T : String) (x : V) (H : Hp) : Prop := match x with
  | .str _ => T = "str"
  | .int _ => T = "int"
  | .ref p => (T = "list" ∧ ∃ xs, SqL K H p xs) ∨ (T = "tuple" ∧ ∃ o, K.lookup p = some o ∧ o.cls = .type "tuple" ∧ o.dict = none) ∨
      (T = "dict" ∧ ((∃ kvs, H p = some (.dK kvs)) ∨ ∃ kvs, H p = some (.dT kvs))) ∨ (T = "set" ∧ ∃ S n, H p = some (.set S n))
  | _ => False
theorem tyV_is {pins : List (Addr × Obj)} {σ : St} {H : Hp} {s : Shared} {T : String} {x : V} {v : Value} (I : Inv X pins σ H s) (r : RelV x v) (ty : tyV X.K T x H) :
    s.TypeIs v T ∧ ∀ a, v = .ref a → ∃ ob, s.heap.get? a = some ob ∧ ob.dict = none := by
  cases x with
  | str z =>
    obtain ⟨t, rfl⟩ := r
    cases (show T = "str" from ty)
    exact ⟨typeIs_str s z t, fun _ e => nomatch e⟩
  | int i =>
    obtain ⟨t, rfl⟩ := r
    cases (show T = "int" from ty)
    exact ⟨typeIs_int s i t, fun _ e => nomatch e⟩
  | ref p =>
    cases r
    rcases ty with ⟨rfl, xs, hq⟩ | ⟨rfl, o, hk, hc, hd⟩ | ⟨rfl, hk⟩ | ⟨rfl, S, n, hk⟩
    · obtain ⟨its, _, pl, _⟩ := I.list hq
      refine ⟨pl.isList.typeIs, fun a e => ?_⟩
      cases e
      obtain ⟨o, n, e, c, hd, _⟩ := pl
      exact ⟨o, e, hd⟩
    · refine ⟨⟨o, I.kIn p o hk, hc⟩, fun a e => ?_⟩
      cases e
      exact ⟨o, I.kIn _ o hk, hd⟩
    · have z : ∃ o, s.heap.get? p = some o ∧ o.ExactDict := by
        rcases hk with ⟨kvs, hk⟩ | ⟨kvs, hk⟩
        · obtain ⟨_, _, _, _, o, _, _, e, ex, _⟩ := I.hok p _ hk
          exact ⟨o, e, ex⟩
        · obtain ⟨_, _, _, _, o, _, _, e, ex, _⟩ := I.hok p _ hk
          exact ⟨o, e, ex⟩
      obtain ⟨o, e, ex⟩ := z
      refine ⟨⟨o, e, ex.1⟩, fun a e2 => ?_⟩
      cases e2
      exact ⟨o, e, ex.2.1⟩
    · obtain ⟨o, _, _, _, e, ex, _⟩ := I.hok p _ hk
      refine ⟨⟨o, e, ex.1⟩, fun a e2 => ?_⟩
      cases e2
      exact ⟨o, e, ex.2.1⟩
  | _ => exact False.elim ty
noncomputable def tBM (K : PySem.W.Frag) (T : String) (r : V → List V → Hp → VK → Prop) (to : TE) (t : TA) : TE := fun σ H Q => to σ H fun x H1 => tyV K T x H1 ∧ t σ H1 fun xs H2 => r x xs H2 Q
variable {o e : Expr} {es : List Expr} {to : TE} {t : TA} {name : Str} {apos cpos : Pos} {T id : String} {r : V → List V → Hp → VK → Prop}
theorem pe_bm (pa : PlainAttrs T) (slot : Slot T name id) (hty : typeOf (.builtin id) = pure (.type "method_descriptor")) (hm : MtR X id r) (ho : PE X o to) (ha : PA X (e :: es) t)
    (hbase : attributeBase o name X.env (eval o X.env) = eval o X.env := by rfl)
    (hfew : ((backTo cpos (starEach (e :: es) X.env)).all (fun x => !x.1) && (backToKw cpos (keywordEach [] X.env)).all (fun x => x.1.isSome)
      && decide ((e :: es).length + ([] : List Keyword).length + (if ([] : List Keyword).isEmpty then 0 else 1) < 30)) = true := by rfl)
    (hline : (apos.endLine == cpos.line) = true := by rfl) (hs : starEach (e :: es) X.env = (false, eval e X.env) :: starEach es X.env := by rfl) (hplain : (backTo cpos (starEach es X.env)).any (·.1) = false := by rfl) :
    PE X (.Call (.Attribute o name apos) (e :: es) [] cpos) (tBM X.K T r to t) := by
  intro pins s σ H Q I h
  refine wpAny_Call_method_late hbase hfew hline rfl (thn (ho pins s σ H _ I h) fun v s1 ⟨x, H1, I1, r1, ty, q1⟩ => ?_)
  obtain ⟨h1, h2⟩ := tyV_is I1 r1 ty
  refine ⟨T, id, pa, slot, hty, h1, h2, ?_⟩
  have hA := ha cpos pins s1 σ H1 _ I1 q1
  rw [hs] at hA ⊢
  refine Calls.callWith_builtin (by show (false || (backTo cpos (starEach es X.env)).any (·.1)) = false; rw [hplain] <;> rfl) (Calls.evalArgs_plain ?_)
  exact thn hA fun us s2 ⟨vs, H2, I2, r2, q2⟩ => hm pins s2 σ H2 x vs v us Q I2 r1 r2 q2
/- xs.append(e), list.index on a module's tuple .. are MtR facts of 06m -/
end
end L2

namespace L2
open PySem PySem.Spec PyProof.Rows

noncomputable def MtM (X : Cx) (id : String) (r : V → List V → Hp → VK → Prop) : Prop :=
  ∀ (pins : List (Addr × Obj)) (s : Shared) (σ : St) (H : Hp) (x : V) (xs : List V) (v : Value) (us : List Value) (Q : VK), Inv X pins σ H s → RelV x v → Vals xs us → r x xs H Q →
    wpAny (model X.prog X.w) X.A (call (.builtin id) (v :: us)) (EP X pins σ Q) X.xe s

/-! ### lists of values -/
theorem Vals.one {x : V} {us : List Value} (r : Vals [x] us) : ∃ u, us = [u] ∧ RelV x u := vals1 r
theorem Vals.rep {xs : List V} {us : List Value} (h : Vals xs us) : ∀ k : Nat, Vals (List.replicate k xs).flatten (List.replicate k us).flatten
  | 0 => .nil
  | k + 1 => by
    rw [List.replicate_succ, List.replicate_succ, List.flatten_cons, List.flatten_cons]
    exact Vals.append h (Vals.rep h k)
theorem foldl_rep (its : List Value) : ∀ (k : Nat) (acc : List Value),
    List.foldl (fun x1 x2 => x1 ++ x2) acc.toArray (List.replicate k its.toArray) = (acc ++ (List.replicate k its).flatten).toArray
  | 0, acc => by simp
  | k + 1, acc => by
    have e : acc.toArray ++ its.toArray = (acc ++ its).toArray := by simp
    have e2 : (acc ++ its) ++ (List.replicate k its).flatten = acc ++ (List.replicate (k + 1) its).flatten := by
      rw [List.replicate_succ, List.flatten_cons, List.append_assoc]
    rw [← e2, ← foldl_rep its k (acc ++ its), ← e, List.replicate_succ, List.foldl_cons]

section
variable {X : Cx} {pins : List (Addr × Obj)} {σ : St} {H : Hp} {s : Shared} {l b : Addr} {xs ys zs : List V}

/-! ### the two steps: a tracked list is rewritten, a new list is laid -/
theorem Inv.lset {its its' : List Value} {n : Nat} {f : Array Value → Array Value} {t' : Nat} (I : Inv X pins σ H s) (hH : H l = some (.lst xs))
    (e : s.heap.get? l = some { cls := .type "list", data := .seq its.toArray n }) (hf : f its.toArray = its'.toArray) (hv : Vals ys its') (hz : ys.length ≤ sizeLine) :
    Inv X pins σ (upd H l (.lst ys)) { s with heap := s.heap.update l (Obj.mapSeq f), toks := t' } := by
  have q := PySem.IsL.update e f
  rw [hf] at q
  refine I.write (x := l) (e := l) (by rw [hH]; exact trivial) (.inl rfl) (fun b' u hb hu => (Heap.get?_update_other s.heap (Obj.mapSeq f) (Ne.symm hb)).trans hu) ⟨_, q⟩ ?_
  exact ⟨hz, its', _, hv, q⟩
theorem Inv.lnew {its : List Value} {t' : Nat} (I : Inv X pins σ H s) (hv : Vals ys its) (hz : ys.length ≤ sizeLine) :
    Inv X pins σ (upd H s.heap.objs.size (.lst ys)) { s with heap := s.heap.push { cls := .type "list", data := .seq its.toArray }, toks := t' } :=
  I.laid (fun _ _ q => Heap.get?_push_of_some _ q) (Nat.le_refl _) ⟨hz, its, 0, hv, Heap.get?_push_size _ rfl⟩
theorem Inv.fresh (I : Inv X pins σ H s) : H s.heap.objs.size = none := I.hok.fresh (Nat.le_refl _)
theorem Inv.lstM (I : Inv X pins σ H s) (hH : H l = some (.lst xs)) : xs.length ≤ sizeLine ∧ ∃ (its : List Value) (n : Nat), Vals xs its ∧ xs.length = its.length ∧ s.heap.get? l = some { cls := .type "list", data := .seq its.toArray n } := by
  obtain ⟨z, its, n, r, e⟩ := I.hok l _ hH
  exact ⟨z, its, n, r, r.length, e⟩

theorem notLongL {n : Nat} (h : n ≤ sizeLine) : Builtin.List.listTooLong n = false := by
  unfold Builtin.List.listTooLong
  exact decide_eq_false (by omega)
end

section
variable {X : Cx}

/-! ### methods -/
noncomputable def rAppend : V → List V → Hp → VK → Prop := fun x vs H Q => Ex3_5 (fun l xs y => x = .ref l) (fun l xs y => vs = [y]) (fun l xs y => H l = some (.lst xs)) (fun l xs y => xs.length < sizeLine) (fun l xs y => Q .non (upd H l (.lst (xs ++ [y]))))
theorem mt_append : MtM X "list.append" rAppend := by
  intro pins s σ H x vs v us Q I rx rv h
  obtain ⟨l, xs, y, rfl, rfl, hH, hz, q⟩ := h
  cases rx
  obtain ⟨u, rfl, ru⟩ := rv.one
  obtain ⟨z, its, n, r, hl, e⟩ := I.lstM hH
  refine call_meets F.slot_list_append ⟨_, e, rfl⟩ F.entry_list_append (F.args_list_append_2 _ _) (PySem.list_append l its.toArray n u (by rw [List.size_toArray]; omega)) ⟨e, ?_⟩
  refine ⟨.non, _, I.lset (its' := its ++ [u]) hH e (by simp) (r.append (.cons ru .nil)) ?_, rfl, q⟩
  rw [List.length_append, List.length_singleton]
  omega

noncomputable def rExtend : V → List V → Hp → VK → Prop := fun x vs H Q => Ex4_6 (fun l b xs zs => x = .ref l) (fun l b xs zs => vs = [.ref b]) (fun l b xs zs => H l = some (.lst xs)) (fun l b xs zs => H b = some (.lst zs)) (fun l b xs zs => xs.length + zs.length ≤ sizeLine) (fun l b xs zs => Q .non (upd H l (.lst (xs ++ zs))))
theorem mt_extend : MtM X "list.extend" rExtend := by
  intro pins s σ H x vs v us Q I rx rv h
  obtain ⟨l, b, xs, zs, rfl, rfl, hH, hB, hz, q⟩ := h
  cases rx
  obtain ⟨u, rfl, ru⟩ := rv.one
  cases ru
  obtain ⟨z, its, n, r, hl, e⟩ := I.lstM hH
  obtain ⟨z2, its2, n2, r2, hl2, e2⟩ := I.lstM hB
  have hsz : its.toArray.size + its2.toArray.size ≤ sizeLine := by rw [List.size_toArray, List.size_toArray]; omega
  have hlong : ¬ (!its.toArray.isEmpty && Builtin.List.listTooLong (its.toArray.size + its2.toArray.size)) = true := by
    rw [notLongL hsz, Bool.and_false]
    exact Bool.false_ne_true
  refine call_meets F.slot_list_extend ⟨_, e, rfl⟩ F.entry_list_extend (F.args_list_extend_2 _ _)
    (AutoSeq1.list_extend_list_list_0 l its.toArray n b its2.toArray n2 hlong (by rw [List.size_toArray]; omega) (by omega)) ⟨e, e2, ?_⟩
  refine ⟨.non, _, I.lset (its' := its ++ its2) hH e (by simp) (r.append r2) ?_, rfl, q⟩
  rw [List.length_append]
  omega

/-! ### list + list, list += list, list * int -/
noncomputable def rCat : R2 := fun x y H Q => Ex4_6 (fun l b xs zs => x = .ref l) (fun l b xs zs => y = .ref b) (fun l b xs zs => H l = some (.lst xs)) (fun l b xs zs => H b = some (.lst zs)) (fun l b xs zs => xs.length + zs.length ≤ sizeLine) (fun l b xs zs => ∀ p, H p = none → Q (.ref p) (upd H p (.lst (xs ++ zs))))
theorem op_cat : OpR X (binaryOp .Add) rCat := by
  intro pins s σ H x y v u Q I rx ry h
  obtain ⟨l, b, xs, zs, rfl, rfl, hH, hB, hz, q⟩ := h
  cases rx
  cases ry
  obtain ⟨z, its, n, r, hl, e⟩ := I.lstM hH
  obtain ⟨z2, its2, n2, r2, hl2, e2⟩ := I.lstM hB
  refine PySem.P.add_list e e2 ?_ (by rw [List.size_toArray, List.size_toArray]; omega)
  have ea : its.toArray ++ its2.toArray = (its ++ its2).toArray := by simp
  rw [ea]
  exact ⟨.ref _, _, I.lnew (t' := s.toks) (r.append r2) (by rw [List.length_append]; omega), rfl, q _ I.fresh⟩
/-- a list times an int (a negative one is nothing) -/
noncomputable def rRep : R2 := fun x y H Q => ∃ l k xs, x = .ref l ∧ y = .int k ∧ H l = some (.lst xs) ∧ -(2 ^ 63) ≤ k ∧ k < 2 ^ 63 ∧ xs.length * k.toNat ≤ sizeLine ∧
  ∀ p, H p = none → Q (.ref p) (upd H p (.lst (List.replicate k.toNat xs).flatten))
theorem len_rep {α : Type} (xs : List α) (k : Nat) : (List.replicate k xs).flatten.length = k * xs.length := by
  induction k with
  | zero => simp
  | succ k ih => rw [List.replicate_succ, List.flatten_cons, List.length_append, ih, Nat.succ_mul, Nat.add_comm]
theorem op_rep : OpR X (binaryOp .Mult) rRep := by
  intro pins s σ H x y v u Q I rx ry h
  obtain ⟨l, k, xs, rfl, rfl, hH, h1, h2, hz, q⟩ := h
  cases rx
  obtain ⟨t, rfl⟩ := ry
  obtain ⟨z, its, n, r, hl, e⟩ := I.lstM hH
  have hlen : its.toArray.size * k.toNat ≤ sizeLine := by rw [List.size_toArray, ← hl]; exact hz
  have hcap : ¬ its.toArray.size * k.toNat > (2 ^ 63 - 1) / 8 := by
    have : (sizeLine : Nat) ≤ (2 ^ 63 - 1) / 8 := by decide
    omega
  have hfit : ¬ (!Builtin.List.listFitsIndex k) = true := by
    rw [fitsIndex_both h1 h2]
    exact Bool.false_ne_true
  have hlong : ¬ Builtin.List.listTooLong (its.toArray.size * k.toNat) = true := by
    rw [notLongL hlen]
    exact Bool.false_ne_true
  have hnew : List.foldl (fun x1 x2 => x1 ++ x2) #[] (List.replicate (if its.toArray.isEmpty = true then 0 else k.toNat) its.toArray) = (List.replicate k.toNat its).flatten.toArray := by
    have f0 : ∀ m : Nat, List.foldl (fun x1 x2 => x1 ++ x2) #[] (List.replicate m its.toArray) = (List.replicate m its).flatten.toArray := fun m => by
      have := foldl_rep its m []
      rw [List.nil_append] at this
      exact this
    rw [f0]
    cases its with
    | nil => simp
    | cons a r' => rw [if_neg (by simp)]
  refine wpAny_binaryOp_repeat_ref (T := "list") (U := "int") (by decide) ⟨_, e, rfl⟩ (fun s' => typeIs_int s' k t) noFill_list_mul F.fills_int_mul F.slot_int_rmul repeat_list F.slot_int_index.lookup
    (call_meets F.slot_int_rmul (typeIs_int s k t) F.entry_int_rmul (F.args_int_rmul_2 _ _) (int___rmul___int_list k t l its.toArray n)
      ⟨e, rfl, ⟨_, e, rfl⟩, call_meets F.slot_list_mul ⟨_, e, rfl⟩ F.entry_list_mul (F.args_list_mul_2 _ _) (AutoListH.list___mul___list_int_3 l its.toArray n k t hfit hcap hlong) ⟨e, ?_⟩⟩)
  rw [hnew]
  exact ⟨.ref _, _, I.lnew (t' := s.toks) (r.rep k.toNat) (by rw [len_rep, Nat.mul_comm]; exact hz), rfl, q _ I.fresh⟩

end

/-! ### xs[a:b] = ys -/
section
variable {prog : Program} {w : World} {A : Around} {E : Value → Shared → Prop} {s : Shared}
end

section
variable {X : Cx}
end
end L2

namespace Att
open PySem PySem.W PySem.Calls PyProof.Rows

/-! ### the script -/
theorem ints_of_wellAll {P : Params} {h : Heap} : ∀ (ns : List Int) (vs : List Value), WellAll P h vs (ns.map WData.int) → IntsAre vs ns := by
  intro ns
  induction ns with
  | nil =>
    intro vs w
    rw [List.map_nil] at w
    cases w
    exact .nil
  | cons n ns ih =>
    intro vs w
    rw [List.map_cons] at w
    cases w with
    | cons a b =>
      cases a
      exact .cons _ _ (ih _ b)

theorem script_of {l : OpenLaw} {n : Nat} (hn : l.most = some n) {P : Params} {h : Heap} {args : List WData} {vals : List Value}
    (hpre : l.row.toRowW.claim.pre args = true) (hwl : WellAll P h vals args) :
    ∃ a vs ns, vals = [Value.ref a] ∧ args = [WData.list (ns.map WData.int)] ∧ h.get? a = some { cls := .type "list", data := .seq vs.toArray } ∧ IntsAre vs ns ∧ ns.length ≤ n := by
  have hsh : WShape.hasAll [] args [.list .int] = true := (pre_splitW hpre).1
  have hc : l.pre.holds [] { args := args } = true := (pre_splitW hpre).2
  obtain ⟨d, r, rfl, h1, h2⟩ := hasAllW_cons hsh
  obtain rfl := hasAllW_nil h2
  obtain ⟨xs, rfl, h3⟩ := hasW_list h1
  obtain ⟨ns, rfl⟩ := items_int h3
  have hlen : ns.length ≤ n := by
    unfold OpenLaw.pre at hc
    have h4 : (WTm.not (.lt (.lit (.int (n : Int))) (.len (.arg 0)))).holds [] { args := [.list (ns.map .int)] } = true := by
      have h4 := (holds_andW hc).1
      rw [hn] at h4
      exact h4
    have h5 := condW_of h4 (w_not (w_lt w_lit (w_len_list (w_arg rfl))))
    rw [List.length_map] at h5
    refine Nat.le_of_not_lt fun q => ?_
    have q' : (n : Int) < ((ns.length : Nat) : Int) := by omega
    first
      | (rw [decide_eq_true q'] at h5; exact absurd h5 (by decide))
      | (simp at h5; omega)
  cases hwl with
  | cons w1 w2 =>
    cases w2
    cases w1 with
    | list ho hall => exact ⟨_, _, ns, rfl, rfl, ho, ints_of_wellAll ns _ hall, hlen⟩

theorem post_true (l : OpenLaw) (args : List WData) : l.row.toRowW.claim.post args (.bool true) args = true :=
  postW_of (r := l.row.toRowW) (X := (true == true))
    (show WShape.has [] (.bool true) .bool = true by first | rfl | decide | simp [WShape.has, WShape.arms, WShape.armsAll])
    (show (WTm.eq .res (.lit (.bool true))).value [] { args := args, res := some (.bool true), after := args } = some (.bool (true == true)) from w_eq_bool (w_res rfl) w_lit) rfl

/-- the same from a codeAny of the CALL (for a layer whose function contracts speak of calls) -/
theorem attach_call {l : OpenLaw} {n : Nat} {q : Program} {loose : List Str} {XP : (Str → Option Value) → Heap → Prop} {YP : World → Heap → Prop} {d : DefRec}
    (hn : l.most = some n) (hdf : d.params.defaults = [])
    (call : ∀ (w : World) (s₀ s₁ : Shared) (mg mb : Str → Option Value) (fa : Addr) (o : Obj) (pm cd doc : Value) (a : Addr) (vs : List Value) (ns : List Int),
      Ground q loose [] XP w s₀ mg mb s₁.heap → YP w s₁.heap →
      s₁.heap.get? fa = some o → o.data = .func (docDef d.name d.params d.body d.scope pm cd doc) → s₁.heap.CodeRec cd d.name → mg d.name = some (.ref fa) →
      s₁.heap.get? a = some { cls := .type "list", data := .seq vs.toArray } → IntsAre vs ns → ns.length ≤ n → s₁.gens = #[] →
      codeAny (model l.prog w) callerA (.call (.ref fa) ⟨[.ref a], []⟩) (fun r s' => r = .ok (.ret (.bool true)) ∧ OldK s₁.heap s'.heap ∧ s'.os = s₁.os ∧ AllBare s'.gens) s₁) :
    WalkO q loose XP YP l.row.toRowW d [] (fun f vs => PySem.call f vs) := by
  intro w s₀ s₁ mg mb G Y fa o pm cd doc dV kV ho hd hcd hD hmg hg args vals as hpre hlay hrd hwl hlo
  obtain rfl : dV = .none := Dflts.none hD hdf
  obtain rfl : kV = .none := Dflts.noKw hD
  obtain ⟨a, vs, ns, rfl, rfl, hobj, hints, hlen⟩ := script_of hn hpre hwl
  refine enter_call (codeAny_mono (call w s₀ s₁ mg mb fa o pm cd doc a vs ns G Y ho (fd_plain hd) hcd hmg hobj hints hlen hg) fun r s' hq => ?_)
  obtain ⟨rfl, h2, h3, h4⟩ := hq
  exact ⟨.inl ⟨.bool true, .bool true, [], rfl, fun _ => rfl, .bool true, post_true l _, fun _ => ⟨List.Pairwise.nil, fun _ hm => (nomatch hm)⟩⟩, h2, h3, h4⟩

/-! ### rules over ANY heap (no ledger) from facts about the written part K: the library's own take a ledger (News) for what they write -/
section
variable {prog : Program} {w : World} {A : Around} {E : Value → Shared → Prop} {s : Shared} {K : Frag}

noncomputable def ledger (h : Heap) (L d : Addr) : List (Addr × Obj) := (List.range h.objs.size).filterMap fun a => if a = L ∨ a = d then none else (h.get? a).map fun o => (a, o)
end
end Att

namespace L2
open PySem PySem.Spec PyProof.Rows

theorem vals_ints {vs : List Value} {ns : List Int} (h : IntsAre vs ns) : Vals (ns.map V.int) vs := by
  induction h with
  | nil => exact .nil
  | cons n t _ ih => exact .cons ⟨t, rfl⟩ ih
/-- nothing is tracked but the script, known to the object (or it is an object of the module) -/
noncomputable def Only (H : Hp) : Prop := ∀ b, H b = none ∨ ∃ o xs, H b = some (.frz o (.lst xs))

/-- THE HEAD: the law's promise, at the heap behind the top. F, the promise of the law's def, may use that base is part of the heap (so K.In base, base.Ns mainGlobals mg stand in Mod) -/
theorem law_call {P : Program} {w : World} {K : PySem.W.Frag} {mg mb : Str → Option Value} {CX : CXT} {k : Nat} {fa a : Addr} {fd : FuncData} {x : Str} {sp : Sp} {s₁ : Shared} {vs : List Value} {ns : List Int}
    (KX : K.In s₁.heap) (hns : s₁.heap.Ns mainGlobals mg) (hb : s₁.heap.Ns builtinsNs mb) (hbb : ∀ x : Str, x ≠ "__name__" → mb x = bootBuiltins x) (hlim : s₁.heap.NoLimit) (hg : s₁.gens = #[])
    (ha : s₁.heap.get? a = some { cls := .type "list", data := .seq vs.toArray }) (hi : IntsAre vs ns) (hl : ns.length ≤ sizeLine) (hr : Room k callerA)
    (F : ∀ base : Heap, K.In base → base.Ns mainGlobals mg → FnOk P w K mg base CX k fa fd [x] sp) (hbind : ∀ (s : Shared) (u : Value), BindsTo s fd ⟨[u], []⟩ [(x, u)])
    (hsp : ∀ H : Hp, Only H → SqL K H a (ns.map V.int) → sp [.ref a] H (fun v _ => v = .bl true) fun _ _ _ => False)
    (hCX : ∀ H e s', CX [] H s₁ (fun _ _ _ => False) e s' → False) :
    codeAny (model P w) callerA (.call (.ref fa) ⟨[.ref a], []⟩) (fun r s' => r = .ok (.ret (.bool true)) ∧ OldK s₁.heap s'.heap ∧ s'.os = s₁.os ∧ AllBare s'.gens) s₁ := by
  have rv := vals_ints hi
  have lenV := hi.length
  -- from an abstract heap in which nothing but the script may be tracked
  have core : ∀ H : Hp, Only H → SqL K H a (ns.map V.int) → HOk P w H s₁.heap → (∀ b, H b ≠ none → b = a) → (H a ≠ none → K.lookup a = none) →
      codeAny (model P w) callerA (.call (.ref fa) ⟨[.ref a], []⟩) (fun r s' => r = .ok (.ret (.bool true)) ∧ OldK s₁.heap s'.heap ∧ s'.os = s₁.os ∧ AllBare s'.gens) s₁ := by
    intro H hO hS hok hA hK
    have base_of : ∀ {b : Addr} {o : Obj}, s₁.heap.get? b = some o → H b = none → (hidT s₁.heap H).get? b = some o := fun e n => hidT_get e n
    have noA : ∀ {b : Addr} {o : Obj} {es : Array DictEntry} {ep : Nat}, s₁.heap.get? b = some o → o.data = .dict es ep → H b = none := fun {b o es ep} e d => by
      cases q : H b with
      | none => rfl
      | some u =>
        have e' : b = a := hA b (by rw [q]; simp)
        subst e'
        rw [ha] at e; cases e
        have d' : Data.seq vs.toArray _ = Data.dict es ep := d
        cases d'
    have nsK : ∀ {b : Addr} {m : Str → Option Value}, s₁.heap.Ns b m → (hidT s₁.heap H).Ns b m := fun {b m} ⟨o, es, ep, e, d, r⟩ => ⟨o, es, ep, base_of e (noA e d), d, r⟩
    have hKb : K.In (hidT s₁.heap H) := fun b o e => base_of (KX b o e) (by
      cases q : H b with
      | none => rfl
      | some u =>
        have e' : b = a := hA b (by rw [q]; simp)
        subst e'
        rw [hK (by rw [q]; simp)] at e; cases e)
    have hM : Mod K mg (hidT s₁.heap H) := ⟨hKb, nsK hns, ⟨mb, nsK hb, hbb⟩, let ⟨mc, h1, h2⟩ := hlim; ⟨mc, nsK h1, h2⟩⟩
    have e0 : Env0 P w K mg (hidT s₁.heap H) callerA [] s₁ H := ⟨rfl, hM, fun b o e => of_hidT e, Nat.le_of_eq (hidT_size _ _), trivial, fun b hb => absurd (show b ∈ ([] : List Addr) from hb) (by simp), hok, .of_eq hg⟩
    refine codeAny_mono ((F _ hKb (nsK hns)).run callerA [] s₁ H ⟨[.ref a], []⟩ [.ref a] [.ref a] _ _ hr e0 (hbind s₁ (.ref a)) (.cons rfl .nil) (hsp H hO hS)) fun r s' h => ?_
    cases r with
    | error e => exact (hCX H e s' h).elim
    | ok fl =>
      cases fl with
      | next => exact False.elim h
      | brk => exact False.elim h
      | cont => exact False.elim h
      | ret u =>
        obtain ⟨v, H', os, bare, un, hok', r', q⟩ := h
        have q' : v = .bl true := q
        subst q'
        obtain rfl : u = Value.bool true := r'
        refine ⟨rfl, OldK.of_keep fun b o e => ?_, os, bare⟩
        cases q : H b with
        | none => exact un.keep b o e q (by intro z; exact absurd (show b ∈ ([] : List Addr) from z) (by simp)) (by simp)
        | some u =>
          rcases hO b with z | ⟨ob, xs, z⟩
          · rw [q] at z; cases z
          · have z2 := un.frzs b ob _ z
            obtain ⟨e1, _⟩ := hok b _ z
            obtain ⟨e2, _⟩ := hok' b _ z2
            rw [e] at e1; cases e1
            exact e2
  cases hk : K.lookup a with
  | some o =>
    -- the script is one of the module's own objects
    have e := KX a o hk
    rw [ha] at e
    cases e
    refine core (fun _ => none) (fun _ => .inl rfl) (.inr ⟨_, vs.toArray, _, hk, rfl, rfl, rfl, by rw [List.size_toArray, lenV]; exact hl, by simpa using rv⟩) (fun b u z => by have z' : (none : Option HO) = some u := z; cases z') (fun b z => absurd rfl z) fun z => absurd rfl z
  | none =>
    refine core (fun b => if b = a then some (.frz { cls := .type "list", data := .seq vs.toArray } (.lst (ns.map V.int))) else none) (fun b => ?_) (.inl (.inr ⟨{ cls := .type "list", data := .seq vs.toArray }, if_pos rfl⟩)) (fun b u z => ?_) (fun b z => ?_) fun _ => hk
    · by_cases hb : b = a
      · exact .inr ⟨_, _, if_pos hb⟩
      · exact .inl (if_neg hb)
    · by_cases hb : b = a
      · have z' := (if_pos hb).symm.trans z
        cases z'
        subst hb
        exact ⟨ha, by rw [List.length_map]; exact hl, vs, _, rv, ha⟩
      · have z' := (if_neg hb).symm.trans z
        cases z'
    · by_cases hb : b = a
      · exact hb
      · exact absurd (if_neg hb) z
end L2

namespace L2
open PySem PySem.Spec PyProof.Rows

noncomputable abbrev KOf {K : PySem.W.Frag} {h : Heap} (_ : K.In h) : PySem.W.Frag := K

/-- the goal that k_head leaves (case hc), from the law's promise. F gives the function object fd (K's own) once, then the promise over every base -/
theorem walk_of {l : PySem.W.OpenLaw} {n k : Nat} {q : Program} {loose : List Str} {XP : (Str → Option Value) → Heap → Prop} {YP : World → Heap → Prop} {d : DefRec} {K : Params → PySem.W.Frag} {CX : World → CXT} {sp : World → Sp} {x : Str}
    (hn : l.most = some n) (hn2 : n ≤ sizeLine) (hdf : d.params.defaults = []) (hr : Room k callerA)
    (hY : ∀ (w : World) (h : Heap), YP w h → (K w.params).In h)
    (F : ∀ (w : World) (mg : Str → Option Value) (fa : Addr) (h : Heap), (K w.params).In h → h.Ns mainGlobals mg → mg d.name = some (.ref fa) →
      ∃ fd : FuncData, (∀ (s : Shared) (u : Value), BindsTo s fd ⟨[u], []⟩ [(x, u)]) ∧
        ∀ base : Heap, (K w.params).In base → base.Ns mainGlobals mg → FnOk l.prog w (K w.params) mg base (CX w) k fa fd [x] (sp w))
    (hsp : ∀ (w : World) (H : Hp) (a : Addr) (ns : List Int), ns.length ≤ n → Only H → SqL (K w.params) H a (ns.map V.int) → sp w [.ref a] H (fun v _ => v = .bl true) fun _ _ _ => False)
    (hCX : ∀ (w : World) (H : Hp) (s : Shared) (e : Value) (s' : Shared), CX w [] H s (fun _ _ _ => False) e s' → False) :
    PySem.W.WalkO q loose XP YP l.row.toRowW d [] (fun f vs => PySem.call f vs) := by
  refine Att.attach_call hn hdf fun w s₀ s₁ mg mb fa o pm cd doc a vs ns G Y ho hd hcd hmg hobj hints hlen hg => ?_
  have KX := hY w _ Y
  obtain ⟨fd, hb, hF⟩ := F w mg fa _ KX G.T.g hmg
  exact law_call KX G.T.g G.T.b G.T.builtins G.T.nolimit hg hobj hints (Nat.le_trans hlen hn2) hr hF hb (fun H hO hS => hsp w H a ns hlen hO hS) fun H e s' => hCX w H s₁ e s'
end L2

/- THE LAST THEOREM (shape; LID, My.* are yours):
   My.Adr: a structure of the addresses that your layer names (classes, functions); My.Txt K t: a structure (Prop) of the equations over K;
   My.txt_mk : {K} {implicit addresses ..} (e1 : nsIn K mainGlobals "law" = some (some (.ref f))) (e2 : K.lookup f = some ⟨oc, od, .func (fnOf "law" "law" params body scope dV kV doc pm an cdv ct), sl⟩) (e3 : codeIn K cdv "law" = true) .. : ∃ t, My.Txt K t

set_option maxRecDepth 100000 in
set_option maxHeartbeats 0 in
theorem PySem.Challenge.cw_LID_holds : PySem.Challenge.rw_LID.Holds := by
  w_on; o_law; k_head; (case hw => w_witness2)
  k_fill
  refine L2.walk_of (l := PySem.Challenge.rw_LID) (n := 63) (k := 40) (x := "script") (CX := fun w => ..) (sp := fun _ => My.sp_law) rfl (by decide) rfl ⟨rfl, by decide, by decide⟩ (fun w h Y => PySem.W.kIn_of Y) ?F ?S ?C
  case F =>
    intro w mg fa h KX G hmg
    have T : ∃ t, My.Txt (L2.KOf KX) t := by
      dsimp only [L2.KOf]                          -- K must stand as «<heap const> w.params» for k_is
      refine' My.txt_mk ?e1 ?e2 ?e3 ..
      (case e1 => PySem.W.k_is)                    -- in the order: a name -> its address -> its object -> its parts
      (case e2 => PySem.W.k_is)
      ..
    obtain ⟨t, T⟩ := T
    have e0 := hmg.symm.trans (PySem.W.mg_of KX G T.law)
    cases e0                                       -- fa is the law's own address
    exact ⟨_, fun s u => .of_eq rfl, fun base kb nb => My.law_fn T kb nb⟩     -- if «.of_eq rfl» comes too early: refine' ⟨_, ?b, fun base kb nb => My.law_fn T kb nb⟩; exact fun s u => .of_eq rfl
  case S => exact fun w H a ns hl hO hS => ..
  case C => exact ..
(the tactic k_is has no namespace: write k_is) -/

/-! SHORT WORDS over the layer: a def of the text, its body, what a loop and a test want. -/
namespace L2
open PySem PySem.Spec PyProof.Rows

noncomputable def defArgs (s : Stmt) : Arguments := match s with
  | .FunctionDef _ a _ _ _ _ _ _ _ _ => a
  | _ => { posonlyargs := [], args := [], vararg := none, kwonlyargs := [], kw_defaults := [], kwarg := none, defaults := [] }
noncomputable def defBody (s : Stmt) : List Stmt := match s with
  | .FunctionDef _ _ b _ _ _ _ _ _ _ => b
  | _ => []
noncomputable def defScope (s : Stmt) : Scope := match s with
  | .FunctionDef _ _ _ _ _ _ sc _ _ _ => sc
  | _ => { kind := .function, names := [], isGenerator := false, isCoroutine := false }

/-! ### no exception leaves a def -/
noncomputable abbrev CX0 : CXT := fun _ _ _ _ _ _ => False
noncomputable abbrev E0 : XK := fun _ _ _ => False
theorem pass0 {X : Cx} : Passes CX0 X E0 := fun _ _ _ _ _ _ _ h => h.elim

/-! ### a def (or method) of the text as it stands behind the top -/
structure Fun (K : PySem.W.Frag) (x qual : Str) (st : Stmt) (f : Addr) (fd : FuncData) : Prop where
  ex : ∃ (oc : Value) (od : Option Addr) (kV doc pm : Value) (an : Option Addr) (cdv ct : Value) (osl : Array (Option Value)),
    fd = PySem.W.fnOf x qual (defArgs st) (defBody st) (defScope st) .none kV doc pm an cdv ct ∧ K.lookup f = some ⟨oc, od, .func fd, osl⟩ ∧ PySem.W.codeIn K cdv qual = true
  kp : PySem.W.keepIn K (.ref f) = true
section
variable {P : Program} {w : World} {K : PySem.W.Frag} {mg : Str → Option Value} {base : Heap}
/-- THE RULE for a def: its body as a term of rules, and the reading of that term -/
theorem Fun.ok {x qual : Str} {st : Stmt} {f : Addr} {fd : FuncData} {N ps : List Str} {k : Nat} {sp : Sp} (F : Fun K x qual st f fd) (S : FnScope N ps (defScope st)) (len : ∀ vs H Q E, sp vs H Q E → vs.length = ps.length)
    (hbody : ∀ (cdv : Value) (A : Around) (outer : List Env) (s : Shared) (H : Hp) (vs : List V) (Q : VK) (E : XK), Room k (A.deeper (envOfC qual (defScope st) s.heap.objs.size f cdv)) → sp vs H Q E →
      ∃ t, PSs (cxOf CX0 P w K mg base N qual (defScope st) f cdv A outer s H E).nox (defBody st) t ∧ t { nx := fun _ H' => Q .non H', rt := Q } (start N vs) H) : FnOk P w K mg base CX0 (k + 1) f fd ps sp := by
  obtain ⟨oc, od, kV, doc, pm, an, cdv, ct, osl, rfl, lk, hcd⟩ := F.ex
  refine fn_of lk hcd S len fun A outer s H vs Q E hr hsp => ?_
  obtain ⟨t, h, q⟩ := hbody cdv A outer s H vs Q E hr hsp
  exact ⟨t, h.nox, q⟩
/-- how its arguments bind (no defaults): h is «fun _ _ _ _ _ _ us hl => match us, hl with | [_, _], _ => rfl», one _ a parameter -/
theorem Fun.binds {x qual : Str} {st : Stmt} {f : Addr} {fd : FuncData} {ps : List Str} (F : Fun K x qual st f fd)
    (h : ∀ (kV doc pm : Value) (an : Option Addr) (cdv ct : Value) (us : List Value), us.length = ps.length → bindArgs (PySem.W.fnOf x qual (defArgs st) (defBody st) (defScope st) .none kV doc pm an cdv ct) ⟨us, []⟩ = pure (ps.zip us)) : Binds K fd ps [] := by
  obtain ⟨oc, od, kV, doc, pm, an, cdv, ct, osl, rfl, lk, hcd⟩ := F.ex
  exact .all (h kV doc pm an cdv ct)
theorem fun_mk {x qual : Str} {st : Stmt} {f : Addr} {oc : Value} {od an : Option Addr} {osl : Array (Option Value)} {kV doc pm cdv ct : Value} (l : K.lookup f = some ⟨oc, od, .func (PySem.W.fnOf x qual (defArgs st) (defBody st) (defScope st) .none kV doc pm an cdv ct), osl⟩)
    (c : PySem.W.codeIn K cdv qual = true) (k : PySem.W.keepIn K (.ref f) = true) : Fun K x qual st f (PySem.W.fnOf x qual (defArgs st) (defBody st) (defScope st) .none kV doc pm an cdv ct) := ⟨⟨oc, od, kV, doc, pm, an, cdv, ct, osl, rfl, l, c⟩, k⟩
end
theorem small1000 {n : Nat} (h : n ≤ 1000) : n < sizeLine := Nat.lt_of_le_of_lt h (by decide)

/-! ### expressions in short: the name that stands in the i-th slot -/
section
variable {X : Cx}
theorem pv (i : Nat) {x : Str} {pos : Pos} (hN : X.N[i]? = some x := by rfl) (hv : Vis X.env.scope x := by first | exact Or.inl rfl | exact Or.inr (Or.inl rfl) | exact Or.inr (Or.inr rfl)) (hd : (x == ("__debug__" : Str)) = false := by decide)
    (hcd : (x == ("__classdict__" : Str)) = false := by decide) : PE X (.Name x pos) (tVar i) := pe_var hN hv hd hcd
end

/-! ### tests -/
theorem iteF {A B : Prop} (h : B) : if false = true then A else B := by
  rw [if_neg Bool.false_ne_true]
  exact h
theorem iteT {A B : Prop} (h : A) : if true = true then A else B := by
  rw [if_pos rfl]
  exact h
theorem ite2 {c A B : Prop} [Decidable c] (h1 : c → A) (h2 : ¬ c → B) : if c then A else B := by
  by_cases h : c
  · rw [if_pos h]
    exact h1 h
  · rw [if_neg h]
    exact h2 h
/-! ### heaps -/
/-- all that was tracked is as it was -/
noncomputable def Same (H H' : Hp) : Prop := ∀ b o, H b = some o → H' b = some o
theorem Same.refl (H : Hp) : Same H H := fun _ _ h => h
theorem Same.trans {H H1 H2 : Hp} (a : Same H H1) (b : Same H1 H2) : Same H H2 := fun c o h => b c o (a c o h)
theorem Same.free {H H' : Hp} (e : Same H H') {l : Addr} (h : H' l = Option.none) : H l = Option.none := by
  cases q : H l with
  | none => rfl
  | some o =>
    rw [e l o q] at h
    cases h
theorem Same.seq {K : PySem.W.Frag} {H H' : Hp} {a : Addr} {xs : List V} (e : Same H H') (h : SqL K H a xs) : SqL K H' a xs := by
  rcases h with (h | ⟨o, h⟩) | h
  · exact .inl (.inl (e _ _ h))
  · exact .inl (.inr ⟨o, e _ _ h⟩)
  · exact .inr h

end L2


namespace L2
open PySem PySem.Spec PyProof.Rows
section
variable {X : Cx}
end
/-! ### a dict's pairs: keys that differ -/
section
variable {κ : Type} [DecidableEq κ]
end
end L2


/-! MORE RULES over the layer: comprehensions, enumerate, texts walked, tables of the module -/
namespace L2
open PySem PySem.Spec PyProof.Rows
/-! ### a block's closure -/
noncomputable def closL (env : Env) : List (Str × NameKind) → List (Str × Addr) → List (Str × Addr)
  | [], acc => acc
  | (n, k) :: r, acc => closL env r (if (k == .free) = true then (n, (env.cells.lookup n).getD 0) :: acc else acc)
theorem closureFor_eq {scope : Scope} {env : Env} (h : ∀ x ∈ scope.names, x.2 = .free → ∃ c, env.cells.lookup x.1 = some c) : closureFor scope env = pure (closL env scope.names []) := by
  have go : ∀ (names : List (Str × NameKind)) (acc : List (Str × Addr)), (∀ x ∈ names, x.2 = .free → ∃ c, env.cells.lookup x.1 = some c) →
      (forIn names acc (fun (x : Str × NameKind) (cs : List (Str × Addr)) => if (x.2 == NameKind.free) = true then (do let a ← cellOf env x.1; pure (ForInStep.yield ((x.1, a) :: cs))) else pure (ForInStep.yield cs)) : Sem (List (Str × Addr))) = pure (closL env names acc) := by
    intro names
    induction names with
    | nil => intro acc _; rfl
    | cons x r ih =>
      intro acc hx
      obtain ⟨n, k⟩ := x
      rw [List.forIn_cons]
      by_cases hk : (k == NameKind.free) = true
      · obtain ⟨c, hc⟩ := hx (n, k) List.mem_cons_self (by simpa using hk)
        have hc : env.cells.lookup n = some c := hc
        have e : cellOf env n = pure c := by unfold cellOf; rw [hc]
        show ((if (k == NameKind.free) = true then (do let a ← cellOf env n; pure (ForInStep.yield ((n, a) :: acc))) else pure (ForInStep.yield acc)) >>= _) = _
        rw [if_pos hk, e]
        simp only [pure_bind]
        rw [ih _ fun y hy => hx y (List.mem_cons_of_mem _ hy)]
        conv => rhs; unfold closL
        rw [if_pos hk, hc]
        rfl
      · show ((if (k == NameKind.free) = true then (do let a ← cellOf env n; pure (ForInStep.yield ((n, a) :: acc))) else pure (ForInStep.yield acc)) >>= _) = _
        rw [if_neg hk]
        simp only [pure_bind]
        rw [ih _ fun y hy => hx y (List.mem_cons_of_mem _ hy)]
        conv => rhs; unfold closL
        rw [if_neg hk]
  have q := go scope.names [] h
  unfold closureFor
  simp only [bind_pure]
  exact q
theorem closL_mem {env : Env} {n : Str} {c : Addr} : ∀ (names : List (Str × NameKind)) (acc : List (Str × Addr)), (∀ x ∈ names, x.2 = .free → ∃ c, env.cells.lookup x.1 = some c) → (∀ n c, acc.lookup n = some c → env.cells.lookup n = some c) →
    (closL env names acc).lookup n = some c → env.cells.lookup n = some c
  | [], acc, _, ha, h => ha n c h
  | (x, k) :: r, acc, hx, ha, h => by
    unfold closL at h
    refine closL_mem r _ (fun y hy => hx y (List.mem_cons_of_mem _ hy)) ?_ h
    intro n' c' h'
    by_cases hk : (k == NameKind.free) = true
    · rw [if_pos hk, List.lookup_cons] at h'
      obtain ⟨d, hd⟩ := hx (x, k) List.mem_cons_self (by simpa using hk)
      have hd : env.cells.lookup x = some d := hd
      split at h'
      · rename_i hb
        have e : n' = x := by simpa using hb
        rw [hd] at h'
        rw [e, hd]
        exact h'
      · exact ha n' c' h'
    · rw [if_neg hk] at h'
      exact ha n' c' h'
theorem closL_acc {env : Env} {n : Str} : ∀ (names : List (Str × NameKind)) (acc : List (Str × Addr)), (acc.lookup n).isSome = true → ((closL env names acc).lookup n).isSome = true
  | [], acc, h => h
  | (x, k) :: r, acc, h => by
    unfold closL
    refine closL_acc r _ ?_
    by_cases hk : (k == NameKind.free) = true
    · rw [if_pos hk, List.lookup_cons]
      split
      · rfl
      · exact h
    · rw [if_neg hk]; exact h
theorem closL_has {env : Env} {n : Str} : ∀ (names : List (Str × NameKind)) (acc : List (Str × Addr)), (n, NameKind.free) ∈ names → ((closL env names acc).lookup n).isSome = true
  | [], acc, h => by cases h
  | (x, k) :: r, acc, h => by
    rcases List.mem_cons.mp h with e | e
    · cases e
      unfold closL
      refine closL_acc r _ ?_
      rw [if_pos (by rfl), List.lookup_cons]
      simp
    · unfold closL
      exact closL_has r _ e
theorem closL_look {env : Env} {n : Str} {names : List (Str × NameKind)} (hx : ∀ x ∈ names, x.2 = .free → ∃ c, env.cells.lookup x.1 = some c) (h : (n, NameKind.free) ∈ names) : (closL env names []).lookup n = env.cells.lookup n := by
  obtain ⟨c, hc⟩ := Option.isSome_iff_exists.mp (closL_has (env := env) names [] h)
  rw [hc]
  exact (closL_mem names [] hx (fun _ _ z => by cases z) hc).symm

theorem relab_of {scope : Scope} {env : Env} {x : Str} {k : NameKind} (hcell : ∀ y ∈ scope.names, y.2 ≠ .cell) (h : (relabel scope env).names.lookup x = some k) (hk : k = .cell ∨ k = .free) : (x, NameKind.free) ∈ scope.names := by
  have m := PySem.mem_of_lookup h
  obtain ⟨⟨n, j⟩, hm, e⟩ := List.mem_map.mp m
  have hj := hcell _ hm
  dsimp only at e hj
  split at e
  · rename_i hc
    have : j = .free := by
      have := (Bool.and_eq_true _ _ |>.mp (Bool.and_eq_true _ _ |>.mp hc).1).1
      simpa using this
    cases e
    subst this
    exact hm
  · cases e
    rcases hk with z | z
    · exact absurd z hj
    · subst z; exact hm

theorem relab_go {env : Env} : ∀ {names : List (Str × NameKind)} {x : Str}, names.lookup x = some .free →
    (names.map fun (n, k) => if (k == NameKind.free && env.scope.kind == .function && env.kindOf n == some .cell) then (n, NameKind.cell) else (n, k)).lookup x = some .cell ∨
    (names.map fun (n, k) => if (k == NameKind.free && env.scope.kind == .function && env.kindOf n == some .cell) then (n, NameKind.cell) else (n, k)).lookup x = some .free
  | [], _, h => by simp at h
  | (n, k) :: r, x, h => by
    have ih := @relab_go env r x
    rw [List.map_cons]
    dsimp only
    rw [List.lookup_cons] at h
    by_cases hx : (x == n) = true
    · rw [hx] at h
      have h : k = .free := Option.some.inj h
      by_cases hc : (k == NameKind.free && env.scope.kind == .function && env.kindOf n == some .cell) = true
      · rw [if_pos hc, List.lookup_cons, hx]; exact .inl rfl
      · rw [if_neg hc, List.lookup_cons, hx, h]; exact .inr rfl
    · have hx : (x == n) = false := by simpa using hx
      rw [hx] at h
      by_cases hc : (k == NameKind.free && env.scope.kind == .function && env.kindOf n == some .cell) = true
      · rw [if_pos hc, List.lookup_cons, hx]; exact ih h
      · rw [if_neg hc, List.lookup_cons, hx]; exact ih h
theorem relab_free {scope : Scope} {env : Env} {x : Str} (h : scope.names.lookup x = some .free) : (relabel scope env).names.lookup x = some .cell ∨ (relabel scope env).names.lookup x = some .free := relab_go h

/-! ### the loop of a list comprehension: one clause, any target -/
theorem comp_turns {prog : Program} {w : World} {A : Around} {R : Result → Shared → Prop} {s : Shared} {elt tg iter : Expr} {ifs : List Expr} {scope : Scope} {pos : Pos} {it acc : Value} {env : Env} (J : Nat → Shared → Prop)
    (turn : ∀ n s, J n s → wpAny (model prog w) A (pyNext it) (fun r s1 => match r with
        | none => R (.ok .next) s1
        | some v => wpAny (model prog w) A (letOwnedTupleGo tg it v) (fun _ s2 => wpAny (model prog w) A (assign tg env v) (fun _ s3 =>
            wpAny (model prog w) A (forIn ifs true fun c r => if r = true then do let ok ← isTrue c env (eval c env); pure (ForInStep.yield ok) else pure (ForInStep.yield r)) (fun ok s4 =>
              if ok = true then wpAny (model prog w) A (eval elt env) (fun x s5 => wpAny (model prog w) A (call (.builtin "list.append") [acc, x]) (fun _ s6 => ∃ m, m < n ∧ J m s6) (fun _ _ => False) s5) (fun _ _ => False) s4
              else ∃ m, m < n ∧ J m s4) (fun _ _ => False) s3) (fun _ _ => False) s2) (fun _ _ => False) s1) (fun _ _ => False) s)
    (n : Nat) (h : J n s) : codeAny (model prog w) A (.compLoop (.ListComp elt [⟨tg, iter, ifs, 0⟩] scope pos) 0 it acc env) R s := by
  refine codeAny_loop rfl J (fun n s hJ => ?_) n h
  show wpAny _ A ((compTurn (.ListComp elt [⟨tg, iter, ifs, 0⟩] scope pos) 0 it acc env).onRaise (fun x => do noteFrame x env; theTreesLotGoes x)) _ _ s
  refine wpAny_noted ?_
  rw [compTurn_list]
  refine wpAny_bind (wpAny_standAt (wpAny_bind (wpAny_mono (turn n s hJ) (fun r s1 h1 => ?_) fun _ _ z => z.elim)))
  cases r with
  | none => exact wpAny_pure h1
  | some v =>
    refine wpAny_bind (wpAny_mono h1 (fun _ s2 h2 => wpAny_bind (wpAny_mono h2 (fun _ s3 h3 => wpAny_bind (wpAny_mono h3 (fun ok s4 h4 => ?_) fun _ _ z => z.elim)) fun _ _ z => z.elim)) fun _ _ z => z.elim)
    cases ok with
    | false => exact wpAny_pure ⟨rfl, h4⟩
    | true =>
      exact wpAny_bind (wpAny_bind (wpAny_mono h4 (fun x s5 h5 => wpAny_bind (wpAny_mono h5 (fun _ s6 h6 => wpAny_pure (wpAny_pure ⟨rfl, h6⟩)) fun _ _ z => z.elim)) fun _ _ z => z.elim))

/-! ### a list comprehension -/
/-- the context of its block: s₃, H₃: the state ahead of the block's frame; fp: its iterator -/
noncomputable def cxIn (X : Cx) (N' : List Str) (scope : Scope) (s₃ : Shared) (H₃ : Hp) (fp : List Addr) : Cx :=
  { X with N := N', s₀ := s₃, H₀ := H₃, env := compEnvC scope (closL X.env scope.names []) s₃.heap.objs.size X.env, outer := X.stack, ex := fp, fn := fun _ => false, pn := [], xe := fun _ _ => False }
/-- the captured names' values -/
noncomputable def capV (σ : St) (caps : List Nat) : St := caps.map fun j => (σ[j]?).getD none
theorem capV_length (σ : St) (caps : List Nat) : (capV σ caps).length = caps.length := List.length_map ..
noncomputable def tTrue : TT := fun _ H Q => Q true H
/-- what the names of the block must be -/
structure CompOk (X : Cx) (x : Str) (xs : List Str) (caps : List Nat) (scope : Scope) (osc : Scope) : Prop where
  eqs : X.env.scope = osc
  kind : scope.kind = .function
  cell : ∀ y ∈ scope.names, y.2 ≠ .cell
  names : ∀ y ∈ scope.names, y.2 = .local → scope.names.lookup y.1 = some .local
  loc : scope.names.lookup x = some .local
  nd : (x :: xs).Nodup
  nofl : ∀ y ∈ scope.names, y.2 = .free → scope.names.lookup y.1 = some .free
  frees : ∀ y ∈ scope.names, y.2 = .free → osc.names.lookup y.1 = some .cell
  caps : Paired (fun (j : Nat) (n : Str) => X.N[j]? = some n ∧ (n, NameKind.free) ∈ scope.names) caps xs
section
variable {X : Cx} {x : Str} {xs : List Str} {caps : List Nat} {scope osc : Scope} {pins : List (Addr × Obj)} {σ : St} {H : Hp} {s : Shared}
theorem CompOk.hasC (C : CompOk X x xs caps scope osc) (ok : X.Ok) : ∀ y ∈ scope.names, y.2 = .free → ∃ c, X.env.cells.lookup y.1 = some c := fun y hy hf =>
  ok.has y.1 (.inl (by show X.env.scope.names.lookup y.1 = _; rw [C.eqs]; exact C.frees y hy hf))
theorem Paired.at {α β : Type} {F : α → β → Prop} {l : List α} {m : List β} {i : Nat} {b : β} (h : Paired F l m) (e : m[i]? = some b) : ∃ a, l[i]? = some a ∧ F a b := by
  induction h generalizing i with
  | nil => rw [List.getElem?_nil] at e; cases e
  | cons r _ ih =>
    cases i with
    | zero =>
      obtain rfl := Option.some.inj e
      exact ⟨_, rfl, r⟩
    | succ i => exact ih e
/-- the block's frame stands: the invariant in the block -/
theorem comp_inv {fp : List Addr} {h' : Heap} {tk : Nat} (C : CompOk X x xs caps scope osc) (I : Inv X pins σ H s) (hf : ∀ b ∈ fp, FpOk X pins H b) (hb : ∀ b ∈ fp, b < s.heap.objs.size)
    (hns : h'.Ns s.heap.objs.size (fun _ => none)) (hk : ∀ b o, s.heap.get? b = some o → h'.get? b = some o) :
    Inv (cxIn X (x :: xs) scope s H fp) [] (none :: capV σ caps) H { s with heap := h', toks := tk } := by
  have hx := C.hasC I.ok
  have look : ∀ n c, (closL X.env scope.names []).lookup n = some c → X.env.cells.lookup n = some c := fun n c h => closL_mem scope.names [] hx (fun _ _ z => by cases z) h
  have lenC : caps.length = xs.length := Paired.length C.caps
  refine ⟨⟨I.ok.mod, C.kind, I.ok.glob, I.ok.blt, Nat.le_refl _, fun y z c h1 h2 => I.ok.inj y z c (look y c h1) (look z c h2), fun y hy => ?_, fun y c hfn _ => ?_, I.ok.hd, I.ok.frames, .inl rfl, fun b hbf => ⟨Nat.ne_of_lt (hb b hbf), fun y c h => (hf b hbf).2.2.2.2.1 y c (look y c h)⟩, I.bs, Nat.le_trans I.ok.bsz I.sz, fun b o e hbf => ?_, fun b hbf hs => ?_, I.stack, I.stkFree⟩,
    rfl, I.bare, Un.kept hk, ⟨_, hns, fun i y v h1 h2 h3 => ?_⟩, fun y c h => ?_, I.hok.fresh (Nat.le_refl _), fun y c h => I.freeC y c (look y c h), fun p hp => absurd (show p ∈ ([] : List (Addr × Obj)) from hp) (by simp), I.hok.kept hk, ?_⟩
  · have hy : (relabel scope X.env).names.lookup y = some .cell ∨ (relabel scope X.env).names.lookup y = some .free := hy
    have m : (y, NameKind.free) ∈ scope.names := by
      rcases hy with z | z
      · exact relab_of C.cell z (.inl rfl)
      · exact relab_of C.cell z (.inr rfl)
    exact Option.isSome_iff_exists.mp (closL_has scope.names [] m)
  · cases hfn
  · obtain ⟨f0, f1, f2, f3, f4, f5⟩ := hf b hbf
    rcases f3 with z | z
    · exact I.ok.noex b o e z
    · have := Heap.lt_size (I.ok.bs b o e).1
      exact absurd (Nat.lt_of_lt_of_le this z) (Nat.lt_irrefl _)
  · obtain ⟨f0, f1, f2, f3, f4, f5⟩ := hf b hbf
    rcases List.mem_cons.mp (I.stkSub b hs) with z | z
    · exact f1 z
    · exact f2 z
  · cases i with
    | zero =>
      have h2 : some (none : Option V) = some (some v) := h2
      cases h2
    | succ i =>
      have h1 : xs[i]? = some y := by simpa [cxIn] using h1
      have h2 : (capV σ caps)[i]? = some (some v) := by simpa using h2
      obtain ⟨j, hj, hN, hm⟩ := L2.Paired.at C.caps h1
      have e2 : σ[j]? = some (some v) := by
        unfold capV at h2
        rw [List.getElem?_map, hj] at h2
        have h2 : (σ[j]?).getD none = some v := Option.some.inj h2
        cases q : σ[j]? with
        | none => rw [q] at h2; cases h2
        | some u => rw [q] at h2; have h2 : u = some v := h2; rw [h2]
      have ky : X.env.scope.names.lookup y = some .cell := by rw [C.eqs]; exact C.frees _ hm rfl
      obtain ⟨m, _, hl⟩ := I.loc
      obtain ⟨u, r, l⟩ := hl j y v hN e2 (.inr (.inl ky))
      refine ⟨u, r, ?_⟩
      rcases l with ⟨k, _⟩ | ⟨_, c, hc, o, ho, hd⟩
      · have k : X.env.scope.names.lookup y = some .local := k
        rw [ky] at k; cases k
      · have nl := relab_free (env := X.env) (C.nofl _ hm rfl)
        exact .inr ⟨nl, c, (closL_look hx hm).trans hc, o, hk c o ho, hd⟩
  · obtain ⟨v, o, ho, hd⟩ := I.cell y c (look y c h)
    exact ⟨v, o, hk c o ho, hd⟩
  · show (none :: capV σ caps).length = (x :: xs).length
    rw [List.length_cons, List.length_cons, capV_length, lenC]

/-- what the block must keep: W: the invariant by the turn, a measure, the items so far -/
noncomputable def CompG (J : It) (tt : TT) (te : TE) (cs : St) (H1 : Hp) (Q : VK) : Prop := ∀ l, H1 l = none → ∃ W : Nat → Nat → List V → Hp → Prop, (∃ m, W 0 m [] (upd H1 l (.lst []))) ∧ ∀ i m ys H2, W i m ys H2 →
  H2 l = some (.lst ys) ∧ ((J.stop i H2 ∧ Q (.ref l) H2) ∨ (J.go i H2 ∧ ys.length < sizeLine ∧ ∀ y H3, J.yld i H2 y H3 → tt (some y :: cs) H3 fun b H4 =>
    if b = true then te (some y :: cs) H4 fun z H5 => H5 l = some (.lst ys) ∧ ∃ m', m' < m ∧ W (i + 1) m' (ys ++ [z]) (upd H5 l (.lst (ys ++ [z]))) else ∃ m', m' < m ∧ W (i + 1) m' ys H4))
noncomputable def tComp (caps : List Nat) (wi : TI) (tt : TT) (te : TE) : TE := fun σ H Q => wi σ H fun J H1 => CompG J tt te (capV σ caps) H1 Q
/-- how the tests of the clause read -/
noncomputable def PIfs (X : Cx) (ifs : List Expr) (tt : TT) : Prop :=
  ∀ (pins : List (Addr × Obj)) (s : Shared) (σ : St) (H : Hp) (Q : Bool → Hp → Prop), Inv X pins σ H s → tt σ H Q →
    wpAny (model X.prog X.w) X.A (forIn ifs true fun c r => if r = true then do let ok ← isTrue c X.env (eval c X.env); pure (ForInStep.yield ok) else pure (ForInStep.yield r)) (TP X pins σ Q) X.xe s
theorem pifs_nil : PIfs X [] tTrue := fun _ _ _ H _ I h => wpAny_tests_nil ⟨H, I, h⟩
theorem comp_core {elt iter : Expr} {px : Pos} {ifs : List Expr} {pos : Pos} {tt : TT} {te : TE} {Rr : Result → Shared → Prop} {it : Addr} {fp : List Addr} {tn : Nat → Heap → Prop} {J : It} {Q : VK} (hc : X.calm = true) (C : CompOk X x xs caps scope osc)
    (he : ∀ s₃ H₃ fp, PE (cxIn X (x :: xs) scope s₃ H₃ fp) elt te) (hi : ∀ s₃ H₃ fp, PIfs (cxIn X (x :: xs) scope s₃ H₃ fp) ifs tt)
    {s3 : Shared} {H3 : Hp} {l : Addr} (I3 : Inv X pins σ H3 s3) (T : Turn X.prog X.w X.K (.Name x px) J fp it tn) (st3 : tn 0 s3.heap) (hf : ∀ b ∈ fp, FpOk X pins H3 b)
    {W : Nat → Nat → List V → Hp → Prop} {m0 : Nat} (w0 : W 0 m0 [] H3)
    (turn : ∀ i m ys H4, W i m ys H4 → H4 l = some (.lst ys) ∧ ((J.stop i H4 ∧ Q (.ref l) H4) ∨ (J.go i H4 ∧ ys.length < sizeLine ∧ ∀ y H5, J.yld i H4 y H5 → tt (some y :: capV σ caps) H5 fun b H6 =>
      if b = true then te (some y :: capV σ caps) H6 fun z H7 => H7 l = some (.lst ys) ∧ ∃ m', m' < m ∧ W (i + 1) m' (ys ++ [z]) (upd H7 l (.lst (ys ++ [z]))) else ∃ m', m' < m ∧ W (i + 1) m' ys H6)))
    (fin : ∀ (s' : Shared) (H' : Hp), Inv X pins σ H' s' → Q (.ref l) H' → (∃ m, s'.heap.Ns s3.heap.objs.size m) → FpOk X pins H' s3.heap.objs.size → Rr (.ok .next) s') :
    wpAny (model X.prog X.w) X.A (newFunctionEnv scope X.env.globals (closL X.env scope.names []) [] X.env.qual none .none (some X.env)) (fun cenv s4 =>
      cenv.locals = s3.heap.objs.size ∧ codeAny (model X.prog X.w) X.A (.compStart (.ListComp elt [⟨.Name x px, iter, ifs, 0⟩] scope pos) 0 (.ref it) (.ref l) { cenv with scope := relabel scope X.env }) Rr s4) X.xe s3 := by
  refine wpAny_newFunctionEnv C.cell (by intro y hy; simp at hy) (fun h1 hns1 hsb1 => ⟨rfl, ?_⟩) C.kind
  have hk : ∀ b o, s3.heap.get? b = some o → h1.get? b = some o := fun b o e => hsb1.extBut b o (Nat.ne_of_lt (Heap.lt_size e)) (Heap.get?_push_of_some _ e)
  have hns : h1.Ns s3.heap.objs.size (fun _ => none) := by simpa using hns1
  have hlt : ∀ b ∈ fp, b < s3.heap.objs.size := fun b hb => by
    obtain ⟨o, e, _⟩ := T.obj 0 _ st3 b hb
    exact Heap.lt_size e
  have I4 : Inv (cxIn X (x :: xs) scope s3 H3 fp) [] (none :: capV σ caps) H3 { s3 with heap := h1, toks := s3.toks + ([] : List (Str × Value)).length } := comp_inv C I3 hf hlt hns hk
  have hx' : (relabel scope X.env).names.lookup x = some .local := lookup_relabel_local C.loc
  have stat : ∀ {H' : Hp}, (∀ b ∈ fp, H' b = none) → ∀ b ∈ fp, FpOk (cxIn X (x :: xs) scope s3 H3 fp) [] H' b := fun hn b hb =>
    ⟨hn b hb, Nat.ne_of_lt (hlt b hb), (I4.ok.exfs b hb), .inl hb, (I4.ok.exf b hb).2, fun p hp => absurd (show p ∈ ([] : List (Addr × Obj)) from hp) (by simp)⟩
  have loop : ∀ s5 : Shared, (∃ i v0 ys H', Inv (cxIn X (x :: xs) scope s3 H3 fp) [] (v0 :: capV σ caps) H' s5 ∧ tn i s5.heap ∧ (∀ b ∈ fp, H' b = none) ∧ W i m0 ys H') →
      codeAny (model X.prog X.w) X.A (.compLoop (.ListComp elt [⟨.Name x px, iter, ifs, 0⟩] scope pos) 0 (.ref it) (.ref l) (compEnvC scope (closL X.env scope.names []) s3.heap.objs.size X.env)) Rr s5 := by
    intro s5 h5
    refine comp_turns (fun n s' => ∃ i v0 ys H', Inv (cxIn X (x :: xs) scope s3 H3 fp) [] (v0 :: capV σ caps) H' s' ∧ tn i s'.heap ∧ (∀ b ∈ fp, H' b = none) ∧ W i n ys H') ?_ m0 h5
    rintro n s6 ⟨i, v0, ys, H6, I6, st6, fr6, w6⟩
    obtain ⟨hl6, stop | ⟨go, hz, step⟩⟩ := turn i n ys H6 w6
    · refine thn (T.done (cxIn X (x :: xs) scope s3 H3 fp) rfl rfl rfl hc i [] s6 _ H6 (fun _ _ => False) I6 (stat fr6) st6 stop.1) fun r s7 ⟨hr, I7⟩ => ?_
      subst hr
      obtain ⟨m, hn, _⟩ := I7.loc
      refine fin s7 H6 (I3.call' (ch := fp) I7.os I7.base I7.hok I7.bare fun b hb => ?_) stop.2 ⟨m, hn⟩ (I3.fpOk (Nat.le_refl _) I7.free)
      obtain ⟨f0, f1, f2, f3, f4, f5⟩ := hf b hb
      exact ⟨f3, f1, f4, f5⟩
    · refine thn (T.item (cxIn X (x :: xs) scope s3 H3 fp) rfl rfl rfl hc i [] s6 _ H6 (fun _ _ => False) I6 (stat fr6) st6 go) fun r s7 ⟨u, hr, h7⟩ => ?_
      subst hr
      refine thn h7 fun _ s8 ⟨y, H8, I8, r8, y8, st8, fr8⟩ => ?_
      have I8' := I8.pinned (stat fr8) (T.obj _ _ st8)
      have again : ∀ {σ9 : St} {H9 : Hp} {s9 : Shared} {v1 : Option V} {zs : List V}, Inv (cxIn X (x :: xs) scope s3 H3 fp) ([] ++ pinsAt fp s8.heap) σ9 H9 s9 → σ9 = v1 :: capV σ caps → (∃ m', m' < n ∧ W (i + 1) m' zs H9) →
          ∃ m, m < n ∧ ∃ i v0 ys H', Inv (cxIn X (x :: xs) scope s3 H3 fp) [] (v0 :: capV σ caps) H' s9 ∧ tn i s9.heap ∧ (∀ b ∈ fp, H' b = none) ∧ W i m ys H' := fun {σ9 H9 s9 v1 zs} I9 e9 hw => by
        subst e9
        obtain ⟨m', hm, w9⟩ := hw
        refine ⟨m', hm, i + 1, v1, zs, H9, I9.unpinned, T.keep _ _ _ st8 fun b hb o e => (I9.pin (b, o) (List.mem_append_right _ (List.mem_append_right _ (mem_pinsAt hb e)))).1, fun b hb => ?_, w9⟩
        obtain ⟨o, e, d⟩ := T.obj _ _ st8 b hb
        exact (I9.pin (b, o) (List.mem_append_right _ (List.mem_append_right _ (mem_pinsAt hb e)))).2.1
      have pg : PG (cxIn X (x :: xs) scope s3 H3 fp) (.Name x px) (gName 0) := pg_name C.nd rfl (.inl hx') (.inr hx')
      refine thn (pg _ s8 _ H8 y u (fun σ' H' => σ' = some y :: capV σ caps ∧ H' = H8) I8' r8 ⟨rfl, rfl⟩) fun _ s9 ⟨σ9, H9, I9, e9, e9'⟩ => ?_
      subst e9 e9'
      refine thn (hi s3 H3 fp _ s9 _ _ _ I9 (step y H9 y8)) fun b s10 ⟨H10, I10, q10⟩ => ?_
      cases b with
      | false =>
        have q10 : ∃ m', m' < n ∧ W (i + 1) m' ys H10 := q10
        exact again I10 rfl q10
      | true =>
        have q10 : te (some y :: capV σ caps) H10 fun z H7 => H7 l = some (.lst ys) ∧ ∃ m', m' < n ∧ W (i + 1) m' (ys ++ [z]) (upd H7 l (.lst (ys ++ [z]))) := q10
        show wpAny _ _ (eval elt _) _ _ s10
        refine thn (he s3 H3 fp _ s10 _ _ _ I10 q10) fun z' s11 ⟨z, H11, I11, r11, hl11, q11⟩ => ?_
        refine thn (mt_append (X := cxIn X (x :: xs) scope s3 H3 fp) _ s11 _ H11 (.ref l) [z] (.ref l) [z'] (fun _ H' => H' = upd H11 l (.lst (ys ++ [z]))) I11 rfl (.cons r11 .nil) ⟨l, ys, z, rfl, rfl, hl11, hz, rfl⟩) fun _ s12 ⟨_, H12, I12, _, e12⟩ => ?_
        subst e12
        exact again I12 rfl q11
  have start : ∃ i v0 ys H', Inv (cxIn X (x :: xs) scope s3 H3 fp) [] (v0 :: capV σ caps) H' { s3 with heap := h1, toks := s3.toks + ([] : List (Str × Value)).length } ∧ tn i h1 ∧ (∀ b ∈ fp, H' b = none) ∧ W i m0 ys H' :=
    ⟨0, none, [], H3, I4, T.keep _ _ _ st3 fun b _ o e => hk b o e, fun b hb => (hf b hb).1, w0⟩
  exact codeAny_compStart_list (loop _ start) (T.self X.A 0 _ _ _ (T.keep _ _ _ st3 fun b _ o e => hk b o e) (loop _ start))

/-- the iterator has come: the new list, then the block -/
theorem comp_lay {s2 : Shared} {H2 : Hp} {fp : List Addr} {tn : Nat → Heap → Prop} {P : Program} {w : World} {K : PySem.W.Frag} {tg : Expr} {J : It} {it : Addr} (I2 : Inv X pins σ H2 s2) (T : Turn P w K tg J fp it tn) (st : tn 0 s2.heap) (hf : ∀ b ∈ fp, FpOk X pins H2 b)
    {Qn : Value → Shared → Prop} {E : Value → Shared → Prop} {A : Around}
    (h : ∀ s3 : Shared, Inv X pins σ (upd H2 s2.heap.objs.size (.lst [])) s3 → tn 0 s3.heap → (∀ b ∈ fp, FpOk X pins (upd H2 s2.heap.objs.size (.lst [])) b) → s3.heap.objs.size = s2.heap.objs.size + 1 → Qn (.ref s2.heap.objs.size) s3) :
    wpAny (model X.prog X.w) A (newList []) Qn E s2 := by
  refine wpAny_newObj_type ?_
  refine h _ (I2.laid (t' := s2.toks) (fun b u e => Heap.get?_push_of_some _ e) (Nat.le_refl _) ⟨Nat.zero_le _, [], 0, .nil, Heap.get?_push_size _ rfl⟩) (T.keep 0 _ _ st fun b _ o e => Heap.get?_push_of_some _ e) (fun b hb => ?_) (Heap.size_push ..)
  obtain ⟨o, e, _⟩ := T.obj 0 _ st b hb
  exact ⟨by rw [upd_ne (Nat.ne_of_lt (Heap.lt_size e))]; exact (hf b hb).1, (hf b hb).2⟩
/-- names of the block are let go behind it -/
theorem Inv.let {H' : Hp} {s' : Shared} {C : Addr} {h' : Heap} (I : Inv X pins σ H' s') (f : FpOk X pins H' C) (hs : Heap.SameBut C s'.heap h') : Inv X pins σ H' { s' with heap := h' } :=
  I.turned (t' := s'.toks) (fun b o hb e => (hs.2 b hb).trans e) f.1 f.2.1 f.2.2.2.1 f.2.2.2.2.1 f.2.2.2.2.2

/-- [elt for x in iter if ..] -/
theorem pe_comp {elt iter : Expr} {px : Pos} {ifs : List Expr} {pos : Pos} {wi : TI} {tt : TT} {te : TE} (hc : X.calm = true) (C : CompOk X x xs caps scope osc) (hit : PI X (.Name x px) iter wi)
    (he : ∀ s₃ H₃ fp, PE (cxIn X (x :: xs) scope s₃ H₃ fp) elt te) (hi : ∀ s₃ H₃ fp, PIfs (cxIn X (x :: xs) scope s₃ H₃ fp) ifs tt) (hs : ∀ x, foldedSetIterable iter X.env x = pure x := by intro _; rfl) :
    PE X (.ListComp elt [⟨.Name x px, iter, ifs, 0⟩] scope pos) (tComp caps wi tt te) := by
  intro pins s σ H Q I h
  rw [eval_ListComp]
  refine wpAny_comprehension_free (use := none) rfl hs (closureFor_eq (C.hasC I.ok)) C.kind C.names (thn (hit pins s σ H _ I h) fun v s1 h1 => thn h1 fun itv s2 h2 => ?_)
  obtain ⟨it, fp, tn, J, H2, rfl, I2, T, st2, f2, R⟩ := h2
  obtain ⟨W, ⟨m0, w0⟩, turn⟩ := R s2.heap.objs.size (I2.hok.fresh (Nat.le_refl _))
  refine comp_lay I2 T st2 f2 fun s3 I3 st3 f3 hz3 => ?_
  refine thn (comp_core (Rr := compPost (model X.prog X.w) X.A X.xe none (EP X pins σ Q) (.ref s2.heap.objs.size) s3.heap.objs.size) (pos := pos) (iter := iter) hc C he hi I3 T st3 f3 w0 turn ?_) fun cenv s4 ⟨e, h4⟩ => ?_
  · rintro s' H' I' q ⟨m, hn⟩ f
    exact ⟨m, hn, fun h' hs' => ⟨.ref s2.heap.objs.size, H', I'.let f hs', rfl, q⟩⟩
  · simp only [e] at h4 ⊢
    exact h4
/-! ### readings that change nothing -/
noncomputable def Gives (t : TE) (σ : St) (H : Hp) (v : V) : Prop := ∀ Q : VK, (∀ H', Same H H' → Q v H') → t σ H Q
noncomputable def GivesT (t : TT) (σ : St) (H : Hp) (b : Bool) : Prop := ∀ Q : Bool → Hp → Prop, (∀ H', Same H H' → Q b H') → t σ H Q
theorem Same.upd {H H' : Hp} {l : Addr} {o : HO} (e : Same H H') (h : H l = none) : Same H (upd H' l o) := fun b u q => by
  rw [upd_ne (ne_of_none q h)]
  exact e b u q
theorem comp_pure {J : It} {n : Nat} {item : Nat → V} {p : Nat → Bool} {f : Nat → V} {tt : TT} {te : TE} {cs : St} {H1 : Hp} {Q : VK} (hsz : n ≤ sizeLine)
    (hgo : ∀ i H, Same H1 H → i < n → J.go i H) (hstop : ∀ H, Same H1 H → J.stop n H) (hyl : ∀ i H x H', Same H1 H → i < n → J.yld i H x H' → x = item i ∧ H' = H)
    (htt : ∀ i H, i < n → Same H1 H → GivesT tt (some (item i) :: cs) H (p i)) (hte : ∀ i H, i < n → p i = true → Same H1 H → Gives te (some (item i) :: cs) H (f i))
    (hQ : ∀ l H', H1 l = none → Same H1 H' → H' l = some (.lst (((List.range n).filter p).map f)) → Q (.ref l) H') :
    CompG J tt te cs H1 Q := by
  intro l hl
  refine ⟨fun i m ys H2 => m = n - i ∧ i ≤ n ∧ ys = ((List.range i).filter p).map f ∧ Same H1 H2 ∧ H2 l = some (.lst ys), ⟨n, rfl, Nat.zero_le _, rfl, (Same.refl H1).upd hl, upd_same⟩, ?_⟩
  rintro i m ys H2 ⟨rfl, hi, rfl, s2, hl2⟩
  refine ⟨hl2, ?_⟩
  by_cases hlt : i < n
  · refine .inr ⟨hgo i H2 s2 hlt, ?_, fun y H3 hy => ?_⟩
    · rw [List.length_map]
      have := List.length_filter_le p (List.range i)
      rw [List.length_range] at this
      omega
    · obtain ⟨rfl, rfl⟩ := hyl i H2 y H3 s2 hlt hy
      refine htt i H3 hlt s2 _ fun H4 s4 => ?_
      have e1 : (List.range (i + 1)).filter p = (List.range i).filter p ++ (if p i then [i] else []) := by
        rw [List.range_succ, List.filter_append]
        cases q : p i <;> simp [q]
      cases q : p i with
      | true =>
        rw [if_pos rfl]
        refine hte i H4 hlt q (s2.trans s4) _ fun H5 s5 => ⟨s5 _ _ (s4 _ _ hl2), n - (i + 1), by omega, rfl, hlt, ?_, ((s2.trans s4).trans s5).upd hl, upd_same⟩
        rw [e1, q]
        simp
      | false =>
        rw [if_neg Bool.false_ne_true]
        refine ⟨n - (i + 1), by omega, rfl, hlt, ?_, s2.trans s4, s4 _ _ hl2⟩
        rw [e1, q]
        simp
  · have e : i = n := by omega
    subst e
    exact .inl ⟨hstop H2 s2, hQ l H2 hl s2 hl2⟩
end
end L2

namespace L2
open PySem PySem.Spec PyProof.Rows
section
variable {X : Cx} {pins : List (Addr × Obj)} {σ : St} {H : Hp} {s : Shared}
end

section
variable {X : Cx}
/-! ### a text, sign by sign -/
noncomputable def Its (x : Str) : It := ⟨fun i _ => i < x.cps.size, fun i H v H' => H' = H ∧ ∃ c, x.cps[i]? = some c ∧ v = .str ⟨#[c]⟩, fun i _ => x.cps.size ≤ i⟩
theorem turn_str {P : Program} {w : World} {K : PySem.W.Frag} {tg : Expr} (it : Addr) (x : Str) (t : Tok) (ty : String)
    (W : ∀ A' : Around, A'.handled = none → Walks P w A' it [it] [it] x.cps.size (SignAt x) (fun i h => h.IsStrIter it ty x t i))
    (hn : ["enumerate", "zip", "dict_itemiterator", "dict_reverseitemiterator", "odict_iterator", "itertools.zip_longest", "itertools.pairwise"].contains ty = false)
    (slf : ∀ (A : Around) (i : Nat) (s : Shared) (Q : Value → Shared → Prop) (E : Value → Shared → Prop), s.heap.IsStrIter it ty x t i → Q (.ref it) s → wpAny (model P w) A (pyIter (.ref it)) Q E s) :
    Turn P w K tg (Its x) [it] it (fun i h => h.IsStrIter it ty x t i ∧ i ≤ x.cps.size) where
  mem := by simp
  obj := fun i h st b hb => by
    have e : b = it := by simpa using hb
    subst e
    obtain ⟨⟨o, e, c, d⟩, _⟩ := st
    exact ⟨o, e, fun v z => by rw [d] at z; cases z⟩
  keep := fun i h h' st k => ⟨let ⟨o, e, r⟩ := st.1; ⟨o, k it (by simp) o e, r⟩, st.2⟩
  item := by
    intro X hP hw hK hc i pins s σ H E I hf st hg
    subst hP hw hK
    obtain ⟨f0, f1, f2, f3, f4, f5⟩ := hf it (by simp)
    refine (W X.A (I.ok.hd hc)).item i s _ _ hg st.1 fun v h' tk hv st' kk => ?_
    obtain ⟨c, u, hx, rfl⟩ := hv
    have I1 : Inv X pins σ H { s with heap := h', toks := tk } := I.turned (fun b o hb e => kk b o (by simpa using hb) e) f0 f1 f3 f4 f5
    obtain ⟨o, e, hcl, hd⟩ := id st'
    exact ⟨_, rfl, go_of (s := { s with heap := h', toks := tk }) (n := ty) e hcl hd hn ⟨.str ⟨#[c]⟩, H, I1, ⟨u, rfl⟩, ⟨rfl, c, hx, rfl⟩, ⟨st', hg⟩, fun b hb => (hf b hb).1⟩⟩
  done := by
    intro X hP hw hK hc i pins s σ H E I hf st hg
    subst hP hw hK
    obtain ⟨f0, f1, f2, f3, f4, f5⟩ := hf it (by simp)
    have e : i = x.cps.size := Nat.le_antisymm st.2 hg
    refine (W X.A (I.ok.hd hc)).done s _ _ (e ▸ st.1) fun h' tk kk => ⟨rfl, I.turned (fun b o hb e => kk b o (by simpa using hb) e) f0 f1 f3 f4 f5⟩
  self := fun A i s Q E st h => slf A i s Q E st.1 h
noncomputable def iStr (tl : TE) : TI := fun σ H R => tl σ H fun x H1 => ∃ z, x = .str z ∧ R (Its z) H1
theorem pi_str {tg l : Expr} {tl : TE} (hl : PE X l tl) : PI X tg l (iStr tl) := by
  intro pins s σ H R I h
  refine thn (hl pins s σ H _ I h) fun v s1 ⟨x, H1, I1, r1, q1⟩ => ?_
  obtain ⟨z, rfl, q⟩ := q1
  obtain ⟨t, rfl⟩ := r1
  have I2 : ∀ o, Inv X pins σ H1 { s1 with heap := s1.heap.push o } := fun o => I1.kept (t' := s1.toks) fun b u e => Heap.get?_push_of_some _ e
  have fp : ∀ b ∈ [s1.heap.objs.size], FpOk X pins H1 b := fun b hb => by
    have e : b = s1.heap.objs.size := by simpa using hb
    subst e
    exact I1.fpOk (Nat.le_refl _) (I1.hok.fresh (Nat.le_refl _))
  cases ha : z.cps.all (· < 128)
  · exact wpAny_pyIter_wide ha ⟨s1.heap.objs.size, [s1.heap.objs.size], _, _, H1, rfl, I2 _, turn_str _ z t "str_iterator" (fun A' hA => Walks.strWide hA _ z t) (by decide) (fun _ _ _ _ _ st q => wpAny_pyIter_striter_wide st q), ⟨⟨_, Heap.get?_push_size _ rfl, rfl, rfl⟩, Nat.zero_le _⟩, fp, q⟩
  · exact wpAny_pyIter_ascii ha ⟨s1.heap.objs.size, [s1.heap.objs.size], _, _, H1, rfl, I2 _, turn_str _ z t "str_ascii_iterator" (fun A' hA => Walks.strAscii hA _ z t) (by decide) (fun _ _ _ _ _ st q => wpAny_pyIter_striter_ascii st q), ⟨⟨_, Heap.get?_push_size _ rfl, rfl, rfl⟩, Nat.zero_le _⟩, fp, q⟩

/-! ### all(list of bools) -/
theorem all_range : ∀ bs : List Bool, ((List.range bs.length).all fun i => (bs[i]?).getD true) = bs.all id
  | [] => rfl
  | b :: r => by
    rw [List.length_cons, List.range_succ_eq_map, List.all_cons, List.all_map, List.all_cons, ← all_range r]
    congr 1
theorem call_all_bools (hc : X.calm = true) : CallR X (.builtin "all") (fun xs H Q => ∃ (p : Addr) (bs : List Bool), xs = [.ref p] ∧ SqL X.K H p (bs.map V.bl) ∧ Q (.bl (bs.all id)) H) := by
  intro pins s σ H xs us Q I r h
  obtain ⟨p, bs, rfl, hq, q⟩ := h
  obtain ⟨u, rfl, ru⟩ := vals1 r
  cases ru
  obtain ⟨its, rv, pl, hz⟩ := I.list hq
  have hl := rv.length
  rw [List.length_map] at hl
  refine call_all_walk (wpAny_pyIter_list pl.isList ?_)
  have I2 : Inv X pins σ H { s with heap := s.heap.push { cls := .type "list_iterator", data := .fields #[.ref p, .int 0 0] } } := I.kept (t' := s.toks) fun b u e => Heap.get?_push_of_some _ e
  have hfr : H s.heap.objs.size = none := I.hok.fresh (Nat.le_refl _)
  obtain ⟨f0, f1, f2, f3, f4, f5⟩ := I.fpOk (Nat.le_refl _) hfr
  have hp : p ≠ s.heap.objs.size := by
    obtain ⟨o, e, _⟩ := id pl.isList
    exact Nat.ne_of_lt (Heap.lt_size e)
  refine ⟨s.heap.objs.size, _, _, _, _, _, fun i => (bs[i]?).getD true, rfl, Walks.list (A := X.A.in1) (show X.A.handled = none from I.ok.hd hc) s.heap.objs.size p hp its.toArray, ⟨⟨_, Heap.get?_push_size _ rfl, rfl, rfl⟩, pl.isList.at fun o e => Heap.get?_push_of_some _ e⟩, fun i v s' Q' E' hP hQ' => ?_, fun h' tk kk => ?_⟩
  · have hP : its[i]? = some v := by simpa using hP
    have hi : i < bs.length := by rw [hl]; exact (List.getElem?_eq_some_iff.mp hP).1
    obtain ⟨u, hu, ru⟩ := rv.get (i := i) (x := V.bl bs[i]) (by simp [hi])
    rw [hP] at hu
    cases hu
    obtain rfl : v = Value.bool bs[i] := ru
    have hQ' : Q' ((bs[i]?).getD true) s' := hQ'
    rw [List.getElem?_eq_getElem hi] at hQ'
    exact wpAny_truthy_bool hQ'
  · have e : ((List.range its.toArray.size).all fun i => (bs[i]?).getD true) = bs.all id := by
      rw [List.size_toArray, ← hl]
      exact all_range bs
    rw [e]
    exact ⟨.bl (bs.all id), H, I2.turned (t' := tk) (fun b o hb q' => kk b o (by simpa using hb) q') f0 f1 f3 f4 f5, rfl, q⟩
end
end L2

namespace L2
open PySem PySem.Spec PyProof.Rows
section
variable {X : Cx}
theorem Paired.at1 {α β : Type} {F : α → β → Prop} {l : List α} {m : List β} {i : Nat} {a : α} (h : Paired F l m) (e : l[i]? = some a) : ∃ b, m[i]? = some b ∧ F a b := by
  induction h generalizing i with
  | nil => rw [List.getElem?_nil] at e; cases e
  | cons r _ ih =>
    cases i with
    | zero =>
      obtain rfl := Option.some.inj e
      exact ⟨_, rfl, r⟩
    | succ i => exact ih e
/-! ### isinstance(x, T), T a built-in type -/
noncomputable def rIsI (K : PySem.W.Frag) : List V → Hp → VK → Prop := fun xs H Q => Ex4_4 (fun x t T b => xs = [x, .ty T]) (fun x t T b => TyOf K H x t) (fun x t T b => PySem.W.kitOne K t (.type T) = some b) (fun x t T b => Q (.bl b) H)
theorem call_isi : CallR X (.builtin "isinstance") (rIsI X.K) := by
  intro pins s σ H xs us Q I r h
  obtain ⟨x, t, T, b, rfl, ty, e, q⟩ := h
  obtain ⟨u, w', rfl, r1, r2⟩ := vals2 r
  obtain rfl : w' = Value.type T := r2
  exact isinst_ok I r1 ty e fun tk => ⟨.bl b, H, I.tok tk, rfl, q⟩
end
end L2

/-! the layout's mathematics, over plain functions: sz i: the size of row i where it is near; ld i: the place of the mark that row i leads to -/
namespace SM

noncomputable def b2z (b : Bool) : Int := if b = true then 1 else 0

noncomputable def bg (sz : Nat → Int) (far : Nat → Bool) : Nat → Int
  | 0 => 0
  | i + 1 => bg sz far i + (sz i + b2z (far i))

noncomputable def near (g : Int) : Bool := decide (-8 ≤ g) && decide (g ≤ 7)

noncomputable def gap (sz : Nat → Int) (far : Nat → Bool) (i t : Nat) : Int := bg sz far t - bg sz far (i + 1)

/-- row i is near and can't be -/
noncomputable def grows (sz : Nat → Int) (ld : Nat → Option Nat) (far : Nat → Bool) (i : Nat) : Bool :=
  match ld i with
  | none => false
  | some t => !far i && !near (gap sz far i t)

noncomputable def step (sz : Nat → Int) (ld : Nat → Option Nat) (far : Nat → Bool) (i : Nat) : Bool := far i || grows sz ld far i

noncomputable def it (sz : Nat → Int) (ld : Nat → Option Nat) (f0 : Nat → Bool) : Nat → Nat → Bool
  | 0 => f0
  | k + 1 => step sz ld (it sz ld f0 k)

/-- the end of the search from f0 -/
noncomputable def Ends (sz : Nat → Int) (ld : Nat → Option Nat) (f0 far : Nat → Bool) : Prop := (∃ k, far = it sz ld f0 k) ∧ step sz ld far = far

variable {sz : Nat → Int} {ld : Nat → Option Nat} {f0 far far' : Nat → Bool}

/-- how many rows below n are near -/
noncomputable def cnt (far : Nat → Bool) : Nat → Nat
  | 0 => 0
  | n + 1 => cnt far n + (if far n = true then 0 else 1)

/-- row i made near, all others as they are -/
noncomputable def but (far : Nat → Bool) (i j : Nat) : Bool := if j = i then false else far j

end SM

/-! ROWS: what the program and the laws speak of, over plain lists -/
namespace SC
open PySem PySem.Spec PyProof.Rows L2

inductive Rw where
  | mark (x : Str) | grow (n : Int) | tell | jump (x : Str) | whn (x : Str) | halt
  deriving DecidableEq
noncomputable def Rw.tv : Rw → List V
  | .mark x => [.str "mark", .str x]
  | .grow n => [.str "grow", .int n]
  | .tell => [.str "tell"]
  | .jump x => [.str "jump", .str x]
  | .whn x => [.str "when", .str x]
  | .halt => [.str "halt"]
noncomputable def Rw.word : Rw → Str
  | .mark _ => "mark"
  | .grow _ => "grow"
  | .tell => "tell"
  | .jump _ => "jump"
  | .whn _ => "when"
  | .halt => "halt"
noncomputable def Rw.sz : Rw → Int
  | .mark _ => 0
  | .grow _ => 2
  | .tell => 1
  | .jump _ => 2
  | .whn _ => 2
  | .halt => 1
theorem tv_word (r : Rw) : r.tv[0]? = some (.str r.word) := by cases r <;> rfl
theorem tv_len (r : Rw) : r.tv.length ≤ 2 := by cases r <;> simp [Rw.tv]
noncomputable def nm (r : Rw) : Option Str := match r with
  | .mark x => some x
  | .jump x => some x
  | .whn x => some x
  | _ => none
/-! ### rows in the heap -/
noncomputable def RowsAt (H : Hp) (a : Addr) (rs : List Rw) : Prop := ∃ ps : List Addr, H a = some (.lst (ps.map V.ref)) ∧ Paired (fun p (r : Rw) => H p = some (.tup r.tv)) ps rs
theorem RowsAt.same {H H' : Hp} {a : Addr} {rs : List Rw} (h : RowsAt H a rs) (s : Same H H') : RowsAt H' a rs := by
  obtain ⟨ps, h1, h2⟩ := h
  exact ⟨ps, s _ _ h1, Paired.mapP h2 fun p r e => s _ _ e⟩
/-- prefix sums -/
noncomputable def ps (f : Nat → Int) : Nat → Int
  | 0 => 0
  | i + 1 => ps f i + f i
end SC

namespace SC
open PySem PySem.Spec PyProof.Rows L2
theorem bt_len : bootBuiltins "len" = some (.builtin "len") := by decide +kernel
theorem bt_all : bootBuiltins "all" = some (.builtin "all") := by decide +kernel
theorem bt_isinstance : bootBuiltins "isinstance" = some (.builtin "isinstance") := by decide +kernel
theorem bt_int : bootBuiltins "int" = some (.type "int") := by decide +kernel
theorem bt_bool : bootBuiltins "bool" = some (.type "bool") := by decide +kernel
theorem bt_str : bootBuiltins "str" = some (.type "str") := by decide +kernel
theorem bt_list : bootBuiltins "list" = some (.type "list") := by decide +kernel
theorem bt_tuple : bootBuiltins "tuple" = some (.type "tuple") := by decide +kernel
/-! ### defs of the text, by name -/
/-! how many there are -/
theorem usS {n : Nat} {us : List Value} (h : us.length = n + 1) : ∃ a r, us = a :: r ∧ r.length = n := by
  cases us with
  | nil => cases h
  | cons a r => exact ⟨a, r, rfl, Nat.succ.inj h⟩
theorem us1 {us : List Value} (h : us.length = 1) : ∃ a, us = [a] := by
  obtain ⟨a, r, rfl, h2⟩ := usS h
  exact ⟨a, by rw [List.eq_nil_of_length_eq_zero h2]⟩
theorem us2 {us : List Value} (h : us.length = 2) : ∃ a b, us = [a, b] := by
  obtain ⟨a, r, rfl, h2⟩ := usS h
  obtain ⟨b, rfl⟩ := us1 h2
  exact ⟨a, b, rfl⟩
structure Def (K : PySem.W.Frag) (mg : Str → Option Value) (x : Str) (st : Stmt) (ps : List Str) : Prop where
  ex : ∃ f fd, Fun K x x st f fd ∧ Binds K fd ps [] ∧ mg x = some (.ref f)
structure Has (P : Program) (w : World) (K : PySem.W.Frag) (mg : Str → Option Value) (base : Heap) (k : Nat) (x : Str) (ps : List Str) (sp : Sp) : Prop where
  ex : ∃ f fd, FnOk P w K mg base CX0 k f fd ps sp ∧ Binds K fd ps [] ∧ mg x = some (.ref f) ∧ PySem.W.keepIn K (.ref f) = true
section
variable {P : Program} {w : World} {K : PySem.W.Frag} {mg : Str → Option Value} {base : Heap}
theorem Def.has {x : Str} {st : Stmt} {N ps : List Str} {k : Nat} {sp : Sp} (D : Def K mg x st ps) (S : FnScope N ps (defScope st)) (len : ∀ vs H Q E, sp vs H Q E → vs.length = ps.length)
    (hbody : ∀ (f : Addr) (cdv : Value) (A : Around) (outer : List Env) (s : Shared) (H : Hp) (vs : List V) (Q : VK) (E : XK), Room k (A.deeper (envOfC x (defScope st) s.heap.objs.size f cdv)) → sp vs H Q E →
      ∃ t, PSs (cxOf CX0 P w K mg base N x (defScope st) f cdv A outer s H E).nox (defBody st) t ∧ t { nx := fun _ H' => Q .non H', rt := Q } (start N vs) H) : Has P w K mg base (k + 1) x ps sp := by
  obtain ⟨f, fd, F, b, m⟩ := D.ex
  exact ⟨f, fd, F.ok S len (hbody f), b, m, F.kp⟩
end
section
variable {X : Cx} {pos p : Pos} {x : Str}
theorem pe_has {k k' : Nat} {ps : List Str} {sp : Sp} {e : Expr} {es : List Expr} {t : TA} (h : Has X.prog X.w X.K X.mg X.base k' x ps sp) (hr : Room k X.A) (hg : Gl X x) (ha : PA X (e :: es) t) (hk : k' ≤ k := by decide)
    (hdb : (x == ("__debug__" : Str)) = false := by decide) (he : starEach (e :: es) X.env = (false, eval e X.env) :: starEach es X.env := by rfl) (hpl : (backTo pos (starEach es X.env)).any (·.1) = false := by rfl) :
    PE X (.Call (.Name x p) (e :: es) [] pos) (tCall sp [] E0 t) := by
  obtain ⟨f, fd, F, b, m, kp⟩ := h.ex
  exact pe_call F (hr.mono hk) hg m kp b .nil pass0 ha hdb he hpl
theorem pe_gS {z : Str} (hg : Gl X x) (h : ∃ t, X.mg x = some (.str z t)) (hd : (x == ("__debug__" : Str)) = false := by decide) : PE X (.Name x pos) (tC (.str z)) := by
  obtain ⟨t, h⟩ := h
  exact pe_glob hg h ⟨t, rfl⟩ hd
/-- a list or tuple of the module -/
theorem pe_gR {φ : Addr → Prop} (hg : Gl X x) (h : ∃ a, X.mg x = some (.ref a) ∧ φ a) (hd : (x == ("__debug__" : Str)) = false := by decide) : PE X (.Name x pos) (fun _ H Q => ∀ a, φ a → Q (.ref a) H) := by
  obtain ⟨a, h, ha⟩ := h
  exact fun _ _ _ H _ I q => ld_glob I hg h ⟨.ref a, H, I, rfl, q a ha⟩ hd
theorem pe_bty {T : String} (hg : Gl X x) (hm : X.mg x = none) (hv : bootBuiltins x = some (.type T)) (hn : x ≠ "__name__" := by decide) (hd : (x == ("__debug__" : Str)) = false := by decide) : PE X (.Name x pos) (tC (.ty T)) := pe_bltn hg hm hv rfl hn hd
end
end SC

/-! READINGS without the module: what is read is tracked -/
namespace L2
open PySem PySem.Spec PyProof.Rows
section
variable {X : Cx} {K : PySem.W.Frag} {H : Hp} {a : Addr} {xs : List V}
theorem sqL0 (h : SqL [] H a xs) : SqL K H a xs := by
  rcases h with h | ⟨o, its, n, hk, _⟩
  · exact .inl h
  · cases hk
theorem sqT0 (h : SqT [] H a xs) : SqT K H a xs := by
  rcases h with h | ⟨o, its, n, hk, _⟩
  · exact .inl h
  · cases hk
theorem ix_list0 : IxR X (rIxL []) := fun value slice pins s σ H x y v u Q I rx ry ⟨p, xs, i, w, e1, e2, e3, e4, q⟩ hs => ix_list value slice pins s σ H x y v u Q I rx ry ⟨p, xs, i, w, e1, e2, sqL0 e3, e4, q⟩ hs
theorem ix_tup0 : IxR X (rIxT []) := fun value slice pins s σ H x y v u Q I rx ry ⟨p, xs, i, w, e1, e2, e3, e4, q⟩ hs => ix_tup value slice pins s σ H x y v u Q I rx ry ⟨p, xs, i, w, e1, e2, sqT0 e3, e4, q⟩ hs
noncomputable def rLen0 : List V → Hp → VK → Prop := fun xs H Q => Ex2_3 (fun p ys => xs = [.ref p]) (fun p ys => (SqL [] H p ys ∨ SqT [] H p ys)) (fun p ys => Q (.int ys.length) H)
theorem call_len_seq0 : CallR X (.builtin "len") rLen0 := fun pins s σ H xs us Q I r ⟨p, ys, e, h, q⟩ => call_len_seq pins s σ H xs us Q I r ⟨p, ys, e, h.elim (fun z => .inl (sqL0 z)) fun z => .inr (sqT0 z), q⟩
noncomputable def rListOf0 : List V → Hp → VK → Prop := fun xs H Q => Ex2_3 (fun p ys => xs = [.ref p]) (fun p ys => (SqL [] H p ys ∨ SqT [] H p ys)) (fun p ys => ∀ l, H l = none → Q (.ref l) (upd H l (.lst ys)))
theorem call_list_of0 : CallR X (.type "list") rListOf0 := fun pins s σ H xs us Q I r ⟨p, ys, e, h, q⟩ => call_list_of pins s σ H xs us Q I r ⟨p, ys, e, h.elim (fun z => .inl (sqL0 z)) fun z => .inr (sqT0 z), q⟩
theorem tyV0 {T : String} {x : V} {H : Hp} (h : tyV [] T x H) : tyV K T x H := by
  cases x with
  | ref p =>
    rcases h with ⟨e, xs, h⟩ | ⟨_, o, h, _⟩ | h | h
    · exact .inl ⟨e, xs, sqL0 h⟩
    · cases h
    · exact .inr (.inr (.inl h))
    · exact .inr (.inr (.inr h))
  | _ => exact h
variable {o e : Expr} {es : List Expr} {to te : TE} {t : TA} {name : Str} {apos cpos : Pos} {T id : String} {r : V → List V → Hp → VK → Prop}
theorem PE.up (h : PE X e te) : PE X e (fun σ H Q => ∃ P : VK, te σ H P ∧ ∀ x H1, P x H1 → Q x H1) := fun pins s σ H Q I ⟨P, h1, h2⟩ => thn (h pins s σ H P I h1) fun v s' ⟨x, H', I', r, q⟩ => ⟨x, H', I', r, h2 _ _ q⟩
theorem pe_bmF (pa : PlainAttrs T) (slot : Slot T name id) (ty : typeOf (.builtin id) = pure (.type "method_descriptor")) (m : MtR X id r) (h : PE X o to) (a : PA X (e :: es) t)
    (h1 : attributeBase o name X.env (eval o X.env) = eval o X.env := by rfl)
    (h2 : ((backTo cpos (starEach (e :: es) X.env)).all (fun x => !x.1) && (backToKw cpos (keywordEach [] X.env)).all (fun x => x.1.isSome) && decide ((e :: es).length + ([] : List Keyword).length + (if ([] : List Keyword).isEmpty then 0 else 1) < 30)) = true := by rfl)
    (h3 : (apos.endLine == cpos.line) = true := by rfl) (h4 : starEach (e :: es) X.env = (false, eval e X.env) :: starEach es X.env := by rfl) (h5 : (backTo cpos (starEach es X.env)).any (·.1) = false := by rfl) :
    PE X (.Call (.Attribute o name apos) (e :: es) [] cpos) (tBM [] T r to t) := fun pins s σ H Q I q =>
  pe_bm pa slot ty m h.up a h1 h2 h3 h4 h5 pins s σ H Q I ⟨_, q, fun _ _ z => ⟨tyV0 z.1, z.2⟩⟩
end
end L2

/-! TEXTS: startswith, endswith, split, join, slices, int of a figure -/
namespace PySem
open Sem (wp)
open Builtin Builtin.Str Builtin.Int
section
variable {prog : Program} {w : World} {A : Around} {E : Value → Shared → Prop} {s : Shared} {I : Addr} {fp wr : List Addr} {G : Array GenState → Array GenState → Prop} {n : Nat} {P : Nat → Value → Prop} {St : Nat → Shared → Prop}
theorem split_lay {x y : Str} {t u : Tok} {Q : Value → Shared → Prop} (hy : (y.length == 0) = false)
    (hq : ∀ (l : List (Str × Tok)) (tk : Nat), l.map (·.1) = Txt.split x y → Q (.ref s.heap.objs.size) { s with heap := s.heap.push { cls := .type "list", data := .seq (strValues l).toArray }, toks := tk })
    (hsz : x.length ≤ sizeLine) (hsz2 : (partsBetween x (occurrences x y 0 x.length (x.length + 1)) y.length).length ≤ sizeLine) :
    wpAny (model prog w) A (call (.builtin "str.split") [.str x t, .str y u]) Q E s := by
  cases h1 : (decide (x.length < y.length) || decide (Builtin.Str.strKind x < Builtin.Str.strKind y))
  · cases hf : (occurrences x y 0 x.length (x.length + 1)).isEmpty
    · refine call_meets F.slot_str_split (typeIs_str _ _ _) F.entry_str_split (F.args_str_split_2 _ _) (meets_str_split_sep x y t u h1 hy hf hsz hsz2) ?_
      show wants Q E _ { s with toks := _, heap := s.heap.push { cls := .type "list", data := .seq (strsFrom s.toks (partsBetween x (occurrences x y 0 x.length (x.length + 1)) y.length)).toArray } }
      rw [strsFrom_eq]
      exact hq (numbered s.toks _) _ ((numbered_texts _ _).trans ((if_neg (ne_true_of_eq_false h1)).trans (if_neg (ne_true_of_eq_false hf))).symm)
    · exact call_meets F.slot_str_split (typeIs_str _ _ _) F.entry_str_split (F.args_str_split_2 _ _) (meets_str_split_not_found x y t u h1 hy hf)
        (hq [(x, t)] s.toks ((if_neg (ne_true_of_eq_false h1)).trans (if_pos hf)).symm)
  · exact call_meets F.slot_str_split (typeIs_str _ _ _) F.entry_str_split (F.args_str_split_2 _ _) (meets_str_split_cannot_occur x y t u h1)
      (hq [(x, t)] s.toks (if_pos h1).symm)
end
end PySem
namespace L2
open PySem PySem.Spec PyProof.Rows
section
variable {X : Cx}
noncomputable def rStarts : V → List V → Hp → VK → Prop := fun x vs H Q => Ex2_3 (fun (z y : Str) => x = .str z) (fun (z y : Str) => vs = [.str y]) (fun (z y : Str) => Q (.bl (Txt.startswith z y)) H)
theorem mt_starts : MtR X "str.startswith" rStarts := by
  intro pins s σ H x vs v us Q I rx rv h
  obtain ⟨z, y, rfl, rfl, q⟩ := h
  obtain ⟨t, rfl⟩ := rx
  obtain ⟨u, rfl, t', rfl⟩ := rv.one
  exact SC.startswith ⟨.bl _, H, I, rfl, q⟩
noncomputable def rEndsW : V → List V → Hp → VK → Prop := fun x vs H Q => Ex2_3 (fun (z y : Str) => x = .str z) (fun (z y : Str) => vs = [.str y]) (fun (z y : Str) => Q (.bl (Txt.endswith z y)) H)
theorem mt_ends : MtR X "str.endswith" rEndsW := by
  intro pins s σ H x vs v us Q I rx rv h
  obtain ⟨z, y, rfl, rfl, q⟩ := h
  obtain ⟨t, rfl⟩ := rx
  obtain ⟨u, rfl, t', rfl⟩ := rv.one
  exact SC.endswith ⟨.bl _, H, I, rfl, q⟩
theorem vals_strs : ∀ l : List (Str × Tok), Vals ((l.map (·.1)).map V.str) (strValues l)
  | [] => .nil
  | p :: l => .cons ⟨p.2, rfl⟩ (vals_strs l)
noncomputable def rSplit : V → List V → Hp → VK → Prop := fun x vs H Q => ∃ z y : Str, x = .str z ∧ vs = [.str y] ∧ (y.length == 0) = false ∧ z.length ≤ 3000 ∧ (Builtin.Str.partsBetween z (Builtin.Str.occurrences z y 0 z.length (z.length + 1)) y.length).length ≤ 3000 ∧ (Txt.split z y).length ≤ 3000 ∧
  ∀ l, H l = none → Q (.ref l) (upd H l (.lst ((Txt.split z y).map V.str)))
theorem mt_split : MtR X "str.split" rSplit := by
  intro pins s σ H x vs v us Q I rx rv h
  obtain ⟨z, y, rfl, rfl, hy, hz, hp, hl, q⟩ := h
  obtain ⟨t, rfl⟩ := rx
  obtain ⟨u, rfl, t', rfl⟩ := rv.one
  have hsz : sizeLine = 2 ^ 24 := rfl
  refine split_lay hy (fun l tk e => ?_) (by omega) (by omega)
  have fr := I.hok.fresh (Nat.le_refl s.heap.objs.size)
  refine ⟨.ref s.heap.objs.size, _, I.laid (t' := tk) (o := .lst ((Txt.split z y).map V.str)) (fun b ob q => Heap.get?_push_of_some _ q) (Nat.le_refl _) ?_, rfl, q _ fr⟩
  exact ⟨by rw [List.length_map]; omega, strValues l, 0, by rw [← e]; exact vals_strs l, Heap.get?_push_size _ rfl⟩
end
end L2

/-! slices of a text, int of a figure, str of anything flat -/
namespace L2
open PySem PySem.Spec PyProof.Rows
section
variable {X : Cx}
noncomputable def rSlS : V → Option Int → Option Int → Hp → VK → Prop := fun x lo hi H Q => Ex1_3 (fun (z : Str) => x = .str z) (fun (z : Str) => z.length ≤ 3000) (fun (z : Str) => Q (.str (Txt.slice z lo hi)) H)
theorem part_of : ∀ {v : Value} {lo : Option Int}, IsPart v lo → ∃ l : Option (Int × Tok), v = partValue l ∧ l.map (·.1) = lo
  | _, _, .none => ⟨none, rfl, rfl⟩
  | _, _, .int i t => ⟨some (i, t), rfl, rfl⟩
theorem sl_str : SlR X rSlS := by
  intro pins s σ H x v vl vu lo hi sl Q I rx hs pl pu h
  obtain ⟨z, rfl, hz, q⟩ := h
  obtain ⟨t, rfl⟩ := rx
  obtain ⟨l, rfl, rfl⟩ := part_of pl
  obtain ⟨u, rfl, rfl⟩ := part_of pu
  have hsz : sizeLine = 2 ^ 24 := rfl
  have hle := Txt.slice_le z (l.map (·.1)) (u.map (·.1))
  exact ⟨"str", _, PySem.F.slot_str_getitem.lookup, typeIs_str _ _ _, wpAny_getItem_str_slice (l := l) (u := u) (st := none) hs rfl (post_val_or_str ⟨(show (Txt.slice z (l.map (·.1)) (u.map (·.1))).length ≤ sizeLine by omega), fun t' k => ⟨.str _, H, I.tok k, ⟨_, rfl⟩, q⟩⟩)⟩
theorem fig_int : ∀ d : Fin 10, PySem.intText? ⟨#[48 + d.val]⟩ = some (d.val : Int) := by decide +kernel
theorem call_int_fig : CallR X (.type "int") (fun xs H Q => ∃ d : Nat, d < 10 ∧ xs = [.str ⟨#[48 + d]⟩] ∧ Q (.int (d : Nat)) H) := by
  intro pins s σ H xs us Q I r h
  obtain ⟨d, hd, rfl, q⟩ := h
  obtain ⟨u, rfl, t, rfl⟩ := vals1 r
  exact PySem.W.KIN.call_text (fig_int ⟨d, hd⟩) (by show 1 ≤ 640; decide) ⟨.int (d : Nat), H, I.tok _, ⟨_, rfl⟩, q⟩
theorem call_str_any : CallR X (.type "str") (fun xs H Q => (∃ i, xs = [.int i] ∧ i.natAbs.log2 < 1920 ∧ Q (.str (toString i)) H) ∨ ∃ z, xs = [.str z] ∧ Q (.str z) H) := by
  intro pins s σ H xs us Q I r h
  rcases h with ⟨i, rfl, hz, q⟩ | ⟨z, rfl, q⟩
  · obtain ⟨u, rfl, t, rfl⟩ := vals1 r
    exact PySem.P.str_of_int hz ⟨.str _, H, I.tok _, ⟨_, rfl⟩, q⟩
  · obtain ⟨u, rfl, t, rfl⟩ := vals1 r
    exact PySem.P.str_of_str ⟨.str z, H, I, ⟨_, rfl⟩, q⟩
end
end L2

/-! EXCEPTIONS of one's own: how one lies behind a call, how it leaves a frame, raise -/
namespace L2
open PySem PySem.Spec PyProof.Rows

/-- as Un, where B is what the exception's way leaves alone -/
structure UnB (fs : List Addr) (H H' : Hp) (h B h' : Heap) : Prop where
  keep : ∀ b o, h.get? b = some o → H b = none → b ∉ fs → B.get? b = some o
  slot : ∀ b o, h.get? b = some o → H b = none → b ∈ fs → ∃ sl, h'.get? b = some { o with slots := sl }
  free : ∀ b o, h.get? b = some o → H b = none → H' b = none
  there : ∀ b o, h.get? b = some o → b ∉ fs → ∃ o', B.get? b = some o'
  tups : ∀ b xs, H b = some (.tup xs) → H' b = some (.tup xs)
  frzs : ∀ b o u, H b = some (.frz o u) → H' b = some (.frz o u)
  tbls : ∀ b ps, H b = some (.tbl ps) → ∃ more, H' b = some (.tbl (ps ++ more))

section
variable {fs : List Addr} {H0 H H' : Hp} {h0 h B h' h'' : Heap} {L : Addr}
theorem UnB.un (u : UnB fs H H' h B h') (k : B.StaysIn h') (hf : ∀ b ∈ fs, H b = none) : Un fs [] H H' h h' where
  keep := fun b o q n hb _ => k _ _ (u.keep b o q n hb)
  slot := fun b o q n hb _ => u.slot b o q n hb
  free := fun b o q n _ => u.free b o q n
  there := fun b o q _ => by
    by_cases hb : b ∈ fs
    · obtain ⟨sl, e⟩ := u.slot b o q (hf b hb) hb
      exact ⟨_, e⟩
    · obtain ⟨o', e⟩ := u.there b o q hb
      exact ⟨o', k _ _ e⟩
  tups := u.tups
  frzs := u.frzs
  tbls := u.tbls
theorem nnil {b : Addr} : b ∉ ([] : List Addr) := fun z => nomatch z
end

/-- how an exception lies behind a call -/
noncomputable def CX1 (P : Program) (w : World) : CXT := fun outer H s E e s' => ∃ (ea : Addr) (cls a0 : Value) (H' : Hp) (B : Heap),
  e = .ref ea ∧ s'.os = s.os ∧ AllBare s'.gens ∧ UnB (frs outer) H H' s.heap B s'.heap ∧ HOk P w H' B ∧ Heap.FlyingW B outer ea cls a0 s'.heap ∧ E cls none H'

section
variable {P : Program} {w : World} {K : PySem.W.Frag} {mg : Str → Option Value} {base : Heap}
/-- a def from which nothing leaves -/
theorem FnOk.lift {CX : CXT} {k : Nat} {f : Addr} {fd : FuncData} {ps : List Str} {sp : Sp} (F : FnOk P w K mg base CX0 k f fd ps sp) : FnOk P w K mg base CX k f fd ps sp :=
  ⟨F.len, fun A outer s H args us vs Q E hr e0 hb r h => codeAny_mono (F.run A outer s H args us vs Q E hr e0 hb r h) fun r s' q => by
    cases r with
    | ok f =>
      cases f with
      | ret u => exact q
      | next => exact q
      | brk => exact q
      | cont => exact q
    | error e => exact q.elim⟩
theorem HOk.sub {H : Hp} {h h' : Heap} (ok : HOk P w H h) (k : ∀ b u, H b ≠ none → h.get? b = some u → h'.get? b = some u) : HOk P w H h' := fun a o q =>
  (ok a o q).stay (fun b u hb e => k b u (by
    rcases hb with z | z
    · rw [z, q]; exact fun z => nomatch z
    · rw [z]; exact fun z => nomatch z) e) (fun _ z => z) fun _ _ z => z

/-- what is raised in a body reaches what the body wants -/
noncomputable def Throws (X : Cx) (E : XK) : Prop := ∀ (pins : List (Addr × Obj)) (σ : St) (H : Hp) (s : Shared) (ea C : Addr) (args : List Value) (h' : Heap), Inv X pins σ H s → Heap.MadeExcOf s.heap h' ea (.ref C) args → E (.ref C) none H →
  X.xe (.ref ea) { s with heap := h' }

section
variable {N : List Str} {qual : Str} {scope : Scope} {f : Addr} {cdv : Value} {A : Around} {outer : List Env} {s : Shared} {H : Hp} {E : XK}
theorem throws1 : Throws (cxOf (CX1 P w) P w K mg base N qual scope f cdv A outer s H E) E := by
  intro pins σ H1 s1 ea C args h' I hm q
  have hin : ∀ env ∈ (envOfC qual scope s.heap.objs.size f cdv :: outer), ∀ b, env.frame = some b → b ∈ frs (envOfC qual scope s.heap.objs.size f cdv :: outer) := fun env he b hb => List.mem_filterMap.mpr ⟨env, he, hb⟩
  have nf : ∀ b, H1 b ≠ none → b ∉ frs (envOfC qual scope s.heap.objs.size f cdv :: outer) := fun b hb z => hb (I.stkFree b z)
  refine wpAny_leaves_madeW (base := PySem.W.hideAll s1.heap (frs (envOfC qual scope s.heap.objs.size f cdv :: outer))) (env := envOfC qual scope s.heap.objs.size f cdv) (outer := outer) (L := s.heap.objs.size) I.ok.frames rfl
    (fun b o q => PySem.W.of_hideAll _ q) (PySem.W.funFrames_hide I.stack hin) hm fun h'' t fl _ _ up => ?_
  have ne : ∀ b o, s.heap.get? b = some o → b ∉ frs outer → b ∉ frs (envOfC qual scope s.heap.objs.size f cdv :: outer) := fun b o q hb z => by
    have z : b ∈ s.heap.objs.size :: frs outer := z
    rcases List.mem_cons.mp z with e | e
    · subst e
      exact absurd (Heap.lt_size q) (Nat.lt_irrefl _)
    · exact hb e
  have a : Un (frs outer) [] H H1 s.heap s1.heap := I.base
  refine ⟨ea, .ref C, .ref t, H1, _, rfl, I.os, I.bare, ⟨fun b o q n hb => PySem.W.hideAll_get _ (a.keep b o q n hb nnil) (ne b o q hb), fun b o q n hb => ?_, fun b o q n => a.free b o q n nnil, fun b o q hb => ?_, a.tups, a.frzs, a.tbls⟩, I.hok.sub fun b u hb e => PySem.W.hideAll_get _ e (nf b hb), fl, q⟩
  · obtain ⟨sl, e1⟩ := a.slot b o q n hb nnil
    obtain ⟨sl3, e3⟩ := up b _ (hm.keeps _ _ e1) (by
      obtain ⟨_, o', e, d⟩ := I.ok.funs.mem hb
      have e : s.heap.get? b = some o' := e
      rw [q] at e
      cases e
      exact d)
    exact ⟨sl3, e3⟩
  · obtain ⟨o', e⟩ := a.there b o q nnil
    exact ⟨o', PySem.W.hideAll_get _ e (ne b o q hb)⟩
end
/-- a def that may raise -/
theorem Fun.ok1 {x qual : Str} {st : Stmt} {f : Addr} {fd : FuncData} {N ps : List Str} {k : Nat} {sp : Sp} (F : Fun K x qual st f fd) (S : FnScope N ps (defScope st)) (len : ∀ vs H Q E, sp vs H Q E → vs.length = ps.length)
    (hbody : ∀ (cdv : Value) (A : Around) (outer : List Env) (s : Shared) (H : Hp) (vs : List V) (Q : VK) (E : XK), Room k (A.deeper (envOfC qual (defScope st) s.heap.objs.size f cdv)) → sp vs H Q E →
      ∃ t, PSs (cxOf (CX1 P w) P w K mg base N qual (defScope st) f cdv A outer s H E) (defBody st) t ∧ t { nx := fun _ H' => Q .non H', rt := Q } (start N vs) H) : FnOk P w K mg base (CX1 P w) (k + 1) f fd ps sp := by
  obtain ⟨oc, od, kV, doc, pm, an, cdv, ct, osl, rfl, lk, hcd⟩ := F.ex
  exact fn_of lk hcd S len fun A outer s H vs Q E hr hsp => hbody cdv A outer s H vs Q E hr hsp
end

/-! ### raise C(e) -/
/-- a class of one's own: mro, its base's -/
structure ExCls (K : PySem.W.Frag) (C : Addr) : Prop where
  q : PySem.W.excIn K C [.type "ValueError", .type "Exception", .type "BaseException", .type "object"] "ValueError.__new__" = true
  fcl : PySem.W.findIn K (.ref C) "__class__" = some (some (.builtin "object.__class__"))
  fga : PySem.W.findIn K (.ref C) "__getattribute__" = some (some (.builtin "BaseException.__getattribute__"))
  fgx : PySem.W.findIn K (.ref C) "__getattr__" = some none

/-- C's classes, by K -/
noncomputable def subIn (K : PySem.W.Frag) (C : Addr) (D : Value) : Bool := match K.lookup C with
  | some ⟨_, _, .cls cd, _⟩ => cd.mro.contains D
  | _ => false
theorem ExCls.obj {K : PySem.W.Frag} {C : Addr} {h : Heap} (E : ExCls K C) (X : K.In h) :
    ∃ bm N nm q bs hdct sn sub ab col dd k0 k1 k2 k3 k5 mN, h.get? C = some (excClassObj nm q C N bs bm hdct sn sub ab col dd k0 k1 k2 k3 k5 "ValueError.__new__") ∧ h.Ns N mN ∧ mN "__init__" = none ∧
      OwnTail h [.type "ValueError", .type "Exception", .type "BaseException", .type "object"] bm ∧ ∀ D, (Value.ref C :: bm).contains D = subIn K C D := by
  have q := E.q
  unfold PySem.W.excIn at q
  split at q
  · rename_i dd cd sl ho
    split at q
    · rename_i C' bm k0 k1 k2 k3 n k5 hm hs
      simp only [Bool.and_eq_true, beq_iff_eq, Bool.not_eq_true'] at q
      obtain ⟨⟨⟨⟨⟨rfl, rfl⟩, hdel⟩, ht⟩, hok⟩, hni⟩ := q
      obtain ⟨nm, bs, mro, ns, qn, hd, sn, sub, ab, col, del⟩ := cd
      dsimp only at hm hdel hok hni
      subst hm hdel
      have hsl : sl = #[k0, k1, k2, k3, some (.builtin "ValueError.__new__"), k5] := by
        obtain ⟨l⟩ := sl
        simp only at hs
        rw [hs]
      subst hsl
      exact ⟨bm, ns, nm, qn, bs, hd, sn, sub, ab, col, dd, k0, k1, k2, k3, k5, _, X _ _ ho, .of_isNs (PySem.W.isNs_of_in X hok), PySem.W.nsMap_none_of_in X hok hni, PySem.W.tail_of_in X ht, fun D => by unfold subIn; rw [ho]⟩
    · cases q
  · cases q

section
variable {X : Cx} {x : Str} {np cpos pos : Pos} {e : Expr} {E : XK} {C : Addr} {te : TE}
/-- raise C(e) -/
noncomputable def tRaise (C : Addr) (E : XK) (te : TE) : TS := fun _ σ H => te σ H fun _ H1 => E (.ref C) none H1
theorem ps_raise (hx : Throws X E) (hc : X.calm = true) (hg : Gl X x) (hm : X.mg x = some (.ref C)) (hC : ExCls X.K C) (he : PE X e te) (hdb : (x == ("__debug__" : Str)) = false := by decide)
    (hst : starEach [e] X.env = [(false, eval e X.env)] := by rfl) : PS X (.Raise (some (.Call (.Name x np) [e] [] cpos)) none pos) (tRaise C E te) := by
  intro pins s σ H D I h
  obtain ⟨tl, N, nm, q, bs, hdct, sn, sub, ab, col, dd, k0, k1, k2, k3, k5, mN, hC0, hN, hni, T, _⟩ := hC.obj I.ok.mod.kin
  refine wpAny_Raise_call_subT (C := C) (nm := nm) (q := q) (N := N) (bs := bs) (bm := tl) (hdct := hdct) (sn := sn) (sub := sub) (ab := ab) (col := col) (dd := dd) (k0 := k0) (k1 := k1) (k2 := k2) (k3 := k3) (k5 := k5)
    PySem.F.excBase_ValueError (mN := mN) (T.hasType PySem.F.excBase_ValueError.hasBase) (I.ok.hd hc) (by rw [hst]; rfl) hni (ld_glob I hg hm ⟨rfl, ?_⟩ hdb)
  rw [hst]
  refine Calls.evalArgs_plain (Calls.spliced_cons (thn (he pins s σ H _ I h) fun v s1 ⟨x, H1, I1, r1, q1⟩ => ?_))
  exact Calls.spliced_nil ⟨rfl, (show 1 ≤ sizeLine by decide), I1.bk _ _ hC0, hN.keeps I1.bk, T.keeps I1.bk, fun h' ea hm => hx pins σ H1 s1 ea C _ h' I1 hm q1⟩
end
end L2

/-! EXCEPTIONS: try .. except C as n -/
namespace PySem
open Sem (wp)
section
variable {M : Model} {A : Around} {E : Value → Shared → Prop}
variable {nm q : Str} {C N : Addr} {bs bm : List Value} {hdct : Bool} {sn : List Str} {sub : List Value} {ab : Bool} {col : Option Bool} {dd : Option Addr} {k0 k1 k2 k3 k5 : Option Value} {newId : String}
variable {nm' q' : Str} {D N' : Addr} {bs' bm' : List Value} {hdct' : Bool} {sn' : List Str} {sub' : List Value} {ab' : Bool} {col' : Option Bool} {dd' : Option Addr} {k0' k1' k2' k3' k5' : Option Value} {newId' : String}
theorem wpAny_excMatches_sub_own {h : Heap} {g : Array GenState} {d : Drawn} {t : Nat} {os : OsState} {e : Addr} {oe : Obj} {Q : Bool → Shared → Prop}
    (hC : h.get? C = some (excClassObj nm q C N bs bm hdct sn sub ab col dd k0 k1 k2 k3 k5 newId)) (hD : h.get? D = some (excClassObj nm' q' D N' bs' bm' hdct' sn' sub' ab' col' dd' k0' k1' k2' k3' k5' newId'))
    (he : h.get? e = some oe) (hcls : oe.cls = .ref C) (hbase : bm'.contains (.type "BaseException") = true) (hs : (Value.ref C :: bm).contains (.ref D) = true)
    (hq : Q true ⟨h, g, d, t, os⟩) : wpAny M A (excMatches (.ref e) (.ref D)) Q E ⟨h, g, d, t, os⟩ := by
  have hcB : (Value.ref D :: bm').contains (.type "BaseException") = true := by rw [List.contains_cons, hbase, Bool.or_true]
  have f := tc_notTuple
  unfold excMatches
  repeat (first | (with_reducible refine wpAny_loadPart_at he ?_; rw [hcls]) | with_reducible refine wpAny_loadPart_at hD ?_ | (with_reducible refine wpAny_isSubtype_exc hD ?_; rw [hcB]) | (with_reducible refine wpAny_isSubtype_exc hC ?_; rw [hs]) | wp_step)
  exact hq
end
end PySem
namespace L2
open PySem PySem.Spec PyProof.Rows
section
variable {P : Program} {w : World} {H H' : Hp} {h h' h'' B : Heap} {a : Addr} {o : HO} {fs : List Addr}
theorem ObjOk.get (x : ObjOk P w H h a o) : ∃ u, h.get? a = some u := by
  cases o with
  | lst xs => obtain ⟨_, _, _, _, e⟩ := x; exact ⟨_, e⟩
  | tup xs => obtain ⟨_, _, _, ob, e, _⟩ := x; exact ⟨_, e⟩
  | dK kvs => obtain ⟨_, _, _, _, o, _, _, e, _⟩ := x; exact ⟨_, e⟩
  | dT kvs => obtain ⟨_, _, _, _, o, _, _, e, _⟩ := x; exact ⟨_, e⟩
  | set S n => obtain ⟨o, _, _, _, e, _⟩ := x; exact ⟨_, e⟩
  | ins C dx fs => obtain ⟨_, _, _, e, _⟩ := x; exact ⟨_, e⟩
  | own y => exact x
  | xd fs => obtain ⟨_, ⟨_, _, _, e, _⟩, _⟩ := x; exact ⟨_, e⟩
  | rng lo hi => obtain ⟨_, _, _, e⟩ := x; exact ⟨_, e⟩
  | frz ob u => obtain ⟨e, _⟩ := x; exact ⟨_, e⟩
  | tbl ps => exact ⟨_, x⟩
  | met f y => exact ⟨_, x⟩
  | ext φ => exact x.2.1
theorem HOk.none (ok : HOk P w H h) (e : h.get? a = none) : H a = none := by
  cases q : H a with
  | none => rfl
  | some o =>
    obtain ⟨u, z⟩ := (ok a o q).get
    rw [e] at z
    cases z
theorem UnB.up (u : UnB fs H H' h B h') (hu : h'.UpToSlots h'') (hr : ∀ b ∈ fs, ∀ o, h.get? b = some o → ∀ vs, o.data ≠ .fields vs) : UnB fs H H' h B h'' :=
  ⟨u.keep, fun b o q n hb => by
    obtain ⟨sl, e⟩ := u.slot b o q n hb
    exact let ⟨sl2, e2⟩ := hu b _ e (hr b hb o q); ⟨sl2, e2⟩, u.free, u.there, u.tups, u.frzs, u.tbls⟩
end

/-- an exception at ea, of the class at C -/
noncomputable def ExO (ea C : Addr) : HO := .ext fun h => ∃ o, h.get? ea = some o ∧ o.cls = .ref C

section
variable {X : Cx} {pins : List (Addr × Obj)} {σ : St} {H : Hp} {s : Shared}
noncomputable abbrev Cx.tr (X : Cx) (pn : List (Addr × Obj)) (E : Value → Shared → Prop) : Cx := { X with pn := pn, xe := E }
/-- within an except suite -/
noncomputable abbrev Cx.ct (X : Cx) (ea : Addr) : Cx := { X with A := X.A.mark (some (.ref ea)), calm := false, xe := fun _ _ => False }
theorem Cx.Ok.tr (ok : X.Ok) (pn : List (Addr × Obj)) (E : Value → Shared → Prop) : (X.tr pn E).Ok :=
  ⟨ok.mod, ok.kind, ok.glob, ok.blt, ok.above, ok.inj, ok.has, ok.cab, ok.hd, ok.frames, ok.stk, ok.exf, ok.bs, ok.bsz, ok.noex, ok.exfs, ok.funs, ok.frf⟩
theorem Cx.Ok.untr {pn : List (Addr × Obj)} {E : Value → Shared → Prop} (ok : (X.tr pn E).Ok) : X.Ok :=
  ⟨ok.mod, ok.kind, ok.glob, ok.blt, ok.above, ok.inj, ok.has, ok.cab, ok.hd, ok.frames, ok.stk, ok.exf, ok.bs, ok.bsz, ok.noex, ok.exfs, ok.funs, ok.frf⟩
theorem Cx.Ok.ct (ok : X.Ok) (ea : Addr) : (X.ct ea).Ok :=
  ⟨ok.mod, ok.kind, ok.glob, ok.blt, ok.above, ok.inj, ok.has, ok.cab, (fun z => nomatch z), ok.frames, ok.stk, ok.exf, ok.bs, ok.bsz, ok.noex, ok.exfs, ok.funs, ok.frf⟩
theorem Inv.tr (I : Inv X pins σ H s) (E : Value → Shared → Prop) : Inv (X.tr (X.pn ++ pins) E) [] σ H s :=
  ⟨I.ok.tr _ _, I.os, I.bare, I.base, I.loc, I.cell, I.free, I.freeC, fun p hp => I.pin p (by rw [List.append_nil] at hp; exact hp), I.hok, I.len⟩
theorem Inv.untr {E : Value → Shared → Prop} {pins' : List (Addr × Obj)} (I : Inv (X.tr (X.pn ++ pins) E) pins' σ H s) : Inv X pins σ H s :=
  ⟨I.ok.untr, I.os, I.bare, I.base, I.loc, I.cell, I.free, I.freeC, fun p hp => I.pin p (List.mem_append_left _ hp), I.hok, I.len⟩
theorem Inv.ct (I : Inv X pins σ H s) (ea : Addr) : Inv (X.ct ea) pins σ H s := ⟨I.ok.ct ea, I.os, I.bare, I.base, I.loc, I.cell, I.free, I.freeC, I.pin, I.hok, I.len⟩
theorem Inv.unct {ea : Addr} (ok : X.Ok) (I : Inv (X.ct ea) pins σ H s) : Inv X pins σ H s := ⟨ok, I.os, I.bare, I.base, I.loc, I.cell, I.free, I.freeC, I.pin, I.hok, I.len⟩
theorem Inv.track {ea : Addr} {o : HO} (I : Inv X pins σ H s) (hn : H ea = none) (h0 : X.s₀.heap.get? ea = none) (hL : ea ≠ X.env.locals) (hc : ∀ x c, X.env.cells.lookup x = some c → c ≠ ea) (hp : ∀ p ∈ X.pn ++ pins, p.1 ≠ ea)
    (new : ObjOk X.prog X.w (upd H ea o) s.heap ea o) : Inv X pins σ (upd H ea o) s := by
  refine ⟨I.ok, I.os, I.bare, ⟨I.base.keep, I.base.slot, fun b u q n hx => ?_, I.base.there, fun b xs q => ?_, fun b u x q => ?_, fun b ps q => ?_⟩, I.loc, I.cell, ?_, fun x c e => ?_, fun p q => ?_, fun a u q => ?_, I.len⟩
  · rw [upd_ne (fun z => by rw [z, h0] at q; cases q)]
    exact I.base.free b u q n hx
  · have e := I.base.tups b xs q
    rw [upd_ne (ne_of_none e hn)]
    exact e
  · have e := I.base.frzs b u x q
    rw [upd_ne (ne_of_none e hn)]
    exact e
  · obtain ⟨m, e⟩ := I.base.tbls b ps q
    exact ⟨m, by rw [upd_ne (ne_of_none e hn)]; exact e⟩
  · rw [upd_ne (Ne.symm hL)]
    exact I.free
  · rw [upd_ne (hc x c e)]
    exact I.freeC x c e
  · obtain ⟨e, n, ne, nf, d⟩ := I.pin p q
    exact ⟨e, by rw [upd_ne (hp p q)]; exact n, ne, nf, d⟩
  · by_cases z : a = ea
    · subst z
      rw [upd_same] at q
      cases q
      exact new
    · rw [upd_ne z] at q
      refine (I.hok a u q).stay (fun _ _ _ e => e) (fun b e => ?_) fun b xs e => ?_
      · rw [upd_ne (ne_of_none e hn)]
        exact e
      · rw [upd_ne (ne_of_none e hn)]
        exact e

/-- a name goes -/
theorem gone_ok {M : Model} {A : Around} {E : Value → Shared → Prop} {i : Nat} {x : Str} {pos : Pos} {Q : Unit → Shared → Prop} (I : Inv X pins σ H s) (hN : X.N.Nodup) (hi : X.N[i]? = some x) (hk : X.env.kindOf x = some .local)
    (h : ∀ s', Inv X pins (σ.set i none) H s' → Q () s') : wpAny M A (do bindName X.env x .none; unbindBehindTheSuite X.env x pos) Q E s := by
  obtain ⟨m, hn, hl⟩ := id I.loc
  have hcls : (X.env.scope.kind == .class || (X.env.scope.kind == .module && X.env.locals != X.env.globals)) = false := by rw [I.ok.kind]; rfl
  refine wpAny_nameGoes_keeps hk hn hcls fun h' v hn' hs => h _ ?_
  have cne := I.cne
  obtain ⟨oL, _, _, hoL, _⟩ := id hn
  have hiσ : i < σ.length := by rw [I.len]; exact (List.getElem?_eq_some_iff.mp hi).1
  refine ⟨I.ok, I.os, I.bare, ⟨fun b o e n hb hx => ?_, fun b o e n hb hx => ?_, I.base.free, fun b o e hx => ?_, I.base.tups, I.base.frzs, I.base.tbls⟩, ⟨_, hn', fun j y v' e1 e2 e3 => ?_⟩, fun y c e => ?_, I.free, I.freeC, fun p hp => ?_, fun b ob e => ?_, by simpa using I.len⟩
  · exact (hs.2 b (Nat.ne_of_lt (Nat.lt_of_lt_of_le (Heap.lt_size e) I.ok.above))).trans (I.base.keep b o e n hb hx)
  · obtain ⟨sl, e1⟩ := I.base.slot b o e n hb hx
    exact ⟨sl, (hs.2 b (Nat.ne_of_lt (Nat.lt_of_lt_of_le (Heap.lt_size e) I.ok.above))).trans e1⟩
  · obtain ⟨o', e1⟩ := I.base.there b o e hx
    exact ⟨o', (hs.2 b (Nat.ne_of_lt (Nat.lt_of_lt_of_le (Heap.lt_size e) I.ok.above))).trans e1⟩
  · by_cases hj : j = i
    · subst hj
      rw [List.getElem?_set_self hiσ] at e2
      cases e2
    · rw [List.getElem?_set_ne (Ne.symm hj)] at e2
      obtain ⟨u', r', q⟩ := hl j y v' e1 e2 e3
      refine ⟨u', r', ?_⟩
      rcases q with ⟨k, e⟩ | ⟨k, c, e, z⟩
      · refine .inl ⟨k, ?_⟩
        have : y ≠ x := fun e => hj (nodup_ix hN e1 (e ▸ hi))
        simp [this, e]
      · exact .inr ⟨k, c, e, z.sameBut hs (cne y c e)⟩
  · obtain ⟨w', z⟩ := I.cell y c e
    exact ⟨w', z.sameBut hs (cne y c e)⟩
  · obtain ⟨e, n, ne, nf, d⟩ := I.pin p hp
    exact ⟨(hs.2 p.1 ne).trans e, n, ne, nf, d⟩
  · refine (I.hok b ob e).stay (fun c w' hc q => (hs.2 c ?_).trans q) (fun _ q => q) fun _ _ q => q
    rintro rfl
    rcases hc with rfl | hc
    · have := I.free
      rw [e] at this
      cases this
    · have := I.free
      rw [hc] at this
      cases this
end

/-! ### a call within a try: the names are as they were at its start -/
noncomputable def Passes0 (CX : CXT) (X : Cx) (σ0 : St) (E : XK) : Prop := ∀ (pins : List (Addr × Obj)) (H : Hp) (s : Shared) (e : Value) (s' : Shared), Inv X pins σ0 H s → CX X.stack H s E e s' → X.xe e s'
section
variable {X : Cx} {CX : CXT} {k : Nat} {f C : Addr} {fd : FuncData} {ps : List Str} {sp : Sp} {dvs : List V} {ds : List Value} {E : XK} {x m : Str} {p pos apos : Pos} {e o : Expr} {es : List Expr} {ta : TE} {t : TA} {σ0 : St}
noncomputable def tCallT (sp : Sp) (dvs : List V) (E : XK) (σ0 : St) (t : TA) : TE := fun σ H Q => σ = σ0 ∧ tCall sp dvs E t σ H Q
theorem run_fnT {pins : List (Addr × Obj)} {H : Hp} {s : Shared} {Q : VK} {us : List Value} {vs : List V} (F : FnOk X.prog X.w X.K X.mg X.base CX k f fd ps sp) (hr : Room k X.A) (hb : Binds X.K fd ps ds) (hd : Vals dvs ds) (hx : Passes0 CX X σ0 E)
    (I : Inv X pins σ0 H s) (r : Vals vs us) (h : sp (vs ++ dvs) H Q E) : wpAny (model X.prog X.w) X.A (call (.ref f) us) (EP X pins σ0 Q) X.xe s := by
  have r2 : Vals (vs ++ dvs) (us ++ ds) := r.append hd
  have hl : (us ++ ds).length = ps.length := by rw [← r2.length]; exact F.len _ _ _ _ h
  refine wpAny_call (codeAny_mono (F.run X.A X.stack s H ⟨us, []⟩ (us ++ ds) (vs ++ dvs) Q E hr I.env0 (hb s us I.kIn hl) r2 h) fun r s' hq => ?_)
  cases r with
  | error e => exact hx pins H s e s' I hq
  | ok fl =>
    cases fl with
    | ret u => exact I.after hq
    | next => exact False.elim hq
    | brk => exact False.elim hq
    | cont => exact False.elim hq
theorem pe_callT (F : FnOk X.prog X.w X.K X.mg X.base CX k f fd ps sp) (hr : Room k X.A) (hg : Gl X x) (hm : X.mg x = some (.ref f)) (hk : PySem.W.keepIn X.K (.ref f) = true) (hb : Binds X.K fd ps ds) (hd : Vals dvs ds) (hx : Passes0 CX X σ0 E)
    (ha : PA X (e :: es) t) (hdb : (x == ("__debug__" : Str)) = false := by decide) (he : starEach (e :: es) X.env = (false, eval e X.env) :: starEach es X.env := by rfl) (hpl : (backTo pos (starEach es X.env)).any (·.1) = false := by rfl) :
    PE X (.Call (.Name x p) (e :: es) [] pos) (tCallT sp dvs E σ0 t) := by
  intro pins s σ H Q I ⟨z, h⟩
  subst z
  refine wpAny_Call_Name_kw (ld_glob I hg hm ?_ hdb)
  refine PySem.W.callWith_K (h₀ := X.base) I.ok.mod.kin hk (thn (ha pos pins s σ H _ I h) fun us s1 ⟨vs, H1, I1, r, q⟩ => ⟨I1.kIn, ?_⟩) he hpl
  exact run_fnT F hr hb hd hx I1 r q
end

/-! ### try -/
noncomputable def Ends.less (D : Ends) (i : Nat) : Ends := ⟨fun σ H => D.nx (σ.set i none) H, D.rt, fun σ H => D.bk (σ.set i none) H, fun σ H => D.ct (σ.set i none) H⟩
noncomputable def tTry (K : PySem.W.Frag) (D0 : Addr) (i : Nat) (tb : XK → St → TS) (th : TS) : TS := fun D σ H => ∃ E : XK, tb E σ D σ H ∧ ∀ cls H', E cls none H' → ∃ C, cls = .ref C ∧ ExCls K C ∧ subIn K C (.ref D0) = true ∧
  ∀ ea, H' ea = none → th (D.less i) (σ.set i (some (.ref ea))) (upd H' ea (ExO ea C))
section
variable {X : Cx} {x n : Str} {np hpos pos : Pos} {i : Nat} {D0 : Addr} {body suite : List Stmt} {b₀ : Stmt} {tb : XK → St → TS} {th : TS}
theorem ps_try (hf : X.stack = X.env :: X.outer) (hfr : X.env.frame = some X.env.locals) (hex : X.ex = []) (hb : ∀ (E : XK) (σ0 : St) (pn : List (Addr × Obj)) (xe : Value → Shared → Prop), Passes0 (CX1 X.prog X.w) (X.tr pn xe) σ0 E → PSs (X.tr pn xe) body (tb E σ0))
    (hs : ∀ ea, PSs (X.ct ea) (b₀ :: suite) th) (hg : Gl X x) (hm : X.mg x = some (.ref D0)) (hD : ExCls X.K D0) (hN : X.N.Nodup) (hi : X.N[i]? = some n) (hk : X.env.kindOf n = some .local) (hdb : (x == ("__debug__" : Str)) = false := by decide) :
    PS X (.Try body [.ExceptHandler (some (.Name x np)) (some n) (b₀ :: suite) hpos] [] [] pos) (tTry X.K D0 i tb th) := by
  rintro pins s σ H D I ⟨E, hbt, hh⟩
  refine wpAny_Try_except ?_
  refine wpAny_mono (hb E σ (X.pn ++ pins) (fun e s' => ∃ pins' H1 s1, Inv (X.tr (X.pn ++ pins) fun _ _ => False) pins' σ H1 s1 ∧ CX1 X.prog X.w X.stack H1 s1 E e s') (fun pins' H1 s1 e s' I1 c => ⟨pins', H1, s1, I1.wish _, c⟩) [] s σ H D (I.tr _) hbt) (fun f s1 q => ?_) fun e s1 q => ?_
  · cases f with
    | next =>
      obtain ⟨σ', H', I', q⟩ := q
      exact wpAny_execs_nil ⟨σ', H', I'.untr, q⟩
    | brk => obtain ⟨σ', H', I', q⟩ := q; exact ⟨σ', H', I'.untr, q⟩
    | cont => obtain ⟨σ', H', I', q⟩ := q; exact ⟨σ', H', I'.untr, q⟩
    | ret u => obtain ⟨v, σ', H', I', r, q⟩ := q; exact ⟨v, σ', H', I'.untr, r, q⟩
  · obtain ⟨pins', H1, s2, I1, ea, cls, a0, H', B, rfl, os, bare, u, hok, fl, q⟩ := q
    obtain ⟨C, rfl, hC, hsub, hth⟩ := hh cls H' q
    have I1 : Inv X pins σ H1 s2 := I1.untr
    have rcd : ∀ b ∈ frs X.stack, ∀ o, s2.heap.get? b = some o → ∀ vs, o.data ≠ .fields vs := fun b hb o e vs => by
      obtain ⟨_, o', e', d⟩ := I1.stack.mem hb
      rw [e] at e'
      cases e'
      exact d vs
    have hn : H' ea = none := hok.none fl.2.1
    -- the state behind the exception's way
    have st : ∀ h5, s1.heap.UpToSlots h5 → Heap.FlyingW B X.stack ea (.ref C) a0 h5 → Inv X pins σ H' { s1 with heap := h5 } := fun h5 up fl5 =>
      I1.call' (s' := { s1 with heap := h5 }) (ch := []) os ((u.up up rcd).un fl5.1 I1.stkFree) (hok.kept fl5.1) bare fun b z => nomatch z
    rw [hf] at fl
    refine wpAny_looks_onW (by rw [I1.ok.frames, hf]) hfr fl fun h4 held4 up4 => ?_
    refine wpAny_landsW held4 fun h5 fl5 up5 => ?_
    have I5 := st h5 (up4.trans up5) (by rw [hf]; exact fl5)
    obtain ⟨ob, hob, hobc⟩ := fl5.there
    obtain ⟨bm, N, nm, q', bs, hdct, sn, sub, ab, col, dd, k0, k1, k2, k3, k5, mN, hC0, _, _, _, hm0⟩ := hC.obj I5.kIn
    obtain ⟨bm', N', nm', q'', bs', hdct', sn', sub', ab', col', dd', k0', k1', k2', k3', k5', mN', hD0, _, _, T', _⟩ := hD.obj I5.kIn
    refine wpAny_handleBy_cons (codeAny_handlers_test (ld_glob (X := X.ct ea) (I5.ct ea) hg hm ?_ hdb)) (by intro q; cases q)
    refine wpAny_excMatches_sub_own hC0 hD0 hob hobc (T'.hasType rfl) (by rw [hm0]; exact hsub) (codeAny_handlers_suite_as ?_)
    refine lands_againW fl5 fun h6 fl6 up6 => ?_
    have I6 := st h6 ((up4.trans up5).trans up6) (by rw [hf]; exact fl6)
    obtain ⟨oe, ws, hoe, hoec, hoed, _⟩ := fl6.first
    have nfr : ea ∉ frs X.stack := fun z => by
      obtain ⟨_, o', e', d⟩ := I6.stack.mem z
      have e' : h6.get? ea = some o' := e'
      rw [hoe] at e'
      cases e'
      exact d ws hoed
    have h0 : X.s₀.heap.get? ea = none := by
      cases e : X.s₀.heap.get? ea with
      | none => rfl
      | some o =>
        obtain ⟨o', e1⟩ := I1.base.there ea o e (by rw [hex]; exact nnil)
        obtain ⟨o2, e2⟩ := u.there ea o' e1 nfr
        have := fl6.2.1
        rw [e2] at this
        cases this
    have J6 := (I6.track (o := ExO ea C) hn h0 (fun z => nfr (by rw [hf]; exact List.mem_filterMap.mpr ⟨_, List.mem_cons_self, by rw [hfr, z]⟩)) (fun y c e z => by
      obtain ⟨v, oc, hoc, hcd⟩ := I6.cell y c e
      have hoc : h6.get? c = some oc := hoc
      rw [z, hoe] at hoc
      cases hoc
      rw [hoed] at hcd
      cases hcd) (fun p hp z => by
      obtain ⟨e, n, ne, nf, d⟩ := I1.pin p hp
      have k := u.keep p.1 p.2 e n fun z => (List.mem_cons.mp (I1.stkSub _ z)).elim ne nf
      rw [z, fl6.2.1] at k
      cases k) ⟨⟨oe, hoe, hoec⟩, ⟨oe, hoe⟩, fun h1 h2 ⟨o, e, c⟩ k => ⟨o, k o e, c⟩⟩).ct ea
    refine store_ok (X := X.ct ea) J6 hN hi (.inl hk) (v := .ref ea) rfl (fun s7 J7 => ?_) (.inr hk)
    refine wpAny_mono (hs ea pins s7 _ _ _ J7 (hth ea hn)) (fun f s8 q8 => ?_) fun _ _ z => z.elim
    cases f with
    | next =>
      obtain ⟨σ', H'', I8, q8⟩ := q8
      exact gone_ok (I8.unct I1.ok) hN hi hk fun s9 I9 => ⟨_, _, I9, q8⟩
    | brk =>
      obtain ⟨σ', H'', I8, q8⟩ := q8
      exact gone_ok (I8.unct I1.ok) hN hi hk fun s9 I9 => ⟨_, _, I9, q8⟩
    | cont =>
      obtain ⟨σ', H'', I8, q8⟩ := q8
      exact gone_ok (I8.unct I1.ok) hN hi hk fun s9 I9 => ⟨_, _, I9, q8⟩
    | ret u =>
      obtain ⟨v, σ', H'', I8, r, q8⟩ := q8
      exact gone_ok (I8.unct I1.ok) hN hi hk fun s9 I9 => ⟨v, _, _, I9, r, q8⟩
end
end L2

/-! EXCEPTIONS: isinstance of one -/
namespace PySem
open Sem (wp)
section
variable {prog : Program} {w : World} {A : Around} {E : Value → Shared → Prop} {h : Heap} {g : Array GenState} {d : Drawn} {t : Nat} {os : OsState} {a : Addr} {o : Obj}
  {nm q : Str} {C N : Addr} {bs bm : List Value} {hdct : Bool} {sn : List Str} {sub : List Value} {ab : Bool} {col : Option Bool} {dd : Option Addr} {k0 k1 k2 k3 k5 : Option Value} {newId : String}
theorem class_get_exc {R : Result → Shared → Prop} (hC : h.get? C = some (excClassObj nm q C N bs bm hdct sn sub ab col dd k0 k1 k2 k3 k5 newId)) (hob : bm.contains (.type "object") = true)
    (hx : h.get? a = some o) (hc : o.cls = .ref C) (hq : R (.ok (.ret (.ref C))) ⟨h, g, d, t, os⟩) :
    codeAny (model prog w) A (.call (.builtin "getset_descriptor.__get__") ⟨[.builtin "object.__class__", .ref a, .ref C], []⟩) R ⟨h, g, d, t, os⟩ := by
  have hT5 : (⟨h, g, d, t, os⟩ : Shared).TypeIs (.builtin "object.__class__") "getset_descriptor" := F.typeOf_object_class
  have hcB : (Value.ref C :: bm).contains (.type (".".intercalate ("object.__class__".cutAt '.').dropLast)) = true := by
    rw [F.owner_object_class, List.contains_cons, hob]; rfl
  refine codeAny_call_builtin F.slot_gs_get.plain F.entry_gs_get (F.slot_gs_get.check _ _ _ _ _ _ _ _ hT5 (F.args_gs_get _ _ _) ?_)
  repeat (any_goals (first | assumption | (with_reducible refine wpAny_loadPart_at hx ?_; rw [hc]) | (with_reducible refine wpAny_isSubtype_exc hC ?_; rw [hcB]) | wp_step))
  refine ⟨Code.quiet_builtin _ (by decide +kernel), codeAny_builtin F.entry_object_class ?_⟩
  repeat (any_goals (first | assumption | (with_reducible refine wpAny_loadPart_at hx ?_; rw [hc]) | wp_step))
theorem class_entry_exc {tk : Tok} {Q : Fin → Shared → Prop} (hC : h.get? C = some (excClassObj nm q C N bs bm hdct sn sub ab col dd k0 k1 k2 k3 k5 newId)) (hob : bm.contains (.type "object") = true)
    (L : PySem.W.Looks (model prog w) h (typeLookup (.ref C) "__class__") (some (.builtin "object.__class__")))
    (hx : h.get? a = some o) (hc : o.cls = .ref C) (hq : Q (.done (.ret (.ref C))) ⟨h, g, d, t, os⟩) :
    wpAny (model prog w) A (Builtin.«object.__getattribute__» ⟨[.ref a, .str "__class__" tk], []⟩) Q E ⟨h, g, d, t, os⟩ := by
  have hT5 : (⟨h, g, d, t, os⟩ : Shared).TypeIs (.builtin "object.__class__") "getset_descriptor" := F.typeOf_object_class
  have f5 := F.typeOf_object_class
  have f6 := F.slot_gs_get.lookup
  have f7 := F.slot_gs_set.lookup
  repeat (any_goals (first | assumption | (with_reducible refine wpAny_loadPart_at hx ?_; rw [hc]) | with_reducible refine L.at ?_ | wp_step))
  refine class_get_exc hC hob hx hc ?_
  repeat (any_goals (first | assumption | wp_step))
theorem check_ga_exc {M : Model} {nameV : Value} {Q : Unit → Shared → Prop} (hC : h.get? C = some (excClassObj nm q C N bs bm hdct sn sub ab col dd k0 k1 k2 k3 k5 newId)) (hbe : bm.contains (.type "BaseException") = true)
    (hx : h.get? a = some o) (hc : o.cls = .ref C) (hq : Q () ⟨h, g, d, t, os⟩) : wpAny M A (checkBuiltinCall "BaseException.__getattribute__" ⟨[.ref a, nameV], []⟩) Q E ⟨h, g, d, t, os⟩ := by
  have hk : builtinKind "BaseException.__getattribute__" = some .slot := by decide +kernel
  have hsplit : splitId "BaseException.__getattribute__" = some ("BaseException", "__getattribute__") := by decide +kernel
  have hcB : (Value.ref C :: bm).contains (.type "BaseException") = true := by rw [List.contains_cons, hbe]; rfl
  have ha := F.args_bexc_ga (.ref a) nameV
  simp only [checkBuiltinCall, hk, hsplit]
  refine wpAny_bind ?_
  · unfold isInstance
    repeat (first | (with_reducible refine wpAny_loadPart_at hx ?_; rw [hc]) | (with_reducible refine wpAny_isSubtype_exc hC ?_; rw [hcB]) | wp_step)
    exact hq
theorem class_by_exc {tk : Tok} {Q : Value → Shared → Prop} (hC : h.get? C = some (excClassObj nm q C N bs bm hdct sn sub ab col dd k0 k1 k2 k3 k5 newId)) (hob : bm.contains (.type "object") = true) (hbe : bm.contains (.type "BaseException") = true)
    (L : PySem.W.Looks (model prog w) h (typeLookup (.ref C) "__class__") (some (.builtin "object.__class__"))) (L1 : PySem.W.Looks (model prog w) h (typeLookup (.ref C) "__getattribute__") (some (.builtin "BaseException.__getattribute__")))
    (L2 : PySem.W.Looks (model prog w) h (typeLookup (.ref C) "__getattr__") none)
    (hx : h.get? a = some o) (hc : o.cls = .ref C) (hq : Q (.ref C) ⟨h, g, d, t, os⟩) : wpAny (model prog w) A (getAttrBy (.ref a) (.str "__class__" tk) false) Q E ⟨h, g, d, t, os⟩ := by
  have f3 := F.attrBase_ValueError.ga.bind (.ref a)
  have hx2 : (Value.builtin "BaseException.__getattribute__" == Value.builtin "object.__getattribute__") = false := by decide +kernel
  have hx1 : (onTheHeap (Value.ref C) && Value.builtin "BaseException.__getattribute__" == Value.builtin "object.__getattribute__") = false := by rw [hx2]; rfl
  repeat (any_goals (first | assumption | (with_reducible refine wpAny_loadPart_at hx ?_; rw [hc]) | with_reducible refine L1.at ?_ | with_reducible refine L2.at ?_ | wp_step))
  refine codeAny_call_builtin F.attrBase_ValueError.ga.plain F.entry_bexc_ga (check_ga_exc hC hbe hx hc (class_entry_exc hC hob L hx hc ?_))
  repeat (any_goals (first | assumption | wp_step))
theorem class_attr_exc {Q : Option Value → Shared → Prop} (hC : h.get? C = some (excClassObj nm q C N bs bm hdct sn sub ab col dd k0 k1 k2 k3 k5 newId)) (hob : bm.contains (.type "object") = true) (hbe : bm.contains (.type "BaseException") = true)
    (L : PySem.W.Looks (model prog w) h (typeLookup (.ref C) "__class__") (some (.builtin "object.__class__"))) (L1 : PySem.W.Looks (model prog w) h (typeLookup (.ref C) "__getattribute__") (some (.builtin "BaseException.__getattribute__")))
    (L2 : PySem.W.Looks (model prog w) h (typeLookup (.ref C) "__getattr__") none)
    (hx : h.get? a = some o) (hc : o.cls = .ref C) (hq : Q (some (.ref C)) ⟨h, g, d, t + 1, os⟩) : wpAny (model prog w) A (getAttr? (.ref a) "__class__") Q E ⟨h, g, d, t, os⟩ := by
  unfold getAttr? getAttrBy?
  repeat (any_goals (first | assumption | with_reducible apply class_by_exc hC hob hbe L L1 L2 hx hc | wp_step))
end
end PySem
namespace L2
open PySem PySem.Spec PyProof.Rows
theorem kitx_exc {K : PySem.W.Frag} {ea C : Addr} (c : ExCls K C) : PySem.W.KitX K (.ref ea) (.ref C) (fun h => ∃ o, h.get? ea = some o ∧ o.cls = .ref C) where
  ty := fun M h _ ⟨o, h1, h2⟩ => h2 ▸ (PySem.W.Looks.ld h1).andThen .now
  it := fun M h X _ => by
    obtain ⟨bm, N, nm, q', bs, hdct, sn, sub, ab, col, dd, k0, k1, k2, k3, k5, mN, hC0, _⟩ := c.obj X
    intro A' Q' E' s' k q
    unfold isType loadHead
    exact wpAny_bind (wpAny_loadPart (k _ _ hC0) (wpAny_pure q))
  ne := fun h tp dd its n sl X htp => by
    obtain ⟨bm, N, nm, q', bs, hdct, sn, sub, ab, col, dd, k0, k1, k2, k3, k5, mN, hC0, _⟩ := c.obj X
    refine Bool.eq_false_iff.mpr fun q => ?_
    have e : C = tp := Value.ref.inj (beq_iff_eq.mp q)
    subst e
    have z := hC0.symm.trans htp
    have e2 : Value.type "type" = Value.type "tuple" := congrArg Obj.cls (Option.some.inj z)
    injection e2 with e3
    exact absurd e3 (by decide)
  ca := fun {prog w A E Q s} X ⟨o, h1, h2⟩ k => by
    obtain ⟨h, g, d, t, os⟩ := s
    obtain ⟨bm, N, nm, q', bs, hdct, sn, sub, ab, col, dd, k0, k1, k2, k3, k5, mN, hC0, _, _, T, _⟩ := c.obj X
    exact class_attr_exc hC0 (T.hasType rfl) (T.hasType rfl) (PySem.W.looks_findIn X c.fcl) (PySem.W.looks_findIn X c.fga) (PySem.W.looks_findIn X c.fgx) h1 h2 k
section
variable {X : Cx}
noncomputable def rIsE (K : PySem.W.Frag) : List V → Hp → VK → Prop := fun xs H Q => ∃ ea C b, H ea = some (ExO ea C) ∧ ExCls K C ∧ ((∃ D, xs = [.ref ea, .ref D] ∧ PySem.W.kitOne K (.ref C) (.ref D) = some b) ∨
  (∃ T, xs = [.ref ea, .ty T] ∧ PySem.W.kitOne K (.ref C) (.type T) = some b) ∨ ∃ (tp : Addr) (Ds : List Addr), xs = [.ref ea, .ref tp] ∧ H tp = some (.tup (Ds.map V.ref)) ∧ PySem.W.kitAny K (.ref C) (Ds.map Value.ref) = some b) ∧ Q (.bl b) H
theorem vals_refs : ∀ {Ds : List Addr} {us : List Value}, Vals (Ds.map V.ref) us → us = Ds.map Value.ref
  | [], _, .nil => rfl
  | D :: r, _, .cons (b := u) (l₂ := l) h t => by
    have e : u = Value.ref D := h
    rw [List.map_cons, e, vals_refs t]
theorem call_isiE : CallR X (.builtin "isinstance") (rIsE X.K) := by
  intro pins s σ H xs us Q I r h
  obtain ⟨ea, C, b, hE, c, h, q⟩ := h
  have p : ∃ o, s.heap.get? ea = some o ∧ o.cls = .ref C := (show ObjOk X.prog X.w H s.heap ea (ExO ea C) from I.hok ea _ hE).1
  rcases h with ⟨D, rfl, e⟩ | ⟨T, rfl, e⟩ | ⟨tp, Ds, rfl, ht, e⟩
  · obtain ⟨u, w', rfl, r1, r2⟩ := vals2 r
    obtain rfl : u = Value.ref ea := r1
    obtain rfl : w' = Value.ref D := r2
    exact PySem.W.kia_one (kitx_exc c) I.kIn p e (fun z => nomatch z) fun tk => ⟨.bl b, H, I.tok tk, rfl, q⟩
  · obtain ⟨u, w', rfl, r1, r2⟩ := vals2 r
    obtain rfl : u = Value.ref ea := r1
    obtain rfl : w' = Value.type T := r2
    exact PySem.W.kia_one (kitx_exc c) I.kIn p e (fun z => nomatch z) fun tk => ⟨.bl b, H, I.tok tk, rfl, q⟩
  · obtain ⟨u, w', rfl, r1, r2⟩ := vals2 r
    obtain rfl : u = Value.ref ea := r1
    obtain rfl : w' = Value.ref tp := r2
    obtain ⟨_, its, rv, o, h1, h2, n, h3⟩ := (show ObjOk X.prog X.w H s.heap tp (.tup (Ds.map V.ref)) from I.hok tp _ ht)
    obtain rfl := vals_refs rv
    obtain ⟨oc, od, dt, sl⟩ := o
    dsimp only at h2 h3
    subst h2 h3
    exact PySem.W.kia_tup (kitx_exc c) I.kIn p h1 e (fun z => nomatch z) fun tk => ⟨.bl b, H, I.tok tk, rfl, q⟩
end
end L2

/-! EXCEPTIONS: defs by name -/
namespace SC
open PySem PySem.Spec PyProof.Rows L2
structure Has1 (P : Program) (w : World) (K : PySem.W.Frag) (mg : Str → Option Value) (base : Heap) (k : Nat) (x : Str) (ps : List Str) (sp : Sp) : Prop where
  ex : ∃ f fd, FnOk P w K mg base (CX1 P w) k f fd ps sp ∧ Binds K fd ps [] ∧ mg x = some (.ref f) ∧ PySem.W.keepIn K (.ref f) = true
section
variable {P : Program} {w : World} {K : PySem.W.Frag} {mg : Str → Option Value} {base : Heap}
theorem Def.has1 {x : Str} {st : Stmt} {N ps : List Str} {k : Nat} {sp : Sp} (D : Def K mg x st ps) (S : FnScope N ps (defScope st)) (len : ∀ vs H Q E, sp vs H Q E → vs.length = ps.length)
    (hbody : ∀ (f : Addr) (cdv : Value) (A : Around) (outer : List Env) (s : Shared) (H : Hp) (vs : List V) (Q : VK) (E : XK), Room k (A.deeper (envOfC x (defScope st) s.heap.objs.size f cdv)) → sp vs H Q E →
      ∃ t, PSs (cxOf (CX1 P w) P w K mg base N x (defScope st) f cdv A outer s H E) (defBody st) t ∧ t { nx := fun _ H' => Q .non H', rt := Q } (start N vs) H) : Has1 P w K mg base (k + 1) x ps sp := by
  obtain ⟨f, fd, F, b, m⟩ := D.ex
  exact ⟨f, fd, F.ok1 S len (hbody f), b, m, F.kp⟩
theorem Has.up {k : Nat} {x : Str} {ps : List Str} {sp : Sp} (h : Has P w K mg base k x ps sp) : Has1 P w K mg base k x ps sp := by
  obtain ⟨f, fd, F, r⟩ := h.ex
  exact ⟨f, fd, F.lift, r⟩
end
section
variable {X : Cx} {pos p : Pos} {x : Str} {E : XK} {σ0 : L2.St}
theorem pe_hasT {k k' : Nat} {ps : List Str} {sp : Sp} {e : Expr} {es : List Expr} {t : TA} (h : Has1 X.prog X.w X.K X.mg X.base k' x ps sp) (hr : Room k X.A) (hx : Passes0 (CX1 X.prog X.w) X σ0 E) (hg : Gl X x) (ha : PA X (e :: es) t) (hk : k' ≤ k := by decide)
    (hdb : (x == ("__debug__" : Str)) = false := by decide) (he : starEach (e :: es) X.env = (false, eval e X.env) :: starEach es X.env := by rfl) (hpl : (backTo pos (starEach es X.env)).any (·.1) = false := by rfl) :
    PE X (.Call (.Name x p) (e :: es) [] pos) (tCallT sp [] E σ0 t) := by
  obtain ⟨f, fd, F, b, m, kp⟩ := h.ex
  exact pe_callT F (hr.mono hk) hg m kp b .nil hx ha hdb he hpl
/-- a class of the program, as a value -/
theorem pe_cls {C : Addr} (hg : Gl X x) (h : X.mg x = some (.ref C)) (hd : (x == ("__debug__" : Str)) = false := by decide) : PE X (.Name x pos) (tC (.ref C)) := pe_glob hg h rfl hd
end
end SC

/-! the texts of refusals: f"..{n}..", f"..{x}" -/
namespace L2
open PySem PySem.Spec PyProof.Rows
section
variable {X : Cx}
theorem empty_cat {z : Str} : Str.empty ++ z = z := by
  cases z with
  | mk c => show Str.mk (#[] ++ c) = Str.mk c; rw [Array.empty_append]
theorem join_const {z : Str} {j : Nat} {p1 : Pos} {rest : List (Sem Value)} {pins : List (Addr × Obj)} {s : Shared} {σ : St} {H : Hp} {acc : Str} {Q : Str → Shared → Prop} (I : Inv X pins σ H s) (hz : (acc ++ z).length ≤ sizeLine)
    (k : ∀ s1, Inv X pins σ H s1 → Joins (model X.prog X.w) X.A X.xe rest (acc ++ z) Q s1) : Joins (model X.prog X.w) X.A X.xe (eval (.Constant (.str z) j p1) X.env :: rest) acc Q s := by
  show wpAny _ _ (eval (.Constant (.str z) j p1) X.env) _ _ s
  refine thn (pe_str (X := X) pins s σ H (fun v H' => v = .str z ∧ H' = H) I ⟨rfl, rfl⟩) fun v s1 ⟨x, H1, I1, r1, e1, e2⟩ => ?_
  subst e1 e2
  obtain ⟨t1, rfl⟩ := r1
  exact ⟨z, t1, rfl, hz, k s1 I1⟩
end
end L2

/-! EXCEPTIONS: which class is which -/
namespace L2
open PySem PySem.Spec PyProof.Rows
section
variable {K : PySem.W.Frag} {C D : Addr} {t : Value} {b : Bool}
theorem subIn_of {v : Value} (h : PySem.W.mroIn K C v = some true) : subIn K C v = true := by
  unfold PySem.W.mroIn PySem.W.clsIn at h
  unfold subIn
  obtain ⟨cd, a, b⟩ := Option.bind_eq_some_iff.mp h
  split at a
  · rename_i ho
    cases a
    rw [ho]
    split at b
    · cases b
    · exact Option.some.inj b
  · cases a
theorem kit_self : PySem.W.kitOne K t t = some true := by
  unfold PySem.W.kitOne
  rw [if_pos (beq_iff_eq.mpr rfl)]
theorem kit_of (c : ExCls K D) (h : PySem.W.mroIn K C (.ref D) = some b) (ne : (C == D) = false) : PySem.W.kitOne K (.ref C) (.ref D) = some b := by
  have q := c.q
  unfold PySem.W.excIn at q
  split at q
  · rename_i ho
    unfold PySem.W.kitOne
    rw [if_neg (fun z => by
      have e : C = D := Value.ref.inj (beq_iff_eq.mp z)
      subst e
      rw [beq_iff_eq.mpr rfl] at ne
      cases ne)]
    show (if ((PySem.W.clsIn K D).isSome && PySem.W.typeIn K (.ref D) == some (.type "type")) = true then PySem.W.subIn K (.ref C) (.ref D) else none) = some b
    rw [if_pos]
    · exact h
    · refine Bool.and_eq_true_iff.mpr ⟨?_, beq_iff_eq.mpr ?_⟩
      · unfold PySem.W.clsIn
        rw [ho]
        rfl
      · show Option.map (fun x => x.cls) (List.lookup D K) = _
        rw [ho]
        rfl
  · cases q
theorem kit_ty {T : String} (m : PySem.W.kitMeta T = true) (h : PySem.W.mroIn K C (.type T) = some b) : PySem.W.kitOne K (.ref C) (.type T) = some b := by
  unfold PySem.W.kitOne
  rw [if_neg (fun z => by have := beq_iff_eq.mp z; cases this)]
  show (if PySem.W.kitMeta T = true then PySem.W.subIn K (.ref C) (.type T) else none) = some b
  rw [if_pos m]
  exact h
theorem kit_none : ∀ {cs : List Value}, (∀ c ∈ cs, PySem.W.kitOne K t c = some false) → PySem.W.kitAny K t cs = some false
  | [], _ => rfl
  | c :: r, h => by
    unfold PySem.W.kitAny
    rw [h c (.head _)]
    exact kit_none fun d hd => h d (.tail _ hd)
theorem meta_VE : PySem.W.kitMeta "ValueError" = true := by decide +kernel
end
end L2
namespace L2
open PySem PySem.Spec PyProof.Rows
section
variable {X : Cx} {xs es : List Expr} {te : TE} {t : TA} {p : Pos} {e : Expr}
theorem pa_con {c : Const} {j : Nat} (ha : PE X (.Constant c j p) te) (hr : PA X es t) : PA X (.Constant c j p :: es) (tCons te t) := pa_cons ha hr rfl
end
end L2
namespace SC
open PySem
theorem bt_ValueError : bootBuiltins "ValueError" = some (.type "ValueError") := by decide +kernel
end SC

/-! EXCEPTIONS out of a comprehension's block -/
namespace L2
open PySem PySem.Spec PyProof.Rows
/-- a frame is noted by its number alone -/
theorem note_same {e : Value} {env env' : Env} (h : env'.frame = env.frame) : noteFrame e env' = noteFrame e env := by
  unfold noteFrame PySem.frameOf
  rw [h]
section
variable {M : Model} {A : Around} {Er : Value → Shared → Prop} {s : Shared} {B h h' : Heap} {l outer : List Env} {e L C : Addr} {cls a0 : Value} {env : Env}
theorem ff_but (hC : B.get? C ≠ none) (hs : Heap.SameBut C h h') (x : h.FunFrames B l) : h'.FunFrames B l := by
  induction l with
  | nil => trivial
  | cons v r ih =>
    obtain ⟨k, ⟨Lv, o, f, n, g, d⟩, t⟩ := x
    exact ⟨k, ⟨Lv, o, f, n, (hs.2 Lv fun z => hC (z ▸ n)).trans g, d⟩, ih t⟩
/-- what is held stays held where one object of the base is another now, over the base without it -/
theorem held_but (hC : B.get? C ≠ none) (hs : Heap.SameBut C h h') (x : Heap.HeldW B l e cls a0 L h) : Heap.HeldW (PySem.W.hideAll B [C]) l e cls a0 L h' := by
  obtain ⟨f1, f2, f3, oe, vs, T, oT, ts, a1, a2, a3, a4, a5, a6, a7, a8⟩ := x
  have keep : ∀ b, b ≠ C → h'.get? b = h.get? b := hs.2
  have y : Heap.HeldW B l e cls a0 L h → True := fun _ => trivial
  have st : (PySem.W.hideAll B [C]).StaysIn B := fun b o q => PySem.W.of_hideAll _ q
  refine ⟨fun b o q => ?_, PySem.W.fresh_of_stays st f2, PySem.W.funFrames_base st (ff_but hC hs f3), oe, vs, T, oT, ts, (keep e fun z => hC (z ▸ f2)).trans a1, a2, a3, a4, PySem.W.fresh_of_stays st a5, a6, (keep T fun z => hC (z ▸ a5)).trans a7, a8⟩
  by_cases z : b = C
  · subst z
    rw [PySem.W.hideAll_none [b] (.head _)] at q
    cases q
  · exact (keep b z).trans (f1 b o (st b o q))
theorem flight_held {Q : Unit → Shared → Prop} (hh : Heap.HeldW B l e cls a0 L s.heap) (hQ : ∀ h', Heap.HeldW B l e cls a0 L h' → s.heap.UpToSlots h' → Q () { s with heap := h' }) : wpAny M A (setFlight (.ref e) (some L)) Q Er s := by
  obtain ⟨f1, f2, f3, oe, vs, T, oT, ts, a1, a2, a3, a4, a5, a6, a7, a8, a9⟩ := hh
  have n3 : 3 < ts.size := (Array.getElem?_eq_some_iff.mp a9).1
  have oth : ∀ b, b ≠ T → (s.heap.update T (Obj.mapFields (·.setIfInBounds 3 (rawInt L)))).get? b = s.heap.get? b := fun b hb => Heap.get?_update_other _ _ (Ne.symm hb)
  have nrec : ∀ b o, s.heap.get? b = some o → (∀ vs, o.data ≠ .fields vs) → b ≠ T := fun b o hb hn z => by
    subst z
    rw [a7] at hb
    cases hb
    exact hn ts a8
  unfold setFlight
  refine wpAny_bind (wpAny_field a1 a3 a4 ?_)
  rw [if_pos (by simp)]
  refine wpAny_setField a7 a8 n3 (hQ _ ⟨fun b o q => ?_, f2, ?_, oe, vs, T, _, _, (oth e (Ne.symm a6)).trans a1, a2, a3, a4, a5, a6, Heap.get?_update_self _ a7 (Obj.isFreed_of_fields (Obj.data_mapFields a8 _)), Obj.data_mapFields a8 _, ?_⟩ fun b o q hn => ⟨o.slots, (oth b (nrec b o q hn)).trans q⟩)
  · refine (oth b fun z => ?_).trans (f1 b o q)
    subst z
    rw [a5] at q
    cases q
  · exact f3.of_keeps fun b o q hn => ⟨o, (oth b (nrec b o q hn)).trans q, rfl⟩
  · simp [n3]
/-- on through a frame that has been noted -/
theorem pass_held {α : Type} {what : String} {Q : α → Shared → Prop} (hf : env.frame = some L) (hh : Heap.HeldW B l e cls a0 L s.heap) (hE : ∀ h', Heap.HeldW B l e cls a0 L h' → s.heap.UpToSlots h' → Er (.ref e) { s with heap := h' }) :
    wpAny M A (PySem.passOn what (.ref e) env : Sem α) Q Er s := by
  have hk := hh
  obtain ⟨_, _, _, oe, vs, T, oT, ts, a1, a2, a3, a4, _⟩ := hh
  unfold PySem.passOn
  refine wpAny_bind (wpAny_field a1 a3 a4 ?_)
  rw [if_neg (by simp), hf]
  first
    | exact wpAny_bind (wpAny_bind (wpAny_pure (flight_held hk fun h' hh' up => wpAny_throw (hE h' hh' up))))
    | exact wpAny_bind (wpAny_pure (wpAny_bind (flight_held hk fun h' hh' up => wpAny_throw (hE h' hh' up))))
    | exact wpAny_bind (flight_held hk fun h' hh' up => wpAny_throw (hE h' hh' up))
theorem leaves_held {Q : Unit → Shared → Prop} (hf : env.frame = some L) (hh : Heap.HeldW B (env :: outer) e cls a0 L s.heap) (hQ : ∀ h', Heap.FlyingW B outer e cls a0 h' → s.heap.UpToSlots h' → Q () { s with heap := h' }) : wpAny M A (leaving env (.ref e)) Q Er s := by
  unfold leaving
  refine wpAny_bind (wpAny_noteFrame_againW hf hh.2.2.2 ?_)
  exact wpAny_landsW hh fun h' fl up => hQ h' ⟨fl.1, fl.2.1, fl.2.2.1.2.2, fl.2.2.2⟩ up
end
section
variable {fs : List Addr} {H0 H H' : Hp} {h0 h B h' h'' : Heap} {L C : Addr}
theorem UnB.backC (a : Un fs [] H0 H h0 h) (u : UnB (L :: fs) H H' h B h') (hL : h0.objs.size ≤ L) (hC : h0.objs.size ≤ C) (hu : ∀ b o, b ≠ C → h'.get? b = some o → (∀ vs, o.data ≠ .fields vs) → ∃ sl, h''.get? b = some { o with slots := sl })
    (hr : ∀ b ∈ fs, ∀ o, h0.get? b = some o → ∀ vs, o.data ≠ .fields vs) : UnB fs H0 H' h0 (PySem.W.hideAll B [C]) h'' := by
  have ne : ∀ b o, h0.get? b = some o → b ∉ fs → b ∉ L :: fs := fun b o q hb z => by
    rcases List.mem_cons.mp z with e | e
    · subst e
      exact absurd (Heap.lt_size q) (Nat.not_lt.mpr hL)
    · exact hb e
  have nC : ∀ b o, h0.get? b = some o → b ∉ [C] := fun b o q z => by
    have e := List.mem_singleton.mp z
    subst e
    exact absurd (Heap.lt_size q) (Nat.not_lt.mpr hC)
  refine ⟨fun b o q n hb => PySem.W.hideAll_get _ (u.keep b o (a.keep b o q n hb nnil) (a.free b o q n nnil) (ne b o q hb)) (nC b o q), fun b o q n hb => ?_, fun b o q n => ?_, fun b o q hb => ?_, fun b xs q => u.tups b xs (a.tups b xs q), fun b o x q => u.frzs b o x (a.frzs b o x q), fun b ps q => ?_⟩
  · obtain ⟨sl, e1⟩ := a.slot b o q n hb nnil
    obtain ⟨sl2, e2⟩ := u.slot b _ e1 (a.free b o q n nnil) (List.mem_cons_of_mem _ hb)
    obtain ⟨sl3, e3⟩ := hu b _ (fun z => nC b o q (by rw [z]; exact .head _)) e2 (hr b hb o q)
    exact ⟨sl3, e3⟩
  · obtain ⟨o', e⟩ := a.there b o q nnil
    exact u.free b o' e (a.free b o q n nnil)
  · obtain ⟨o', e⟩ := a.there b o q nnil
    obtain ⟨o2, e2⟩ := u.there b o' e (ne b o q hb)
    exact ⟨o2, PySem.W.hideAll_get _ e2 (nC b o q)⟩
  · obtain ⟨m1, e1⟩ := a.tbls b ps q
    obtain ⟨m2, e2⟩ := u.tbls b _ e1
    exact ⟨m1 ++ m2, by rw [e2, Array.append_assoc]⟩
end
/-- what is asked behind the block: fine, or raised -/
noncomputable def postX (M : Model) (A : Around) (Er : Value → Shared → Prop) (Q : Value → Shared → Prop) (acc : Value) (ce : Env) : Result → Shared → Prop
  | .ok _, s' => ∃ m, s'.heap.Ns ce.locals m ∧ ∀ h', Heap.SameBut ce.locals s'.heap h' → Q acc { s' with heap := h' }
  | .error x, s' => ∃ m, s'.heap.Ns ce.locals m ∧ ∀ h', Heap.SameBut ce.locals s'.heap h' → wpAny M A (PySem.passOn "comprehension.variables-let-go" x ce : Sem Value) (fun _ _ => False) Er { s' with heap := h' }
theorem comp_freeX {M : Model} {A : Around} {Er : Value → Shared → Prop} {env : Env} {s : Shared} {e : Expr} {scope : Scope} {pos : Pos} {newAcc first : Sem Value} {g : Comprehension} {gs : List Comprehension} {cl : List (Str × Addr)} {Q : Value → Shared → Prop}
    (c1 : clausesOf e = g :: gs) (c2 : ∀ x, foldedSetIterable g.iter env x = pure x) (c3 : closureFor scope env = pure cl) (c4 : scope.kind = .function) (c5 : ∀ x ∈ scope.names, x.2 = .local → scope.names.lookup x.1 = some .local)
    (h : wpAny M A first (fun x s1 => wpAny M A (pyIter x) (fun it s2 => wpAny M A newAcc (fun acc s3 => wpAny M A (newFunctionEnv scope env.globals cl [] env.qual none .none (some env)) (fun ce s4 =>
      codeAny M A (.compStart e 0 it acc { ce with scope := relabel scope env }) (postX M A Er Q acc { ce with scope := relabel scope env }) s4) Er s3) Er s2) Er s1) Er s) : wpAny M A (comprehension e scope env pos newAcc false first none) Q Er s := by
  unfold comprehension
  rw [c3, c1]
  refine wpAny_bind (wpAny_mono h (fun x s1 h1 => ?_) fun _ _ z => z)
  refine wpAny_bind (wpAny_standAt (wpAny_bind (wpAny_of_eq (c2 x) (wpAny_bind (wpAny_holding (wpAny_mono h1 (fun it s2 h2 => ?_) fun _ _ z => z))))))
  refine wpAny_standIf (wpAny_bind (wpAny_mono h2 (fun acc s3 h3 => ?_) fun _ _ z => z))
  refine wpAny_bind (wpAny_pure (wpAny_bind (wpAny_mono h3 (fun ce s4 h4 => ?_) fun _ _ z => z)))
  dsimp only
  have own : ∀ x ∈ (scope.names.filter fun x => (x.2 == .local || x.2 == .cell) && x.1 != (".0" : Str)).reverse, x.2 = .local → Env.kindOf { ce with scope := relabel scope env } x.1 = some .local :=
    fun x hx hl => lookup_relabel_local (c5 x (List.mem_filter.mp (List.mem_reverse.mp hx)).1 hl)
  refine wpAny_holding (wpAny_bind (wpAny_attempt (wpAny_holding (wpAny_run (codeAny_mono h4 fun r s' hr => ?_)))))
  cases r with
  | ok f =>
    obtain ⟨m, hn, hr⟩ := hr
    exact wpAny_bind (wpAny_holding (wpAny_comp_letGo (cenv := { ce with scope := relabel scope env }) c4 _ s' m own hn fun h' m' _ hs' => wpAny_pure (hr h' hs')))
  | error x =>
    obtain ⟨m, hn, hr⟩ := hr
    exact wpAny_bind (wpAny_holding (wpAny_comp_letGo (cenv := { ce with scope := relabel scope env }) c4 _ s' m own hn fun h' m' _ hs' => wpAny_mono (hr h' hs') (fun _ _ f => f.elim) fun _ _ y => y))
/-- the loop, where the element may raise -/
theorem comp_turnsX {prog : Program} {w : World} {A : Around} {R : Result → Shared → Prop} {s : Shared} {elt tg iter : Expr} {ifs : List Expr} {scope : Scope} {pos : Pos} {it acc : Value} {env : Env} (J : Nat → Shared → Prop)
    (turn : ∀ n s, J n s → wpAny (model prog w) A (pyNext it) (fun r s1 => match r with
        | none => R (.ok .next) s1
        | some v => wpAny (model prog w) A (letOwnedTupleGo tg it v) (fun _ s2 => wpAny (model prog w) A (assign tg env v) (fun _ s3 =>
            wpAny (model prog w) A (forIn ifs true fun c r => if r = true then do let ok ← isTrue c env (eval c env); pure (ForInStep.yield ok) else pure (ForInStep.yield r)) (fun ok s4 =>
              if ok = true then wpAny (model prog w) A (eval elt env) (fun x s5 => wpAny (model prog w) A (call (.builtin "list.append") [acc, x]) (fun _ s6 => ∃ m, m < n ∧ J m s6) (fun _ _ => False) s5) (notedBy (model prog w) A env fun x s' => R (.error x) s') s4
              else ∃ m, m < n ∧ J m s4) (fun _ _ => False) s3) (fun _ _ => False) s2) (fun _ _ => False) s1) (fun _ _ => False) s)
    (n : Nat) (h : J n s) : codeAny (model prog w) A (.compLoop (.ListComp elt [⟨tg, iter, ifs, 0⟩] scope pos) 0 it acc env) R s := by
  refine codeAny_loop rfl J (fun n s hJ => ?_) n h
  show wpAny _ A ((compTurn (.ListComp elt [⟨tg, iter, ifs, 0⟩] scope pos) 0 it acc env).onRaise (fun x => do noteFrame x env; theTreesLotGoes x)) _ _ s
  refine wpAny_noted ?_
  rw [compTurn_list]
  refine wpAny_bind (wpAny_standAt (wpAny_bind (wpAny_mono (turn n s hJ) (fun r s1 h1 => ?_) fun _ _ z => z.elim)))
  cases r with
  | none => exact wpAny_pure h1
  | some v =>
    refine wpAny_bind (wpAny_mono h1 (fun _ s2 h2 => wpAny_bind (wpAny_mono h2 (fun _ s3 h3 => wpAny_bind (wpAny_mono h3 (fun ok s4 h4 => ?_) fun _ _ z => z.elim)) fun _ _ z => z.elim)) fun _ _ z => z.elim)
    cases ok with
    | false => exact wpAny_pure ⟨rfl, h4⟩
    | true => exact wpAny_bind (wpAny_bind (wpAny_mono h4 (fun x s5 h5 => wpAny_bind (wpAny_mono h5 (fun _ s6 h6 => wpAny_pure (wpAny_pure ⟨rfl, h6⟩)) fun _ _ z => z.elim)) fun _ _ z => z))
end L2

/-! EXCEPTIONS out of a comprehension's block: the rule -/
namespace L2
open PySem PySem.Spec PyProof.Rows
/-- as cxIn, where the element may raise -/
noncomputable def cxInE (X : Cx) (N' : List Str) (scope : Scope) (s₃ : Shared) (H₃ : Hp) (fp : List Addr) (E : XK) : Cx :=
  (cxIn X N' scope s₃ H₃ fp).wish fun e s' => ∃ pins' σ' H1 s1, Inv (cxIn X N' scope s₃ H₃ fp) pins' σ' H1 s1 ∧ CX1 X.prog X.w X.stack H1 s1 E e s'
theorem pass1in {X : Cx} {N' : List Str} {scope : Scope} {s₃ : Shared} {H₃ : Hp} {fp : List Addr} {E : XK} : Passes (CX1 X.prog X.w) (cxInE X N' scope s₃ H₃ fp E) E :=
  fun pins σ H1 s1 _ _ I c => ⟨pins, σ, H1, s1, I.unwish, c⟩
/-- what has been held behind a block that let go of its names goes on -/
noncomputable def Exits (X : Cx) (E : XK) : Prop := ∀ (pins : List (Addr × Obj)) (σ : St) (H1 : Hp) (s1 s' : Shared) (C ea L : Addr) (cls a0 : Value) (H' : Hp) (B h3 : Heap), Inv X pins σ H1 s1 → X.env.frame = some L → X.s₀.heap.objs.size ≤ C → H' C = none → s'.os = s1.os → AllBare s'.gens →
  UnB (frs X.stack) H1 H' s1.heap B s'.heap → HOk X.prog X.w H' B → E cls none H' → Heap.HeldW (PySem.W.hideAll B [C]) (X.env :: X.outer) ea cls a0 L h3 →
  (∀ b o, b ≠ C → s'.heap.get? b = some o → (∀ vs, o.data ≠ .fields vs) → ∃ sl, h3.get? b = some { o with slots := sl }) → X.xe (.ref ea) { s' with heap := h3 }
section
variable {P : Program} {w : World} {K : PySem.W.Frag} {mg : Str → Option Value} {base : Heap} {N : List Str} {qual : Str} {scope : Scope} {f : Addr} {cdv : Value} {A : Around} {outer : List Env} {s : Shared} {H : Hp} {E : XK}
theorem exits1 : Exits (cxOf (CX1 P w) P w K mg base N qual scope f cdv A outer s H E) E := by
  intro pins σ H1 s1 s' C ea L cls a0 H' B h3 I hL hC hn os bare u hok q held up
  have u : UnB (s.heap.objs.size :: frs outer) H1 H' s1.heap B s'.heap := u
  refine leaves_held hL held fun h4 fl4 up4 => ?_
  refine ⟨ea, cls, a0, H', _, rfl, os.trans I.os, bare, UnB.backC I.base u (Nat.le_refl _) hC (fun b o nb e d => ?_) (fun b hb o q vs => ?_), hok.sub fun b v hb e => PySem.W.hideAll_get _ e fun z => hb (by rw [List.mem_singleton.mp z]; exact hn), fl4, q⟩
  · obtain ⟨sl, e1⟩ := up b o nb e d
    obtain ⟨sl2, e2⟩ := up4 b _ e1 d
    exact ⟨sl2, e2⟩
  · obtain ⟨_, o', e, d⟩ := I.ok.funs.mem hb
    have e : s.heap.get? b = some o' := e
    rw [q] at e
    cases e
    exact d vs
end
section
variable {X : Cx} {x : Str} {xs : List Str} {caps : List Nat} {scope osc : Scope} {pins : List (Addr × Obj)} {σ : St} {H : Hp} {s : Shared} {E : XK}
/-- raised in the block: noted, its names let go, on -/
theorem bad_out {C L : Addr} {ce : Env} {H1 : Hp} {s1 s' : Shared} {e acc : Value} {Q : Value → Shared → Prop} (hx : Exits X E) (hst : X.stack = X.env :: X.outer) (hL : X.env.frame = some L) (hce : ce.frame = X.env.frame) (hcl : ce.locals = C)
    (I : Inv X pins σ H1 s1) (hC : X.s₀.heap.objs.size ≤ C) (hns : ∃ m, s1.heap.Ns C m) (hn : H1 C = none) (hfs : C ∉ frs X.stack) (c : CX1 X.prog X.w X.stack H1 s1 E e s') :
    notedBy (model X.prog X.w) X.A ce (fun v s'' => postX (model X.prog X.w) X.A X.xe Q acc ce (.error v) s'') e s' := by
  obtain ⟨ea, cls, a0, H', B, rfl, os, bare, u, hok, fl, q⟩ := c
  obtain ⟨m, oC, es, ep, ho, hd, hk, hf⟩ := hns
  have hB : B.get? C = some oC := u.keep C oC ho hn hfs
  have hB' : B.get? C ≠ none := by rw [hB]; exact fun z => nomatch z
  unfold notedBy
  rw [note_same hce]
  rw [hst] at fl
  refine wpAny_looks_onW (I.ok.frames.trans (by rw [hst])) hL fl fun h1 held up => ?_
  refine ⟨m, ⟨oC, es, ep, by rw [hcl]; exact held.1 _ _ hB, hd, hk, hf⟩, fun h2 hs => ?_⟩
  rw [hcl] at hs
  refine pass_held (hce.trans hL) (held_but hB' hs held) fun h3 held3 up3 => ?_
  refine hx pins σ H1 s1 s' C ea L cls a0 H' B h3 I hL hC (u.free C oC ho hn) os bare u hok q held3 fun b o nb e d => ?_
  obtain ⟨sl, e1⟩ := up b o e d
  obtain ⟨sl2, e2⟩ := up3 b _ ((hs.2 b nb).trans e1) d
  exact ⟨sl2, e2⟩
theorem comp_coreX {elt iter : Expr} {px : Pos} {ifs : List Expr} {pos : Pos} {tt : TT} {te : TE} {it : Addr} {fp : List Addr} {tn : Nat → Heap → Prop} {J : It} {Q : VK} {L : Addr} {Qr : Value → Shared → Prop} {acc : Value} (hx : Exits X E) (hst : X.stack = X.env :: X.outer) (hL : X.env.frame = some L) (hc : X.calm = true) (C : CompOk X x xs caps scope osc)
    (he : ∀ s₃ H₃ fp, PE (cxInE X (x :: xs) scope s₃ H₃ fp E) elt te) (hi : ∀ s₃ H₃ fp, PIfs (cxIn X (x :: xs) scope s₃ H₃ fp) ifs tt)
    {s3 : Shared} {H3 : Hp} {l : Addr} (I3 : Inv X pins σ H3 s3) (T : Turn X.prog X.w X.K (.Name x px) J fp it tn) (st3 : tn 0 s3.heap) (hf : ∀ b ∈ fp, FpOk X pins H3 b)
    {W : Nat → Nat → List V → Hp → Prop} {m0 : Nat} (w0 : W 0 m0 [] H3)
    (turn : ∀ i m ys H4, W i m ys H4 → H4 l = some (.lst ys) ∧ ((J.stop i H4 ∧ Q (.ref l) H4) ∨ (J.go i H4 ∧ ys.length < sizeLine ∧ ∀ y H5, J.yld i H4 y H5 → tt (some y :: capV σ caps) H5 fun b H6 =>
      if b = true then te (some y :: capV σ caps) H6 fun z H7 => H7 l = some (.lst ys) ∧ ∃ m', m' < m ∧ W (i + 1) m' (ys ++ [z]) (upd H7 l (.lst (ys ++ [z]))) else ∃ m', m' < m ∧ W (i + 1) m' ys H6)))
    (fin : ∀ (s' : Shared) (H' : Hp), Inv X pins σ H' s' → Q (.ref l) H' → (∃ m, s'.heap.Ns s3.heap.objs.size m) → FpOk X pins H' s3.heap.objs.size → ∀ h', Heap.SameBut s3.heap.objs.size s'.heap h' → Qr acc { s' with heap := h' }) :
    wpAny (model X.prog X.w) X.A (newFunctionEnv scope X.env.globals (closL X.env scope.names []) [] X.env.qual none .none (some X.env)) (fun cenv s4 =>
      cenv.locals = s3.heap.objs.size ∧ codeAny (model X.prog X.w) X.A (.compStart (.ListComp elt [⟨.Name x px, iter, ifs, 0⟩] scope pos) 0 (.ref it) (.ref l) { cenv with scope := relabel scope X.env }) (postX (model X.prog X.w) X.A X.xe Qr acc { cenv with scope := relabel scope X.env }) s4) X.xe s3 := by
  refine wpAny_newFunctionEnv C.cell (by intro y hy; simp at hy) (fun h1 hns1 hsb1 => ⟨rfl, ?_⟩) C.kind
  have hk : ∀ b o, s3.heap.get? b = some o → h1.get? b = some o := fun b o e => hsb1.extBut b o (Nat.ne_of_lt (Heap.lt_size e)) (Heap.get?_push_of_some _ e)
  have hns : h1.Ns s3.heap.objs.size (fun _ => none) := by simpa using hns1
  have hlt : ∀ b ∈ fp, b < s3.heap.objs.size := fun b hb => by
    obtain ⟨o, e, _⟩ := T.obj 0 _ st3 b hb
    exact Heap.lt_size e
  have I4 : Inv (cxIn X (x :: xs) scope s3 H3 fp) [] (none :: capV σ caps) H3 { s3 with heap := h1, toks := s3.toks + ([] : List (Str × Value)).length } := comp_inv C I3 hf hlt hns hk
  have hx' : (relabel scope X.env).names.lookup x = some .local := lookup_relabel_local C.loc
  have stat : ∀ {H' : Hp}, (∀ b ∈ fp, H' b = none) → ∀ b ∈ fp, FpOk (cxIn X (x :: xs) scope s3 H3 fp) [] H' b := fun hn b hb =>
    ⟨hn b hb, Nat.ne_of_lt (hlt b hb), (I4.ok.exfs b hb), .inl hb, (I4.ok.exf b hb).2, fun p hp => absurd (show p ∈ ([] : List (Addr × Obj)) from hp) (by simp)⟩
  have loop : ∀ s5 : Shared, (∃ i v0 ys H', Inv (cxIn X (x :: xs) scope s3 H3 fp) [] (v0 :: capV σ caps) H' s5 ∧ tn i s5.heap ∧ (∀ b ∈ fp, H' b = none) ∧ W i m0 ys H') →
      codeAny (model X.prog X.w) X.A (.compLoop (.ListComp elt [⟨.Name x px, iter, ifs, 0⟩] scope pos) 0 (.ref it) (.ref l) (compEnvC scope (closL X.env scope.names []) s3.heap.objs.size X.env)) (postX (model X.prog X.w) X.A X.xe Qr acc (compEnvC scope (closL X.env scope.names []) s3.heap.objs.size X.env)) s5 := by
    intro s5 h5
    refine comp_turnsX (fun n s' => ∃ i v0 ys H', Inv (cxIn X (x :: xs) scope s3 H3 fp) [] (v0 :: capV σ caps) H' s' ∧ tn i s'.heap ∧ (∀ b ∈ fp, H' b = none) ∧ W i n ys H') ?_ m0 h5
    rintro n s6 ⟨i, v0, ys, H6, I6, st6, fr6, w6⟩
    obtain ⟨hl6, stop | ⟨go, hz, step⟩⟩ := turn i n ys H6 w6
    · refine thn (T.done (cxIn X (x :: xs) scope s3 H3 fp) rfl rfl rfl hc i [] s6 _ H6 (fun _ _ => False) I6 (stat fr6) st6 stop.1) fun r s7 ⟨hr, I7⟩ => ?_
      subst hr
      obtain ⟨m, hn, _⟩ := I7.loc
      refine ⟨m, hn, fin s7 H6 (I3.call' (ch := fp) I7.os I7.base I7.hok I7.bare fun b hb => ?_) stop.2 ⟨m, hn⟩ (I3.fpOk (Nat.le_refl _) I7.free)⟩
      obtain ⟨f0, f1, f2, f3, f4, f5⟩ := hf b hb
      exact ⟨f3, f1, f4, f5⟩
    · refine thn (T.item (cxIn X (x :: xs) scope s3 H3 fp) rfl rfl rfl hc i [] s6 _ H6 (fun _ _ => False) I6 (stat fr6) st6 go) fun r s7 ⟨u, hr, h7⟩ => ?_
      subst hr
      refine thn h7 fun _ s8 ⟨y, H8, I8, r8, y8, st8, fr8⟩ => ?_
      have I8' := I8.pinned (stat fr8) (T.obj _ _ st8)
      have again : ∀ {σ9 : St} {H9 : Hp} {s9 : Shared} {v1 : Option V} {zs : List V}, Inv (cxIn X (x :: xs) scope s3 H3 fp) ([] ++ pinsAt fp s8.heap) σ9 H9 s9 → σ9 = v1 :: capV σ caps → (∃ m', m' < n ∧ W (i + 1) m' zs H9) →
          ∃ m, m < n ∧ ∃ i v0 ys H', Inv (cxIn X (x :: xs) scope s3 H3 fp) [] (v0 :: capV σ caps) H' s9 ∧ tn i s9.heap ∧ (∀ b ∈ fp, H' b = none) ∧ W i m ys H' := fun {σ9 H9 s9 v1 zs} I9 e9 hw => by
        subst e9
        obtain ⟨m', hm, w9⟩ := hw
        refine ⟨m', hm, i + 1, v1, zs, H9, I9.unpinned, T.keep _ _ _ st8 fun b hb o e => (I9.pin (b, o) (List.mem_append_right _ (List.mem_append_right _ (mem_pinsAt hb e)))).1, fun b hb => ?_, w9⟩
        obtain ⟨o, e, d⟩ := T.obj _ _ st8 b hb
        exact (I9.pin (b, o) (List.mem_append_right _ (List.mem_append_right _ (mem_pinsAt hb e)))).2.1
      have pg : PG (cxIn X (x :: xs) scope s3 H3 fp) (.Name x px) (gName 0) := pg_name C.nd rfl (.inl hx') (.inr hx')
      refine thn (pg _ s8 _ H8 y u (fun σ' H' => σ' = some y :: capV σ caps ∧ H' = H8) I8' r8 ⟨rfl, rfl⟩) fun _ s9 ⟨σ9, H9, I9, e9, e9'⟩ => ?_
      subst e9 e9'
      refine thn (hi s3 H3 fp _ s9 _ _ _ I9 (step y H9 y8)) fun b s10 ⟨H10, I10, q10⟩ => ?_
      cases b with
      | false =>
        have q10 : ∃ m', m' < n ∧ W (i + 1) m' ys H10 := q10
        exact again I10 rfl q10
      | true =>
        have q10 : te (some y :: capV σ caps) H10 fun z H7 => H7 l = some (.lst ys) ∧ ∃ m', m' < n ∧ W (i + 1) m' (ys ++ [z]) (upd H7 l (.lst (ys ++ [z]))) := q10
        show wpAny _ _ (eval elt _) _ _ s10
        refine wpAny_mono (he s3 H3 fp _ s10 _ _ _ (I10.wish _) q10) (fun z' s11 ⟨z, H11, I11, r11, hl11, q11⟩ => ?_) fun e s' ⟨pins', σ', H1, s1, I1, c1⟩ => ?_
        rotate_left
        · obtain ⟨m1, hn1, _⟩ := I1.loc
          have IX := I3.call' (ch := fp) I1.os I1.base I1.hok I1.bare fun b hb => by
            obtain ⟨f0, f1, f2, f3, f4, f5⟩ := hf b hb
            exact ⟨f3, f1, f4, f5⟩
          exact bad_out hx hst hL rfl rfl IX I3.sz ⟨m1, hn1⟩ I1.free (fun z => by obtain ⟨_, o, e, _⟩ := I3.stack.mem z; exact absurd (Heap.lt_size e) (Nat.lt_irrefl _)) c1
        have I11 := I11.unwish
        refine thn (mt_append (X := cxIn X (x :: xs) scope s3 H3 fp) _ s11 _ H11 (.ref l) [z] (.ref l) [z'] (fun _ H' => H' = upd H11 l (.lst (ys ++ [z]))) I11 rfl (.cons r11 .nil) ⟨l, ys, z, rfl, rfl, hl11, hz, rfl⟩) fun _ s12 ⟨_, H12, I12, _, e12⟩ => ?_
        subst e12
        exact again I12 rfl q11
  have start : ∃ i v0 ys H', Inv (cxIn X (x :: xs) scope s3 H3 fp) [] (v0 :: capV σ caps) H' { s3 with heap := h1, toks := s3.toks + ([] : List (Str × Value)).length } ∧ tn i h1 ∧ (∀ b ∈ fp, H' b = none) ∧ W i m0 ys H' :=
    ⟨0, none, [], H3, I4, T.keep _ _ _ st3 fun b _ o e => hk b o e, fun b hb => (hf b hb).1, w0⟩
  exact codeAny_compStart_list (loop _ start) (T.self X.A 0 _ _ _ (T.keep _ _ _ st3 fun b _ o e => hk b o e) (loop _ start))

/-- [elt for x in iter if ..], where elt may raise -/
theorem pe_compX {elt iter : Expr} {px : Pos} {ifs : List Expr} {pos : Pos} {wi : TI} {tt : TT} {te : TE} {L : Addr} (hx : Exits X E) (hst : X.stack = X.env :: X.outer) (hL : X.env.frame = some L) (hc : X.calm = true) (C : CompOk X x xs caps scope osc) (hit : PI X (.Name x px) iter wi)
    (he : ∀ s₃ H₃ fp, PE (cxInE X (x :: xs) scope s₃ H₃ fp E) elt te) (hi : ∀ s₃ H₃ fp, PIfs (cxIn X (x :: xs) scope s₃ H₃ fp) ifs tt) (hs : ∀ x, foldedSetIterable iter X.env x = pure x := by intro _; rfl) :
    PE X (.ListComp elt [⟨.Name x px, iter, ifs, 0⟩] scope pos) (tComp caps wi tt te) := by
  intro pins s σ H Q I h
  rw [eval_ListComp]
  refine comp_freeX rfl hs (closureFor_eq (C.hasC I.ok)) C.kind C.names (thn (hit pins s σ H _ I h) fun v s1 h1 => thn h1 fun itv s2 h2 => ?_)
  obtain ⟨it, fp, tn, J, H2, rfl, I2, T, st2, f2, R⟩ := h2
  obtain ⟨W, ⟨m0, w0⟩, turn⟩ := R s2.heap.objs.size (I2.hok.fresh (Nat.le_refl _))
  refine comp_lay I2 T st2 f2 fun s3 I3 st3 f3 hz3 => ?_
  refine thn (comp_coreX (Qr := EP X pins σ Q) (acc := .ref s2.heap.objs.size) (pos := pos) (iter := iter) hx hst hL hc C he hi I3 T st3 f3 w0 turn ?_) fun cenv s4 ⟨e, h4⟩ => h4
  rintro s' H' I' q _ f h' hs'
  exact ⟨.ref s2.heap.objs.size, H', I'.let f hs', rfl, q⟩
end
end L2

/-! the texts of refusals: f"..{x!r}"; a call under either of two contracts -/
namespace L2
open PySem PySem.Spec PyProof.Rows
section
variable {X : Cx}
/-- f"..{x!r}", x a text -/
noncomputable def tFmtR (t : TE) : TE := fun σ H Q => t σ H fun x H1 => Ex1_3 (fun (y : Str) => x = .str y) (fun (y : Str) => (reprText y).length ≤ 1000000) (fun (y : Str) => ∀ z, Q (.str z) H1)
theorem pe_fmtR {z : Str} {j : Nat} {p1 p2 pos : Pos} {e : Expr} {t : TE} (he : PE X e t) (hz : z.length ≤ 1000 := by decide +kernel) :
    PE X (.JoinedStr [.Constant (.str z) j p1, .FormattedValue e 114 none p2] pos) (tFmtR t) := by
  intro pins s σ H Q I h
  have hsz : sizeLine = 2 ^ 24 := rfl
  refine wpAny_JoinedStr (join_const (rest := [eval (.FormattedValue e 114 none p2) X.env]) I (by rw [empty_cat, hsz]; omega) fun s1 I1 => ?_)
  rw [empty_cat]
  show wpAny _ _ (eval (.FormattedValue e 114 none p2) X.env) _ _ s1
  refine wpAny_FormattedValue_repr (thn (he pins s1 σ _ _ I1 h) fun v s2 ⟨x, H2, I2, r2, y, ei, hy, q⟩ => ?_)
  subst ei
  obtain ⟨t2, rfl⟩ := r2
  have fit : (z ++ reprText y).length ≤ sizeLine := by rw [strLen_append, hsz]; omega
  have fit1 : (reprText y).length ≤ sizeLine := by rw [hsz]; omega
  refine PySem.pyReprObj_str ?_ fit1
  refine wpAny_formatField_str ?_ ?_ fit1
  · exact ⟨_, _, rfl, fit, fit, ⟨.str _, H2, (I2.tok _).tok _, ⟨_, rfl⟩, q _⟩⟩
  · exact ⟨_, _, rfl, fit, fit, ⟨.str _, H2, ((I2.tok _).tok _).tok _, ⟨_, rfl⟩, q _⟩⟩
end
end L2
namespace SC
open PySem PySem.Spec PyProof.Rows L2
noncomputable def orSp (a b : Sp) : Sp := fun vs H Q E => a vs H Q E ∨ b vs H Q E
section
variable {X : Cx} {pos p : Pos} {x : Str} {E : XK}
theorem pe_hasO {k k' : Nat} {ps : List Str} {sp sp' : Sp} {e : Expr} {es : List Expr} {t : TA} (h : Has1 X.prog X.w X.K X.mg X.base k' x ps sp) (h' : Has1 X.prog X.w X.K X.mg X.base k' x ps sp') (hr : Room k X.A) (hx : Passes (CX1 X.prog X.w) X E) (hg : Gl X x)
    (ha : PA X (e :: es) t) (hk : k' ≤ k := by decide) (hdb : (x == ("__debug__" : Str)) = false := by decide) (he : starEach (e :: es) X.env = (false, eval e X.env) :: starEach es X.env := by rfl) (hpl : (backTo pos (starEach es X.env)).any (·.1) = false := by rfl) :
    PE X (.Call (.Name x p) (e :: es) [] pos) (tCall (orSp sp sp') [] E t) := by
  obtain ⟨f, fd, F, b, m, kp⟩ := h.ex
  obtain ⟨f', fd', F', b', m', _⟩ := h'.ex
  obtain rfl : f' = f := by
    rw [m] at m'
    injection m' with m'
    injection m' with m'
    exact m'.symm
  intro pins s σ H Q I h
  refine wpAny_Call_Name_kw (ld_glob I hg m ?_ hdb)
  refine PySem.W.callWith_K (h₀ := X.base) I.ok.mod.kin kp (thn (ha pos pins s σ H _ I h) fun us s1 ⟨vs, H1, I1, r, q⟩ => ⟨I1.kIn, ?_⟩) he hpl
  rcases q with q | q
  · exact run_fn F (hr.mono hk) b .nil hx I1 r q
  · exact run_fn F' (hr.mono hk) b' .nil hx I1 r q
end
end SC

/-! THE PROGRAM'S DEFS: what each promises, and that its body keeps it -/
namespace SC
open PySem PySem.Spec PyProof.Rows L2
noncomputable def LETT : Str := "abcdefghijklmnopqrstuvwxyz"
noncomputable def FIGS : Str := "0123456789"
noncomputable def occ (j : Str) (c : Nat) : Bool := !(Builtin.Str.occurrences j ⟨#[c]⟩ 0 j.length 1).isEmpty
noncomputable def niceB (x : Str) : Bool := !(x.cps.size == 0) && occ LETT (x.cps.getD 0 0) && (List.range x.cps.size).all (fun i => occ LETT (x.cps.getD i 0) || occ FIGS (x.cps.getD i 0))
noncomputable def Nice (x : Str) : Prop := niceB x = true ∧ x.length ≤ 1000
theorem iteF' {c : Bool} {A B : Prop} (e : c = false) (h : B) : if c = true then A else B := by subst e; exact iteF h
theorem iteT' {c : Bool} {A B : Prop} (e : c = true) (h : A) : if c = true then A else B := by subst e; exact iteT h
theorem s1000 {n : Nat} (h : n ≤ 1000) : n ≤ sizeLine := Nat.le_of_lt (small1000 h)
noncomputable def top (i : Nat) : Stmt := PySem.Challenge.pw_stepcells_k11_lines_that_write_nothing.main.body.getD i (.Pass ⟨0, 0, 0, 0⟩)
/-- what the module holds -/
structure Tx (P : Program) (w : World) (K : PySem.W.Frag) (mg : Str → Option Value) : Prop where
  c_LETTERS : ∃ t, mg "LETTERS" = some (.str LETT t)
  c_FIGURES : ∃ t, mg "FIGURES" = some (.str FIGS t)
  c_LONE_WORDS : ∃ a, mg "LONE_WORDS" = some (.ref a) ∧ ∀ H, SqT K H a [.str "tell", .str "halt"]
  c_LEADING_WORDS : ∃ a, mg "LEADING_WORDS" = some (.ref a) ∧ ∀ H, SqT K H a [.str "jump", .str "when"]
  b_ValueError : mg "ValueError" = none
  b_len : mg "len" = none
  b_range : mg "range" = none
  b_all : mg "all" = none
  b_isinstance : mg "isinstance" = none
  b_int : mg "int" = none
  b_str : mg "str" = none
  b_bool : mg "bool" = none
  b_list : mg "list" = none
  b_tuple : mg "tuple" = none
/-- the classes of refusals -/
structure Cn where
  CellError : Addr
  NoRow : Addr
  TwoMarks : Addr
  NoMark : Addr
  NoCells : Addr
  NoLine : Addr
structure Tc (K : PySem.W.Frag) (mg : Str → Option Value) (c : Cn) : Prop where
  n_CellError : mg "CellError" = some (.ref c.CellError)
  e_CellError : ExCls K c.CellError
  n_NoRow : mg "NoRow" = some (.ref c.NoRow)
  e_NoRow : ExCls K c.NoRow
  n_TwoMarks : mg "TwoMarks" = some (.ref c.TwoMarks)
  e_TwoMarks : ExCls K c.TwoMarks
  n_NoMark : mg "NoMark" = some (.ref c.NoMark)
  e_NoMark : ExCls K c.NoMark
  n_NoCells : mg "NoCells" = some (.ref c.NoCells)
  e_NoCells : ExCls K c.NoCells
  n_NoLine : mg "NoLine" = some (.ref c.NoLine)
  e_NoLine : ExCls K c.NoLine
  u_NoLine : L2.subIn K c.NoLine (.ref c.CellError) = true
  v_NoLine : PySem.W.kitOne K (.ref c.NoLine) (.type "ValueError") = some true
  i_NoLine_NoRow : PySem.W.kitOne K (.ref c.NoLine) (.ref c.NoRow) = some false
  i_NoLine_TwoMarks : PySem.W.kitOne K (.ref c.NoLine) (.ref c.TwoMarks) = some false
  i_NoLine_NoMark : PySem.W.kitOne K (.ref c.NoLine) (.ref c.NoMark) = some false
  i_NoLine_NoCells : PySem.W.kitOne K (.ref c.NoLine) (.ref c.NoCells) = some false
  i_NoLine_NoLine : PySem.W.kitOne K (.ref c.NoLine) (.ref c.NoLine) = some true
section
variable {P : Program} {w : World} {K : PySem.W.Frag} {mg : Str → Option Value} {base : Heap}
noncomputable abbrev s_is_name : Stmt := top 12
theorem sc_is_name : FnScope ["text"] ["text"] (defScope s_is_name) := ⟨rfl, rfl, rfl, by decide +kernel, rfl, by decide +kernel, by decide +kernel⟩
noncomputable def spIsName : Sp := fun vs H Q _ => Ex1_3 (fun (x : Str) => vs = [.str x]) (fun (x : Str) => x.length ≤ 1000) (fun (x : Str) => ∀ H', Same H H' → Q (.bl (niceB x)) H')
theorem ok_is_name (D : Def K mg "is_name" s_is_name ["text"]) (T : Tx P w K mg) : Has P w K mg base 1 "is_name" ["text"] spIsName := by
  refine D.has sc_is_name (fun vs H Q E h => ?_) (fun f cdv A outer s H vs Q E hr h => ?_)
  · obtain ⟨x, rfl, _⟩ := h
    rfl
  · obtain ⟨x, rfl, hx, k⟩ := h
    refine ⟨_, (pss_cons (ps_if (PW.pt (pw_or (pt_cmpR op_eq (pv 0) pe_str (nomark _)) (pw_or1 (pt_cmpR op_notin_str (pe_ix ix_str (pv 0) pe_int (fun _ _ => rfl)) (pe_gS rfl T.c_LETTERS) (by with_unfolding_all rfl))))) (pss_one (ps_ret pe_bl)) pss_nil)
      (pss_one (ps_ret (pe_callB (call_all_bools rfl) (by rfl) T.b_all bt_all (pa_cons (pe_comp rfl (x := "sign") (xs := []) (caps := []) (osc := defScope s_is_name) ⟨rfl, rfl, by decide +kernel, by decide +kernel, rfl, by decide +kernel, by decide +kernel, by decide +kernel, .nil⟩ (pi_str (pv 0)) (fun _ _ _ => (pe_or (pe_cmpR op_in_str (pv 0) (pe_gS rfl T.c_LETTERS) (by with_unfolding_all rfl)) (pe_one (pe_cmpR op_in_str (pv 0) (pe_gS rfl T.c_FIGURES) (by with_unfolding_all rfl))))) (fun _ _ _ => pifs_nil)) pa_nil))))), ?_⟩
    refine ⟨_, rfl, rfl, _, rfl, ?_⟩
    refine ite2 (fun h0 => ?_) (fun h0 => ?_)
    · refine iteT ?_
      have e : x = "" := by
        have h0 := of_decide_eq_true h0
        injection h0
      subst e
      have q := k H (Same.refl H)
      rw [show niceB "" = false by decide +kernel] at q
      exact q
    · have hsz : x.cps.size ≠ 0 := fun z => h0 (by
        have e : x = "" := by
          obtain ⟨cps⟩ := x
          have z : cps.size = 0 := z
          have : cps = #[] := Array.eq_empty_of_size_eq_zero z
          subst this
          rfl
        subst e
        rfl)
      have hlt : 0 < x.cps.size := Nat.pos_of_ne_zero hsz
      have hat : atI x.cps.toList (0 : Int) = some (x.cps.getD 0 0) := by
        refine atI_nat (j := 0) ?_
        simp [Array.getD, hlt]
      refine ⟨_, rfl, x, 0, _, rfl, rfl, s1000 hx, hat, _, _, rfl, rfl, _, rfl, ?_⟩
      show if (!occ LETT (x.cps.getD 0 0)) = true then _ else _
      cases e0 : occ LETT (x.cps.getD 0 0) with
      | false =>
        refine iteT' rfl ?_
        have q := k H (Same.refl H)
        rw [show niceB x = false by unfold niceB; rw [e0]; simp] at q
        exact q
      | true =>
        refine iteF' rfl ?_
        refine ⟨_, rfl, x, rfl, comp_pure (n := x.cps.size) (item := fun i => V.str ⟨#[x.cps.getD i 0]⟩) (p := fun _ => true) (f := fun i => V.bl (occ LETT (x.cps.getD i 0) || occ FIGS (x.cps.getD i 0)))
          (s1000 hx) (fun i H2 _ h => h) (fun H2 _ => Nat.le_refl _) (fun i H2 y H3 _ hi hy => ?_) (fun i H2 _ _ Q2 k2 => k2 H2 (Same.refl H2)) (fun i H2 hi _ _ Q2 k2 => ?_) (fun l H2 hl s2 hl2 => ?_)⟩
        · obtain ⟨e1, c, hc, e2⟩ := hy
          refine ⟨?_, e1⟩
          rw [e2]
          have : x.cps.getD i 0 = c := by
            have hi : i < x.cps.size := hi
            rw [Array.getElem?_eq_getElem hi] at hc
            simp [Array.getD, hi, Option.some.inj hc]
          rw [this]
        · refine ⟨_, rfl, _, _, rfl, rfl, _, rfl, ?_⟩
          show if occ LETT (x.cps.getD i 0) = true then _ else _
          have q := k2 H2 (Same.refl H2)
          cases e1 : occ LETT (x.cps.getD i 0) with
          | true =>
            rw [e1] at q
            exact iteT q
          | false =>
            rw [e1, Bool.false_or] at q
            refine iteF ?_
            exact ⟨_, rfl, _, _, rfl, rfl, q⟩
        · refine ⟨l, (List.range x.cps.size).map fun i => occ LETT (x.cps.getD i 0) || occ FIGS (x.cps.getD i 0), rfl, SqL.of (by rw [hl2, List.map_map, List.filter_eq_self.mpr (fun _ _ => rfl)]; rfl), ?_⟩
          have q := k H2 s2
          rw [show niceB x = ((List.range x.cps.size).map fun i => occ LETT (x.cps.getD i 0) || occ FIGS (x.cps.getD i 0)).all id by
            unfold niceB
            rw [e0, List.all_map]
            have : (x.cps.size == 0) = false := by simpa using hsz
            rw [this]
            rfl] at q
          exact q
end
end SC

set_option maxHeartbeats 1000000
/-! small things that promise 11 needs of the texts P3, P6, P7, P10, P16, P19 -/
namespace SC
open PySem PySem.Spec PyProof.Rows L2
theorem dV {a b : Int} : decide (V.int a = V.int b) = decide (a = b) := by
  by_cases h : a = b
  · subst h; simp
  · rw [decide_eq_false h]
    exact decide_eq_false fun z => h (by injection z)
theorem dnot {a b : V} (h : a = b) : (!decide (a = b)) = false := by rw [decide_eq_true h]; rfl
theorem seq_cut {t u : TS} {D : Ends} {σ : L2.St} {H : Hp} (J : L2.St → Hp → Prop) (h1 : ∀ D' : Ends, (∀ σ' H', J σ' H' → D'.nx σ' H') → t D' σ H) (h2 : ∀ σ' H', J σ' H' → u D σ' H') : tSeq t u D σ H := h1 _ h2
theorem for_rng {n : Nat} {g : TG} {tb : TS} {D : Ends} {σ : L2.St} {H : Hp} (Pv : Nat → L2.St → Hp → Prop) (h0 : Pv 0 σ H)
    (hs : ∀ i σ H, i < n → Pv i σ H → g (.int (i : Nat)) σ H fun σ2 H2 => tb { D with nx := Pv (i + 1), ct := Pv (i + 1), bk := D.nx } σ2 H2) (hd : ∀ σ H, Pv n σ H → D.nx σ H) :
    ∃ W : Nat → Nat → L2.St → Hp → Prop, (∃ m, W 0 m σ H) ∧ ∀ i m σ H, W i m σ H →
      ((Itr 0 n).stop i H ∧ D.nx σ H) ∨ ((Itr 0 n).go i H ∧ ∃ N : L2.St → Hp → Prop, (∀ σ' H', N σ' H' → ∃ m', m' < m ∧ W (i + 1) m' σ' H') ∧ ∀ x H', (Itr 0 n).yld i H x H' → g x σ H' fun σ2 H2 => tb { D with nx := N, ct := N, bk := D.nx } σ2 H2) :=
  for_range Pv h0 (fun i σ H hi p => by rw [Int.zero_add]; exact hs i σ H hi p) hd
theorem kit_ii (K : PySem.W.Frag) : PySem.W.kitOne K (.type "int") (.type "int") = some true := rfl
theorem kit_ib (K : PySem.W.Frag) : PySem.W.kitOne K (.type "int") (.type "bool") = some false := rfl
theorem kit_is (K : PySem.W.Frag) : PySem.W.kitOne K (.type "int") (.type "str") = some false := rfl
theorem kit_ss (K : PySem.W.Frag) : PySem.W.kitOne K (.type "str") (.type "str") = some true := rfl
theorem kit_ll (K : PySem.W.Frag) : PySem.W.kitOne K (.type "list") (.type "list") = some true := rfl
theorem kit_tt (K : PySem.W.Frag) : PySem.W.kitOne K (.type "tuple") (.type "tuple") = some true := rfl
theorem kit_four {K : PySem.W.Frag} {t a b c d : Value} (h1 : PySem.W.kitOne K t a = some false) (h2 : PySem.W.kitOne K t b = some false) (h3 : PySem.W.kitOne K t c = some false) (h4 : PySem.W.kitOne K t d = some false) : PySem.W.kitAny K t [a, b, c, d] = some false := kit_none fun e he => by
  simp only [List.mem_cons, List.not_mem_nil, or_false] at he
  rcases he with rfl | rfl | rfl | rfl
  · exact h1
  · exact h2
  · exact h3
  · exact h4
theorem cut_all {ns : List Int} (h : ns.length ≤ 63) : cutV (ns.map V.int) none (some (1000 : Int)) = ns.map V.int := by
  unfold cutV
  rw [HT.sIx_none, List.drop_zero, show HT.sIx (ns.map V.int).length (ns.map V.int).length (some (1000 : Int)) = min 1000 (ns.map V.int).length from HT.sIx_nat _ _ 1000, Nat.sub_zero, List.length_map]
  exact List.take_of_length_le (by rw [List.length_map]; omega)
noncomputable def spLaw (K : PySem.W.Frag) : Sp := fun vs H Q _ => Ex2_4 (fun (a : Addr) (ns : List Int) => vs = [.ref a]) (fun (a : Addr) (ns : List Int) => SqL K H a (ns.map V.int)) (fun (a : Addr) (ns : List Int) => ns.length ≤ 63) (fun (a : Addr) (ns : List Int) => ∀ H', Q (.bl true) H')
/-! ### decisions of texts -/
theorem dS {a b : Str} : decide (V.str a = V.str b) = decide (a = b) := by
  by_cases h : a = b
  · subst h; simp
  · rw [decide_eq_false h]
    exact decide_eq_false fun z => h (by injection z)
theorem vS {a b : Str} (h : a = b) : decide (V.str a = V.str b) = true := decide_eq_true (by rw [h])
theorem vN {a b : Str} (h : a ≠ b) : decide (V.str a = V.str b) = false := decide_eq_false fun e => h (by injection e)
theorem bN {b c : Bool} (h : b ≠ c) : decide (V.bl b = V.bl c) = false := decide_eq_false fun e => h (by injection e)
theorem all_no {n i : Nat} {p : Nat → Bool} (hi : i < n) (h : p i = false) : (List.range n).all p = false := by
  cases e : (List.range n).all p with
  | false => rfl
  | true =>
    have := List.all_eq_true.mp e i (List.mem_range.mpr hi)
    rw [h] at this
    cases this
theorem all_yes {n : Nat} {p : Nat → Bool} (h : ∀ i, i < n → p i = true) : (List.range n).all p = true := List.all_eq_true.mpr fun i hi => h i (List.mem_range.mp hi)
theorem getD_of {a : Array Nat} {i c : Nat} (h : a[i]? = some c) : a.getD i 0 = c := by
  obtain ⟨hi, e⟩ := Array.getElem?_eq_some_iff.mp h
  simp [Array.getD, hi, e]
theorem size_ne {x : Str} (h : x ≠ "") : 0 < x.cps.size := by
  refine Nat.pos_of_ne_zero fun z => h ?_
  obtain ⟨cps⟩ := x
  have z : cps.size = 0 := z
  have : cps = #[] := Array.eq_empty_of_size_eq_zero z
  subst this
  rfl
theorem at_first {x : Str} (h : x ≠ "") : atI x.cps.toList (0 : Int) = some (x.cps.getD 0 0) := by
  have hlt := size_ne h
  refine atI_nat (j := 0) ?_
  simp [Array.getD, hlt]
section
variable {P : Program} {w : World} {K : PySem.W.Frag} {mg : Str → Option Value} {base : Heap}
noncomputable abbrev s__law_whole : Stmt := top 20
theorem sc__law_whole : FnScope ["_law_found"] ["_law_found"] (defScope s__law_whole) := ⟨rfl, rfl, rfl, by decide +kernel, rfl, by decide +kernel, by decide +kernel⟩
noncomputable def spWhole : Sp := fun vs H Q _ => Ex1_2 (fun (i : Int) => vs = [.int i]) (fun (i : Int) => ∀ H', Same H H' → Q (.bl true) H')
theorem ok__law_whole (D : Def K mg "_law_whole" s__law_whole ["_law_found"]) (T : Tx P w K mg) : Has P w K mg base 1 "_law_whole" ["_law_found"] spWhole := by
  refine D.has sc__law_whole (fun vs H Q E h => ?_) (fun f cdv A outer s H vs Q E hr h => ?_)
  · obtain ⟨i, rfl, _⟩ := h
    rfl
  · obtain ⟨i, rfl, k⟩ := h
    refine ⟨_, (pss_one (ps_ret (pe_and (pe_callB call_isi (by rfl) T.b_isinstance bt_isinstance (pa_cons (pv 0) (pa_cons (pe_bty (by rfl) T.b_int bt_int) pa_nil))) (pe_one (pe_not (pe_callB call_isi (by rfl) T.b_isinstance bt_isinstance (pa_cons (pv 0) (pa_cons (pe_bty (by rfl) T.b_bool bt_bool) pa_nil)))))))), ?_⟩
    refine ⟨_, rfl, _, _, _, _, rfl, .int i, kit_ii K, _, rfl, iteT ?_⟩
    exact ⟨_, rfl, _, _, _, _, rfl, .int i, kit_ib K, _, rfl, k H (Same.refl H)⟩
noncomputable abbrev s__law_at : Stmt := top 21
theorem sc__law_at : FnScope ["_law_script", "_law_k"] ["_law_script", "_law_k"] (defScope s__law_at) := ⟨rfl, rfl, rfl, by decide +kernel, rfl, by decide +kernel, by decide +kernel⟩
noncomputable def spAt : Sp := fun vs H Q _ => Ex3_3 (fun (c : Addr) (ns : List Int) (i : Nat) => vs = [.ref c, .int (i : Nat)]) (fun (c : Addr) (ns : List Int) (i : Nat) => H c = some (.lst (ns.map V.int))) (fun (c : Addr) (ns : List Int) (i : Nat) => ∀ H', Same H H' → Q (.int (ns.getD i 0)) H')
theorem ok__law_at (D : Def K mg "_law_at" s__law_at ["_law_script", "_law_k"]) (T : Tx P w K mg) : Has P w K mg base 1 "_law_at" ["_law_script", "_law_k"] spAt := by
  refine D.has sc__law_at (fun vs H Q E h => ?_) (fun f cdv A outer s H vs Q E hr h => ?_)
  · obtain ⟨c, ns, i, rfl, _⟩ := h
    rfl
  · obtain ⟨c, ns, i, rfl, hc, k⟩ := h
    refine ⟨_, (pss_cons (ps_if (pt_cmpR op_lt (pv 1) (pe_callB call_len_seq0 (by rfl) T.b_len bt_len (pa_cons (pv 0) pa_nil)) (nomark _)) (pss_one (ps_ret (pe_ix ix_list0 (pv 0) (pv 1) (fun _ _ => rfl)))) pss_nil)
      (pss_one (ps_ret pe_int))), ?_⟩
    refine ⟨_, rfl, _, rfl, c, _, rfl, .inl (SqL.of hc), _, _, rfl, rfl, _, rfl, ite2 (fun h1 => ?_) (fun h1 => ?_)⟩
    · have h1 := of_decide_eq_true h1
      rw [List.length_map] at h1
      have hi : i < ns.length := by omega
      refine ⟨_, rfl, _, rfl, c, _, i, _, rfl, rfl, SqL.of hc, atI_nat (by rw [List.getElem?_map, List.getElem?_eq_getElem hi]; rfl), ?_⟩
      have q := k H (Same.refl H)
      rw [show ns.getD i 0 = ns[i] by simp [List.getD, hi]] at q
      exact q
    · have h1 : ¬ (((i : Nat) : Int) < (((ns.map V.int).length : Nat) : Int)) := fun z => h1 (decide_eq_true z)
      rw [List.length_map] at h1
      have q := k H (Same.refl H)
      rw [show ns.getD i 0 = 0 by rw [List.getD, List.getElem?_eq_none (by omega)]; rfl] at q
      exact q
noncomputable abbrev s__law_are_rows : Stmt := top 26
theorem sc__law_are_rows : FnScope ["_law_found", "_law_row"] ["_law_found"] (defScope s__law_are_rows) := ⟨rfl, rfl, rfl, by decide +kernel, rfl, by decide +kernel, by decide +kernel⟩
noncomputable def spAre : Sp := fun vs H Q _ => Ex2_3 (fun (a : Addr) (rs : List Rw) => vs = [.ref a]) (fun (a : Addr) (rs : List Rw) => RowsAt H a rs) (fun (a : Addr) (rs : List Rw) => ∀ H', Same H H' → Q (.bl true) H')
theorem ok__law_are_rows (D : Def K mg "_law_are_rows" s__law_are_rows ["_law_found"]) (T : Tx P w K mg) (h__law_whole : Has P w K mg base 1 "_law_whole" ["_law_found"] spWhole) : Has P w K mg base 2 "_law_are_rows" ["_law_found"] spAre := by
  refine D.has sc__law_are_rows (fun vs H Q E h => ?_) (fun f cdv A outer s H vs Q E hr h => ?_)
  · obtain ⟨a, rs, rfl, _⟩ := h
    rfl
  · obtain ⟨a, rs, rfl, hR, k⟩ := h
    obtain ⟨ps, ha, hP⟩ := id hR
    refine ⟨_, (pss_cons (ps_if (pt_not (pt_val (pe_callB call_isi (by rfl) T.b_isinstance bt_isinstance (pa_cons (pv 0) (pa_cons (pe_bty (by rfl) T.b_list bt_list) pa_nil))))) (pss_one (ps_ret pe_bl)) pss_nil)
      (pss_cons (ps_for PassesOwn.never rfl (pi_list (pv 0)) (pg_name (i := 1) sc__law_are_rows.nd rfl (Or.inl rfl))
        (pss_cons (ps_if (PW.pt (pw_or (pt_not (pt_val (pe_callB call_isi (by rfl) T.b_isinstance bt_isinstance (pa_cons (pv 1) (pa_cons (pe_bty (by rfl) T.b_tuple bt_tuple) pa_nil))))) (pw_or (pt_cmpR op_lt (pe_callB call_len_seq0 (by rfl) T.b_len bt_len (pa_cons (pv 1) pa_nil)) pe_int (nomark _)) (pw_or1 (pt_cmpR op_gt (pe_callB call_len_seq0 (by rfl) T.b_len bt_len (pa_cons (pv 1) pa_nil)) pe_int (nomark _)))))) (pss_one (ps_ret pe_bl)) pss_nil)
      (pss_cons (ps_if (pt_not (pt_val (pe_callB call_isi (by rfl) T.b_isinstance bt_isinstance (pa_cons (pe_ix ix_tup0 (pv 1) pe_int (fun _ _ => rfl)) (pa_cons (pe_bty (by rfl) T.b_str bt_str) pa_nil))))) (pss_one (ps_ret pe_bl)) pss_nil)
      (pss_one (ps_if (PW.pt (pw_and (pt_cmpR op_eq (pe_callB call_len_seq0 (by rfl) T.b_len bt_len (pa_cons (pv 1) pa_nil)) pe_int (nomark _)) (pw_and (pt_not (pt_val (pe_callB call_isi (by rfl) T.b_isinstance bt_isinstance (pa_cons (pe_ix ix_tup0 (pv 1) pe_int (fun _ _ => rfl)) (pa_cons (pe_bty (by rfl) T.b_str bt_str) pa_nil))))) (pw_and1 (pt_not (pt_val (pe_has h__law_whole hr rfl (pa_cons (pe_ix ix_tup0 (pv 1) pe_int (fun _ _ => rfl)) pa_nil)))))))) (pss_one (ps_ret pe_bl)) pss_nil)))))
      (pss_one (ps_ret pe_bl)))), ?_⟩
    refine ⟨_, rfl, _, _, _, _, rfl, .lst ha, kit_ll K, _, rfl, iteF' rfl ?_⟩
    refine ⟨_, rfl, a, rfl, ⟨_, SqL.of ha⟩, for_list (K := K) (a := a) (xs := ps.map V.ref) (fun i σ H2 => ∃ v1, σ = [some (.ref a), v1] ∧ Same H H2) ⟨none, rfl, Same.refl H⟩ (fun i σ H2 _ ⟨_, _, s2⟩ => s2.seq (SqL.of ha)) ?_ (fun σ H2 ⟨_, _, s2⟩ => k H2 s2)⟩
    rintro i y σ H2 hi ⟨v1, rfl, s2⟩
    rw [List.getElem?_map] at hi
    cases e : ps[i]? with
    | none => rw [e] at hi; cases hi
    | some q =>
      rw [e] at hi
      cases hi
      obtain ⟨r, _, hq⟩ := Paired.at1 hP e
      have hq2 := s2 _ _ hq
      refine ⟨_, rfl, _, _, _, _, rfl, .tup hq2, kit_tt K, _, rfl, iteF' rfl ?_⟩
      have l1 : 1 ≤ r.tv.length := by cases r <;> simp [Rw.tv]
      have l2 := tv_len r
      refine ⟨_, rfl, q, _, rfl, .inr (SqT.of hq2), _, _, rfl, rfl, _, rfl, iteF' (decide_eq_false (by omega)) ?_⟩
      refine ⟨_, rfl, q, _, rfl, .inr (SqT.of hq2), _, _, rfl, rfl, _, rfl, iteF' (decide_eq_false (by omega)) ?_⟩
      refine ⟨_, rfl, q, _, 0, _, rfl, rfl, SqT.of hq2, atI_nat (j := 0) (tv_word r), _, _, _, _, rfl, .str _, kit_ss K, _, rfl, iteF' rfl ?_⟩
      refine ⟨_, rfl, q, _, rfl, .inr (SqT.of hq2), rfl, _, rfl, ?_⟩
      rw [dV]
      cases r with
      | tell => exact iteF' rfl (iteF ⟨_, rfl, s2⟩)
      | halt => exact iteF' rfl (iteF ⟨_, rfl, s2⟩)
      | grow n => exact iteT' rfl ⟨_, rfl, q, _, 1, _, rfl, rfl, SqT.of hq2, atI_nat (j := 1) rfl, _, _, _, _, rfl, .int _, kit_is K, _, rfl, iteT' rfl ⟨_, rfl, q, _, 1, _, rfl, rfl, SqT.of hq2, atI_nat (j := 1) rfl, n, rfl, fun H3 s3 => ⟨_, rfl, iteF' rfl ⟨_, rfl, s2.trans s3⟩⟩⟩⟩
      | mark x => exact iteT' rfl ⟨_, rfl, q, _, 1, _, rfl, rfl, SqT.of hq2, atI_nat (j := 1) rfl, _, _, _, _, rfl, .str _, kit_ss K, _, rfl, iteF' rfl (iteF ⟨_, rfl, s2⟩)⟩
      | jump x => exact iteT' rfl ⟨_, rfl, q, _, 1, _, rfl, rfl, SqT.of hq2, atI_nat (j := 1) rfl, _, _, _, _, rfl, .str _, kit_ss K, _, rfl, iteF' rfl (iteF ⟨_, rfl, s2⟩)⟩
      | whn x => exact iteT' rfl ⟨_, rfl, q, _, 1, _, rfl, rfl, SqT.of hq2, atI_nat (j := 1) rfl, _, _, _, _, rfl, .str _, kit_ss K, _, rfl, iteF' rfl (iteF ⟨_, rfl, s2⟩)⟩
end
end SC

set_option maxHeartbeats 1000000
namespace SC
open PySem PySem.Spec PyProof.Rows L2
noncomputable def Rw.line : Rw → Str
  | .mark x => x ++ ":"
  | .grow n => ("grow" ++ " ") ++ (toString n : Str)
  | .tell => "tell"
  | .jump x => ("jump" ++ " ") ++ x
  | .whn x => ("when" ++ " ") ++ x
  | .halt => "halt"
theorem big {n : Nat} (h : n ≤ 3000) : n ≤ sizeLine := Nat.le_trans h (by decide)
theorem colon1 : (":" : Str).length = 1 := by decide +kernel
theorem num_log {n : Int} (h1 : -(10 ^ 30) ≤ n) (h2 : n ≤ 10 ^ 30) : n.natAbs.log2 < 1920 := by
  have h : n.natAbs < 2 ^ 100 := by
    have : n.natAbs ≤ 10 ^ 30 := by omega
    exact Nat.lt_of_le_of_lt this (by decide)
  by_cases z : n.natAbs = 0
  · rw [z]; decide
  · exact Nat.lt_of_lt_of_le ((Nat.log2_lt z).mpr h) (by decide)
theorem ts_len {n : Int} (h1 : -(10 ^ 30) ≤ n) (h2 : n ≤ 10 ^ 30) : (Str.ofString (toString n)).length ≤ 40 := by
  rcases Int.le_total 0 n with h | h
  · exact Nat.le_trans (toString_length_le h (k := 31) (by decide) (by omega)) (by decide)
  · by_cases z : n = 0
    · subst z
      exact Nat.le_trans (toString_length_le (v := 0) (Int.le_refl _) (k := 1) (by decide) (by decide)) (by decide)
    · obtain ⟨m, rfl⟩ : ∃ m : Nat, n = Int.negSucc m := ⟨(-n).toNat - 1, by omega⟩
      have e : toString (Int.negSucc m) = "-" ++ toString ((m + 1 : Nat) : Int) := rfl
      have l := toString_length_le (v := ((m + 1 : Nat) : Int)) (by omega) (k := 31) (by decide) (by omega)
      rw [e, PySem.ofString_length, String.length_append]
      rw [PySem.ofString_length] at l
      have : ("-" : String).length = 1 := rfl
      omega
noncomputable def RwOk (r : Rw) : Prop := (∀ x, nm r = some x → Nice x) ∧ ∀ n, r = .grow n → -(10 ^ 30) ≤ n ∧ n ≤ 10 ^ 30
end SC

set_option maxHeartbeats 1000000
/-! TEXTS AS LISTS OF THEIR SIGNS -/
namespace SC
open PySem PySem.Spec PyProof.Rows L2
noncomputable abbrev Str.L (x : Str) : List Nat := x.cps.toList
theorem L_ext {x y : Str} (h : Str.L x = Str.L y) : x = y := by
  obtain ⟨a⟩ := x
  obtain ⟨b⟩ := y
  have : a = b := Array.toList_inj.mp h
  rw [this]
theorem L_app (x y : Str) : Str.L (x ++ y) = Str.L x ++ Str.L y := by
  show (x.cps ++ y.cps).toList = _
  rw [Array.toList_append]
theorem L_len (x : Str) : x.length = (Str.L x).length := by show x.cps.size = x.cps.toList.length; simp
theorem occ_mem (j : Str) (c : Nat) : occ j c = decide (c ∈ Str.L j) := StrLaws.found_one j c
theorem lett_rng : ∀ c ∈ Str.L LETT, 97 ≤ c ∧ c ≤ 122 := by decide +kernel
theorem figs_rng : ∀ c ∈ Str.L FIGS, 48 ≤ c ∧ c ≤ 57 := by decide +kernel
theorem figs_mem : ∀ d : Fin 10, (48 + d.val) ∈ Str.L FIGS := by decide +kernel
theorem L_get (x : Str) {i : Nat} (h : i < x.cps.size) : x.cps.getD i 0 = (Str.L x)[i]'(by simpa using h) := by simp [Array.getD, h]
/-- the signs of a name -/
theorem nice_signs {x : Str} (h : niceB x = true) : Str.L x ≠ [] ∧ ∀ c ∈ Str.L x, (97 ≤ c ∧ c ≤ 122) ∨ (48 ≤ c ∧ c ≤ 57) := by
  unfold niceB at h
  rw [Bool.and_eq_true, Bool.and_eq_true] at h
  obtain ⟨⟨h1, _⟩, h3⟩ := h
  have hz : x.cps.size ≠ 0 := by simpa using h1
  refine ⟨fun z => hz (by have := congrArg List.length z; simpa using this), fun c hc => ?_⟩
  obtain ⟨i, hi, e⟩ := List.mem_iff_getElem.mp hc
  have hi' : i < x.cps.size := by simpa using hi
  have := List.all_eq_true.mp h3 i (List.mem_range.mpr hi')
  rw [L_get x hi', e, occ_mem, occ_mem, Bool.or_eq_true] at this
  rcases this with z | z
  · exact .inl (lett_rng c (of_decide_eq_true z))
  · exact .inr (figs_rng c (of_decide_eq_true z))
/-! ### the ends of a text -/
theorem ends_colon (x : Str) : Txt.endswith x ":" = decide ((Str.L x).getLast? = some 58) := by
  unfold Txt.endswith
  rw [StrLaws.subAt_eq, colon1, L_len x]
  have e : Str.L ":" = [58] := by decide +kernel
  show (decide (0 + 1 ≤ (Str.L x).length) && (((Str.L x).drop ((Str.L x).length - 1)).take 1 == Str.L ":")) = _
  rw [e]
  generalize Str.L x = l
  rcases List.eq_nil_or_concat l with rfl | ⟨m, c, rfl⟩
  · rfl
  · rw [List.concat_eq_append, List.length_append, List.length_singleton, Nat.add_sub_cancel, List.drop_left', List.getLast?_concat]
    · rw [decide_eq_true (by omega), Bool.true_and]
      show ([c] == [58]) = decide (some c = some 58)
      by_cases z : c = 58
      · subst z; rfl
      · rw [decide_eq_false (fun w => z (by injection w))]
        exact beq_eq_false_iff_ne.mpr fun w => z (by injection w)
    · rfl
theorem starts_minus (x : Str) : Txt.startswith x "-" = decide ((Str.L x).head? = some 45) := by
  unfold Txt.startswith
  have e : Str.L "-" = [45] := by decide +kernel
  have l1 : ("-" : Str).length = 1 := by decide +kernel
  rw [StrLaws.subAt_eq, l1, L_len x]
  show (decide (0 + 1 ≤ (Str.L x).length) && (((Str.L x).drop 0).take 1 == Str.L "-")) = _
  rw [e]
  generalize Str.L x = l
  cases l with
  | nil => rfl
  | cons c m =>
    show (decide (0 + 1 ≤ (c :: m).length) && ([c] == [45])) = decide (some c = some 45)
    rw [decide_eq_true (by simp), Bool.true_and]
    by_cases z : c = 45
    · subst z; rfl
    · rw [decide_eq_false (fun w => z (by injection w))]
      exact beq_eq_false_iff_ne.mpr fun w => z (by injection w)
theorem ix_last (n : Nat) : Builtin.Str.strSliceIndices none (some (-1)) 1 n = List.range (n - 1) := by
  unfold Builtin.Str.strSliceIndices sliceRange
  simp only [show (1 : Int) > 0 by decide, if_true, show (-1 : Int) < 0 by decide]
  have e : (if (0 : Int) < max 0 (min (-1 + (n : Int)) n) then (max 0 (min (-1 + (n : Int)) n) - 0 + 1 - 1) / 1 else 0).toNat = n - 1 := by
    rw [Int.ediv_one]
    split <;> omega
  rw [e]
  have : (fun k : Nat => ((0 : Int) + 1 * (k : Int)).toNat) = _root_.id := by funext k; show _ = k; omega
  rw [this, List.map_id]
theorem ix_first (n : Nat) : Builtin.Str.strSliceIndices (some 1) none 1 n = (List.range (n - 1)).map fun k => 1 + k := by
  unfold Builtin.Str.strSliceIndices sliceRange
  simp only [show (1 : Int) > 0 by decide, if_true, show ¬ (1 : Int) < 0 by decide, if_false]
  have e : (if max 0 (min 1 (n : Int)) < (n : Int) then ((n : Int) - max 0 (min 1 (n : Int)) + 1 - 1) / 1 else 0).toNat = n - 1 := by
    rw [Int.ediv_one]
    split <;> omega
  rw [e]
  apply List.map_congr_left
  intro k hk
  have := List.mem_range.mp hk
  omega
theorem pick_range (l : List Nat) (a k : Nat) (h : a + k ≤ l.length) : ((List.range k).map fun i => a + i).filterMap (fun i => l[i]?) = (l.drop a).take k := by
  induction k with
  | zero => simp
  | succ k ih =>
    rw [List.range_succ, List.map_append, List.filterMap_append, ih (by omega), List.take_add_one]
    congr 1
    rw [List.getElem?_drop]
    have : a + k < l.length := by omega
    simp [List.getElem?_eq_getElem this]
theorem cut_last (x : Str) : (Txt.slice x none (some (-1))).cps.toList = x.cps.toList.dropLast := by
  unfold Txt.slice
  rw [ix_last]
  have hl : x.length = x.cps.toList.length := by show x.cps.size = x.cps.toList.length; simp
  by_cases h0 : x.cps.toList.length = 0
  · have : x.cps.toList = [] := List.length_eq_zero_iff.mp h0
    rw [if_pos (by rw [List.length_range, hl, h0]; rfl), this]
    rfl
  · rw [if_neg (by rw [List.length_range, hl]; simp only [beq_self_eq_true, Bool.true_and, beq_iff_eq]; omega)]
    have e : (fun i : Nat => x.cps[i]?) = fun i : Nat => x.cps.toList[i]? := by funext i; simp
    have p := pick_range x.cps.toList 0 (x.length - 1) (by omega)
    simp only [Nat.zero_add, List.map_id', List.drop_zero] at p
    show (List.filterMap (fun i => x.cps[i]?) (List.range (x.length - 1))) = _
    rw [e, p, hl, List.dropLast_eq_take]
theorem cut_first (x : Str) : (Txt.slice x (some 1) none).cps.toList = x.cps.toList.drop 1 := by
  unfold Txt.slice
  rw [ix_first]
  have hl : x.length = x.cps.toList.length := by show x.cps.size = x.cps.toList.length; simp
  by_cases h0 : x.cps.toList.length = 0
  · have : x.cps.toList = [] := List.length_eq_zero_iff.mp h0
    rw [if_pos (by rw [List.length_map, List.length_range, hl, h0]; rfl), this]
    rfl
  · rw [if_neg (by rw [List.length_map, List.length_range, hl]; simp only [beq_self_eq_true, Bool.true_and, beq_iff_eq]; omega)]
    have e : (fun i : Nat => x.cps[i]?) = fun i : Nat => x.cps.toList[i]? := by funext i; simp
    have p := pick_range x.cps.toList 1 (x.length - 1) (by omega)
    show (List.filterMap (fun i => x.cps[i]?) ((List.range (x.length - 1)).map fun k => 1 + k)) = _
    rw [e, p, hl, List.take_of_length_le (by rw [List.length_drop]; exact Nat.le_refl _)]
theorem cnt_zero {c : Nat} : ∀ {l : List Nat}, c ∉ l → cnt c l = 0
  | [], _ => rfl
  | n :: r, h => by
    rw [cnt_cons, if_neg (fun z => h (by rw [z]; exact List.mem_cons_self)), cnt_zero fun z => h (List.mem_cons_of_mem _ z)]
    rfl
/-! digits -/
noncomputable def hd (n : Nat) : List Nat := (Nat.toDigits 10 n).map Char.toNat
theorem dchar : ∀ d : Fin 10, (Nat.digitChar d.val).toNat = 48 + d.val := by decide
theorem hd_small {n : Nat} (h : n < 10) : hd n = [48 + n] := by
  unfold hd
  rw [Nat.toDigits_of_lt_base h]
  show [(Nat.digitChar n).toNat] = _
  rw [dchar ⟨n, h⟩]
theorem hd_big {n : Nat} (h : 10 ≤ n) : hd n = hd (n / 10) ++ [48 + n % 10] := by
  unfold hd
  rw [Nat.toDigits_of_base_le (by decide) h, List.map_append]
  show _ ++ [(Nat.digitChar (n % 10)).toNat] = _
  rw [dchar ⟨n % 10, Nat.mod_lt _ (by decide)⟩]
theorem L_num (n : Nat) : (Str.ofString (toString (n : Int))).cps.toList = hd n := by
  rw [Str.ofString_eq_toList]
  show ((toString (n : Int)).toList.map Char.toNat) = _
  have : toString (n : Int) = n.repr := rfl
  rw [this, Nat.repr_eq_ofList_toDigits, String.toList_ofList]
  rfl
theorem L_neg (m : Nat) : (Str.ofString (toString (Int.negSucc m))).cps.toList = 45 :: hd (m + 1) := by
  rw [Str.ofString_eq_toList]
  show ((toString (Int.negSucc m)).toList.map Char.toNat) = _
  have : toString (Int.negSucc m) = "-" ++ (m + 1).repr := rfl
  have h2 : ((m + 1).repr).toList = Nat.toDigits 10 (m + 1) := by rw [Nat.repr_eq_ofList_toDigits, String.toList_ofList]
  rw [this, String.toList_append, List.map_append, h2]
  rfl
theorem hd_rng : ∀ n, ∀ c ∈ hd n, 48 ≤ c ∧ c ≤ 57 := by
  intro n
  induction n using Nat.strongRecOn with
  | ind n ih =>
    intro c hc
    by_cases h : n < 10
    · rw [hd_small h] at hc
      have := List.mem_singleton.mp hc
      omega
    · rw [hd_big (by omega)] at hc
      rcases List.mem_append.mp hc with z | z
      · exact ih (n / 10) (by omega) c z
      · have := List.mem_singleton.mp z
        omega
theorem hd_ne (n : Nat) : hd n ≠ [] := by
  by_cases h : n < 10
  · rw [hd_small h]; simp
  · rw [hd_big (by omega)]; simp
theorem hd_first : ∀ n, 0 < n → (hd n).head? ≠ some 48 := by
  intro n
  induction n using Nat.strongRecOn with
  | ind n ih =>
    intro h0
    by_cases h : n < 10
    · rw [hd_small h]
      intro z
      injection z with z
      omega
    · rw [hd_big (by omega)]
      cases e : hd (n / 10) with
      | nil => exact absurd e (hd_ne _)
      | cons c r =>
        have := ih (n / 10) (by omega) (by omega)
        rw [e] at this
        exact this
theorem hd_val : ∀ n, (hd n).foldl (fun a c => a * 10 + (c - 48)) 0 = n := by
  intro n
  induction n using Nat.strongRecOn with
  | ind n ih =>
    by_cases h : n < 10
    · rw [hd_small h]; show 0 * 10 + (48 + n - 48) = n; omega
    · rw [hd_big (by omega), List.foldl_append, ih (n / 10) (by omega)]
      show n / 10 * 10 + (48 + n % 10 - 48) = n
      omega
/-! ### split at a blank -/
theorem app_sep {p q a b : List Nat} (h : p ++ 32 :: q = a ++ 32 :: b) (hp : 32 ∉ p) (ha : 32 ∉ a) : p = a ∧ q = b := by
  induction p generalizing a with
  | nil =>
    cases a with
    | nil => exact ⟨rfl, by injection h⟩
    | cons c a =>
      have : (32 : Nat) = c := by injection h
      exact absurd (by rw [this]; exact List.mem_cons_self) ha
  | cons c p ih =>
    cases a with
    | nil =>
      have : c = 32 := by injection h
      exact absurd (by rw [this]; exact List.mem_cons_self) hp
    | cons d a =>
      have h1 : c = d := by injection h
      have h2 : p ++ 32 :: q = a ++ 32 :: b := by injection h
      obtain ⟨e1, e2⟩ := ih h2 (fun z => hp (List.mem_cons_of_mem _ z)) (fun z => ha (List.mem_cons_of_mem _ z))
      exact ⟨by rw [h1, e1], e2⟩
theorem blank_is : (" " : Str) = ⟨#[32]⟩ := by decide +kernel
theorem split_two {a b : Str} (ha : 32 ∉ Str.L a) (hb : 32 ∉ Str.L b) : Txt.split ((a ++ " ") ++ b) " " = [a, b] := by
  have bl : Str.L " " = [32] := by decide +kernel
  have hz : Str.L ((a ++ " ") ++ b) = Str.L a ++ 32 :: Str.L b := by rw [L_app, L_app, bl, List.append_assoc]; rfl
  have len : ((Txt.split ((a ++ " ") ++ b) ⟨#[32]⟩).length : Int) = 1 + cnt 32 (Str.L ((a ++ " ") ++ b)) := split_len ((a ++ " ") ++ b) 32
  rw [← blank_is] at len
  have jn := StrLaws.join_split ((a ++ " ") ++ b) " "
  have fr := StrLaws.split_free ((a ++ " ") ++ b) 32
  rw [← blank_is] at fr
  rw [hz, cnt_append, cnt_zero ha, cnt_cons, if_pos rfl, cnt_zero hb] at len
  generalize Txt.split ((a ++ " ") ++ b) " " = ps at len jn fr
  match ps, len, jn, fr with
  | [p, q], _, jn, fr =>
    have jn : (p ++ " ") ++ q = (a ++ " ") ++ b := jn
    have jl := congrArg Str.L jn
    rw [hz, L_app, L_app, bl, List.append_assoc] at jl
    have fp := fr p List.mem_cons_self
    obtain ⟨e1, e2⟩ := app_sep jl fp ha
    rw [L_ext e1, L_ext e2]
  | [], len, _, _ => simp at len
  | [_], len, _, _ => simp at len
  | _ :: _ :: _ :: r, len, _, _ => simp at len; omega
end SC

set_option maxHeartbeats 2000000
/-! THE DEFS OF NOTES: rows written -/
namespace L2
open PySem PySem.Spec PyProof.Rows
theorem for_str {z : Str} {g : TG} {tb : TS} {D : Ends} {σ : St} {H : Hp} (Pv : Nat → St → Hp → Prop) (h0 : Pv 0 σ H)
    (hs : ∀ i c σ H, z.cps[i]? = some c → Pv i σ H → g (.str ⟨#[c]⟩) σ H fun σ2 H2 => tb { D with nx := Pv (i + 1), ct := Pv (i + 1), bk := D.nx } σ2 H2) (hd : ∀ σ H, Pv z.cps.size σ H → D.nx σ H) :
    ∃ W : Nat → Nat → St → Hp → Prop, (∃ m, W 0 m σ H) ∧ ∀ i m σ H, W i m σ H →
      ((Its z).stop i H ∧ D.nx σ H) ∨ ((Its z).go i H ∧ ∃ N : St → Hp → Prop, (∀ σ' H', N σ' H' → ∃ m', m' < m ∧ W (i + 1) m' σ' H') ∧ ∀ x H', (Its z).yld i H x H' → g x σ H' fun σ2 H2 => tb { D with nx := N, ct := N, bk := D.nx } σ2 H2) := by
  refine ⟨fun i m σ H => m = z.cps.size - i ∧ i ≤ z.cps.size ∧ Pv i σ H, ⟨z.cps.size, by simp, Nat.zero_le _, h0⟩, ?_⟩
  rintro i m σ H ⟨rfl, hi, p⟩
  by_cases hlt : i < z.cps.size
  · refine .inr ⟨hlt, Pv (i + 1), fun σ' H' p' => ⟨z.cps.size - (i + 1), by omega, rfl, hlt, p'⟩, fun x H' y => ?_⟩
    obtain ⟨e, c, hc, y⟩ := y
    subst e y
    exact hs i c σ _ hc p
  · have e : i = z.cps.size := by omega
    subst e
    exact .inl ⟨Nat.le_refl _, hd σ H p⟩
/-- a comprehension over a list that lays new things -/
theorem comp_list1 {K : PySem.W.Frag} {a : Addr} {xs : List V} {te : TE} {cs : St} {H1 : Hp} {Q : VK} (hsz : xs.length ≤ sizeLine) (ha : SqL K H1 a xs) (Pv : Nat → List V → Hp → Prop) (hSame : ∀ i ys H, Pv i ys H → Same H1 H)
    (h0 : ∀ H, Same H1 H → Pv 0 [] H) (hl : ∀ i ys zs H l o, H1 l = none → H l = some (.lst zs) → Pv i ys H → Pv i ys (upd H l (.lst o))) (hlen : ∀ i ys H, Pv i ys H → ys.length = i)
    (hs : ∀ i y ys H, xs[i]? = some y → Pv i ys H → ∀ Q : VK, (∀ z H5, Same H H5 → Pv (i + 1) (ys ++ [z]) H5 → Q z H5) → te (some y :: cs) H Q)
    (hQ : ∀ l ys H', H1 l = none → Pv xs.length ys H' → H' l = some (.lst ys) → Q (.ref l) H') :
    CompG (Itl K a) tTrue te cs H1 Q := by
  intro l hl1
  refine ⟨fun i m ys H2 => m = xs.length - i ∧ i ≤ xs.length ∧ Pv i ys H2 ∧ H2 l = some (.lst ys), ⟨xs.length, rfl, Nat.zero_le _, h0 _ ((Same.refl H1).upd hl1), upd_same⟩, ?_⟩
  rintro i m ys H2 ⟨rfl, hi, p, hl2⟩
  refine ⟨hl2, ?_⟩
  have s2 := hSame i ys H2 p
  have hq : SqL K H2 a xs := s2.seq ha
  by_cases hlt : i < xs.length
  · refine .inr ⟨⟨xs, xs[i], hq, by simp [hlt]⟩, by rw [hlen i ys H2 p]; omega, fun y H3 hy => ?_⟩
    obtain ⟨rfl, hy⟩ := hy
    unfold tTrue
    dsimp only
    rw [if_pos rfl]
    exact hs i y ys H3 (hy xs hq) p _ fun z H5 s5 p5 => ⟨s5 _ _ hl2, xs.length - (i + 1), by omega, rfl, hlt, hl _ _ _ _ l _ hl1 (s5 _ _ hl2) p5, upd_same⟩
  · have e : i = xs.length := by omega
    subst e
    exact .inl ⟨⟨xs, hq, Nat.le_refl _⟩, hQ l ys H2 hl1 p hl2⟩
end L2
namespace SC
open PySem PySem.Spec PyProof.Rows L2
noncomputable def hd' (m : Nat) : List Nat := if m = 0 then [] else hd m
section
variable {P : Program} {w : World} {K : PySem.W.Frag} {mg : Str → Option Value} {base : Heap}
end
end SC

set_option maxHeartbeats 2000000
/-! THE DEFS OF NOTES: lines read -/
namespace SC
open PySem PySem.Spec PyProof.Rows L2
noncomputable abbrev num (n : Int) : Str := Str.ofString (toString n)
theorem num_L (n : Int) : Str.L (num n) = if n < 0 then 45 :: hd n.natAbs else hd n.natAbs := by
  by_cases h : n < 0
  · obtain ⟨m, rfl⟩ : ∃ m : Nat, n = Int.negSucc m := ⟨(-n).toNat - 1, by omega⟩
    rw [if_pos h]
    exact L_neg m
  · obtain ⟨m, rfl⟩ : ∃ m : Nat, n = (m : Nat) := ⟨n.toNat, by omega⟩
    rw [if_neg h]
    exact L_num m
theorem hd_head (n : Nat) : ∃ c r, hd n = c :: r ∧ 48 ≤ c ∧ c ≤ 57 := by
  cases e : hd n with
  | nil => exact absurd e (hd_ne n)
  | cons c r => exact ⟨c, r, rfl, hd_rng n c (by rw [e]; exact List.mem_cons_self)⟩
noncomputable def wm (x : Str) : Str := bif Txt.startswith x "-" then Txt.slice x (some 1) none else x
theorem num_minus (n : Int) : Txt.startswith (num n) "-" = decide (n < 0) := by
  rw [starts_minus, num_L]
  by_cases h : n < 0
  · rw [if_pos h, decide_eq_true h]; rfl
  · rw [if_neg h, decide_eq_false h]
    obtain ⟨c, r, e, c1, c2⟩ := hd_head n.natAbs
    rw [e]
    exact decide_eq_false fun z => by injection z with z; omega
theorem wm_num (n : Int) : Str.L (wm (num n)) = hd n.natAbs := by
  unfold wm
  rw [num_minus]
  by_cases h : n < 0
  · rw [decide_eq_true h]
    show Str.L (Txt.slice (num n) (some 1) none) = _
    have e : Str.L (Txt.slice (num n) (some 1) none) = (Str.L (num n)).drop 1 := cut_first (num n)
    rw [e, num_L, if_pos h]
    rfl
  · rw [decide_eq_false h]
    show Str.L (num n) = _
    rw [num_L, if_neg h]
theorem wm_len {x : Str} (h : x.length ≤ 1000) : (wm x).length ≤ 1000 := by
  unfold wm
  cases Txt.startswith x "-" with
  | true => exact Nat.le_trans (Txt.slice_le x _ _) h
  | false => exact h
section
variable {P : Program} {w : World} {K : PySem.W.Frag} {mg : Str → Option Value} {base : Heap}
noncomputable abbrev s_without_minus : Stmt := top 14
theorem sc_without_minus : FnScope ["text"] ["text"] (defScope s_without_minus) := ⟨rfl, rfl, rfl, by decide +kernel, rfl, by decide +kernel, by decide +kernel⟩
noncomputable def spWm : Sp := fun vs H Q _ => Ex1_3 (fun (x : Str) => vs = [.str x]) (fun (x : Str) => x.length ≤ 1000) (fun (x : Str) => ∀ H', Same H H' → Q (.str (wm x)) H')
theorem ok_without_minus (D : Def K mg "without_minus" s_without_minus ["text"]) (T : Tx P w K mg) : Has P w K mg base 1 "without_minus" ["text"] spWm := by
  refine D.has sc_without_minus (fun vs H Q E h => ?_) (fun f cdv A outer s H vs Q E hr h => ?_)
  · obtain ⟨x, rfl, _⟩ := h
    rfl
  · obtain ⟨x, rfl, hx, k⟩ := h
    refine ⟨_, (pss_one (ps_ret (pe_ifExp (pt_val (pe_bmF PySem.F.plainAttrs_str PySem.F.slot_str_startswith PySem.F.type_str_startswith mt_starts (pv 0) (pa_con pe_str pa_nil))) (pe_slice sl_str (pv 0) (po_some pe_int) po_none) (pv 0)))), ?_⟩
    have q := k H (Same.refl H)
    unfold wm at q
    refine ⟨_, rfl, rfl, x, "-", rfl, rfl, _, rfl, ?_⟩
    cases e : Txt.startswith x "-" with
    | true =>
      rw [e] at q
      exact iteT ⟨_, rfl, 1, rfl, x, rfl, by omega, q⟩
    | false =>
      rw [e] at q
      exact iteF ⟨_, rfl, q⟩
noncomputable abbrev s_is_written_number : Stmt := top 15
theorem sc_is_written_number : FnScope ["text", "figures"] ["text"] (defScope s_is_written_number) := ⟨rfl, rfl, rfl, by decide +kernel, rfl, by decide +kernel, by decide +kernel⟩
noncomputable def spIsNum : Sp := fun vs H Q _ => Ex1_4 (fun (n : Int) => vs = [.str (num n)]) (fun (n : Int) => -(10 ^ 30) ≤ n) (fun (n : Int) => n ≤ 10 ^ 30) (fun (n : Int) => ∀ H', Same H H' → Q (.bl true) H')
theorem ok_is_written_number (D : Def K mg "is_written_number" s_is_written_number ["text"]) (T : Tx P w K mg) (h_without_minus : Has P w K mg base 1 "without_minus" ["text"] spWm) : Has P w K mg base 2 "is_written_number" ["text"] spIsNum := by
  refine D.has sc_is_written_number (fun vs H Q E h => ?_) (fun f cdv A outer s H vs Q E hr h => ?_)
  · obtain ⟨n, rfl, _⟩ := h
    rfl
  · obtain ⟨n, rfl, n1, n2, k⟩ := h
    have nl : (num n).length ≤ 40 := ts_len n1 n2
    refine ⟨_, (pss_cons (ps_if (pt_cmpR op_eq (pv 0) pe_str (nomark _)) (pss_one (ps_ret pe_bl)) pss_nil)
      (pss_cons (ps_set (i := 1) sc_is_written_number.nd rfl (Or.inl rfl) (pe_has h_without_minus hr rfl (pa_cons (pv 0) pa_nil)))
      (pss_cons (ps_if (PW.pt (pw_or (pt_cmpR op_eq (pv 1) pe_str (nomark _)) (pw_or1 (pt_cmpR op_eq (pe_ix ix_str (pv 1) pe_int (fun _ _ => rfl)) pe_str (nomark _))))) (pss_one (ps_ret pe_bl)) pss_nil)
      (pss_one (ps_ret (pe_callB (call_all_bools rfl) (by rfl) T.b_all bt_all (pa_cons (pe_comp rfl (x := "sign") (xs := []) (caps := []) (osc := defScope s_is_written_number) ⟨rfl, rfl, by decide +kernel, by decide +kernel, rfl, by decide +kernel, by decide +kernel, by decide +kernel, .nil⟩ (pi_str (pv 1)) (fun _ _ _ => (pe_cmpR op_in_str (pv 0) (pe_gS rfl T.c_FIGURES) (by with_unfolding_all rfl))) (fun _ _ _ => pifs_nil)) pa_nil))))))), ?_⟩
    refine ⟨_, rfl, rfl, _, rfl, ite2 (fun _ => k H (Same.refl H)) (fun h0 => ?_)⟩
    have hn0 : n ≠ 0 := fun z => h0 (by subst z; exact decide_eq_true (by decide +kernel))
    refine ⟨_, rfl, num n, rfl, by omega, fun H1 s1 => ?_⟩
    have wl := wm_len (x := num n) (by omega)
    have wL := wm_num n
    have fst := hd_first n.natAbs (by omega)
    have rng := hd_rng n.natAbs
    obtain ⟨c, r, ec, c1, c2⟩ := hd_head n.natAbs
    generalize wm (num n) = z at wl wL
    have ez : z ≠ "" := fun e => by rw [e] at wL; rw [ec] at wL; cases wL
    refine ⟨_, rfl, rfl, _, rfl, iteF' (decide_eq_false fun e => ez (by injection e)) ?_⟩
    have hat : atI z.cps.toList (0 : Int) = some c := by
      refine atI_nat (j := 0) ?_
      show (Str.L z)[0]? = _
      rw [wL, ec]
      rfl
    have zc : (⟨#[c]⟩ : Str) ≠ "0" := fun e => by
      have := congrArg Str.L e
      have e0 : Str.L "0" = [48] := by decide +kernel
      rw [e0] at this
      have : c = 48 := by injection this
      exact fst (by rw [ec, this]; rfl)
    refine ⟨_, rfl, z, 0, c, rfl, rfl, big (by omega), hat, rfl, _, rfl, iteF' (decide_eq_false fun e => zc (by injection e)) ?_⟩
    refine ⟨_, rfl, z, rfl, comp_pure (n := z.cps.size) (item := fun i => V.str ⟨#[z.cps.getD i 0]⟩) (p := fun _ => true) (f := fun i => V.bl true)
      (s1000 wl) (fun i H2 _ h => h) (fun H2 _ => Nat.le_refl _) (fun i H2 y H3 _ hi hy => ?_) (fun i H2 _ _ Q2 k2 => k2 H2 (Same.refl H2)) (fun i H2 hi _ _ Q2 k2 => ?_) (fun l H2 hl s2 hl2 => ?_)⟩
    · obtain ⟨e1, c, hc, e2⟩ := hy
      refine ⟨?_, e1⟩
      rw [e2]
      have : z.cps.getD i 0 = c := by
        have hi : i < z.cps.size := hi
        rw [Array.getElem?_eq_getElem hi] at hc
        simp [Array.getD, hi, Option.some.inj hc]
      rw [this]
    · have hi' : i < z.cps.size := hi
      have hm : z.cps.getD i 0 ∈ Str.L z := by rw [L_get z hi']; exact List.getElem_mem _
      rw [wL] at hm
      obtain ⟨d1, d2⟩ := rng _ hm
      refine ⟨_, rfl, _, _, rfl, rfl, ?_⟩
      show Q2 (.bl (occ FIGS (z.cps.getD i 0))) H2
      rw [occ_mem]
      obtain ⟨d, hd, ed⟩ : ∃ d, d < 10 ∧ z.cps.getD i 0 = 48 + d := ⟨z.cps.getD i 0 - 48, by omega, by omega⟩
      rw [ed, decide_eq_true (figs_mem ⟨d, hd⟩)]
      exact k2 H2 (Same.refl H2)
    · refine ⟨l, (List.range z.cps.size).map fun _ => true, rfl, SqL.of (by rw [hl2, List.map_map, List.filter_eq_self.mpr (fun _ _ => rfl)]; rfl), ?_⟩
      have : ((List.range z.cps.size).map fun _ => true).all id = true := by rw [List.all_map]; exact List.all_eq_true.mpr fun _ _ => rfl
      rw [this]
      exact k H2 (s1.trans s2)
noncomputable abbrev s_number_of : Stmt := top 16
theorem sc_number_of : FnScope ["text", "size", "sign"] ["text"] (defScope s_number_of) := ⟨rfl, rfl, rfl, by decide +kernel, rfl, by decide +kernel, by decide +kernel⟩
noncomputable def spNum : Sp := fun vs H Q _ => Ex1_4 (fun (n : Int) => vs = [.str (num n)]) (fun (n : Int) => -(10 ^ 30) ≤ n) (fun (n : Int) => n ≤ 10 ^ 30) (fun (n : Int) => ∀ H', Same H H' → Q (.int n) H')
noncomputable def valL (l : List Nat) : Nat := l.foldl (fun a c => a * 10 + (c - 48)) 0
theorem ok_number_of (D : Def K mg "number_of" s_number_of ["text"]) (T : Tx P w K mg) (h_without_minus : Has P w K mg base 1 "without_minus" ["text"] spWm) : Has P w K mg base 2 "number_of" ["text"] spNum := by
  refine D.has sc_number_of (fun vs H Q E h => ?_) (fun f cdv A outer s H vs Q E hr h => ?_)
  · obtain ⟨n, rfl, _⟩ := h
    rfl
  · obtain ⟨n, rfl, n1, n2, k⟩ := h
    have nl : (num n).length ≤ 40 := ts_len n1 n2
    refine ⟨_, (pss_cons (ps_set (i := 1) sc_number_of.nd rfl (Or.inl rfl) pe_int)
      (pss_cons (ps_for PassesOwn.never rfl (pi_str (pe_has h_without_minus hr rfl (pa_cons (pv 0) pa_nil))) (pg_name (i := 2) sc_number_of.nd rfl (Or.inl rfl))
        (pss_one (ps_set (i := 1) sc_number_of.nd rfl (Or.inl rfl) (pe_op op_add (pe_op op_mul (pv 1) pe_int) (pe_callTy call_int_fig (by rfl) T.b_int bt_int (pa_cons (pv 2) pa_nil))))))
      (pss_one (ps_ret (pe_ifExp (pt_val (pe_bmF PySem.F.plainAttrs_str PySem.F.slot_str_startswith PySem.F.type_str_startswith mt_starts (pv 0) (pa_con pe_str pa_nil))) (pe_un un_neg (pv 1)) (pv 1)))))), ?_⟩
    refine ⟨_, rfl, num n, rfl, by omega, fun H1 s1 => ?_⟩
    have wL := wm_num n
    have rng := hd_rng n.natAbs
    have hvl := hd_val n.natAbs
    refine ⟨wm (num n), rfl, for_str (fun i σ H2 => ∃ v2, σ = [some (.str (num n)), some (.int (valL ((Str.L (wm (num n))).take i) : Nat)), v2] ∧ Same H H2) ⟨none, rfl, s1⟩ ?_ ?_⟩
    · rintro i c σ H2 hc ⟨v2, rfl, s2⟩
      have hc' : (Str.L (wm (num n)))[i]? = some c := by simpa using hc
      have hm := List.mem_of_getElem? hc'
      rw [wL] at hm
      obtain ⟨d1, d2⟩ := rng _ hm
      obtain ⟨d, hd, rfl⟩ : ∃ d, d < 10 ∧ c = 48 + d := ⟨c - 48, by omega, by omega⟩
      refine ⟨_, rfl, _, _, rfl, rfl, .inr ⟨by decide, by decide⟩, _, rfl, d, hd, rfl, _, _, rfl, rfl, some (.str ⟨#[48 + d]⟩), ?_, s2⟩
      rw [List.take_add_one, hc']
      unfold valL
      rw [Option.toList_some, List.foldl_append]
      show _ = [some (V.str (num n)), some (V.int (((List.foldl (fun a c => a * 10 + (c - 48)) 0 ((Str.L (wm (num n))).take i)) * 10 + (48 + d - 48) : Nat) : Int)), _]
      rw [show 48 + d - 48 = d by omega]
      push_cast
      rfl
    · rintro σ H2 ⟨v2, rfl, s2⟩
      have ev : valL ((Str.L (wm (num n))).take (wm (num n)).cps.size) = n.natAbs := by
        rw [List.take_of_length_le (by simp), wL]
        exact hvl
      rw [ev]
      refine ⟨_, rfl, rfl, num n, "-", rfl, rfl, _, rfl, ?_⟩
      rw [num_minus]
      have q := k H2 s2
      by_cases h : n < 0
      · rw [decide_eq_true h]
        refine iteT ⟨_, rfl, _, rfl, ?_⟩
        dsimp only
        rw [show -((n.natAbs : Nat) : Int) = n by omega]
        exact q
      · rw [decide_eq_false h]
        refine iteF ⟨_, rfl, ?_⟩
        rw [show ((n.natAbs : Nat) : Int) = n by omega]
        exact q
noncomputable abbrev s_row_of : Stmt := top 17
theorem sc_row_of : FnScope ["line", "parts"] ["line"] (defScope s_row_of) := ⟨rfl, rfl, rfl, by decide +kernel, rfl, by decide +kernel, by decide +kernel⟩
noncomputable def spRowOf : Sp := fun vs H Q _ => Ex1_3 (fun (r : Rw) => vs = [.str r.line]) (fun (r : Rw) => RwOk r) (fun (r : Rw) => ∀ p H', H p = none → Same H H' → H' p = some (.tup r.tv) → Q (.ref p) H')
theorem blank_no {x : Str} (h : niceB x = true) : 32 ∉ Str.L x := fun z => by
  have := (nice_signs h).2 32 z
  omega
theorem num_no (n : Int) : 32 ∉ Str.L (num n) := fun z => by
  rw [num_L] at z
  have hr := hd_rng n.natAbs
  split at z
  · rcases List.mem_cons.mp z with z | z
    · omega
    · have := hr _ z; omega
  · have := hr _ z; omega
theorem line_len {r : Rw} (ok : RwOk r) : r.line.length ≤ 1010 := by
  cases r with
  | mark x => have := (ok.1 x rfl).2; show (x ++ (":" : Str)).length ≤ _; rw [strLen_append, colon1]; omega
  | grow n =>
    obtain ⟨n1, n2⟩ := ok.2 n rfl
    have : (num n).length ≤ 40 := ts_len n1 n2
    have e : (("grow" : Str) ++ " ").length = 5 := by decide +kernel
    show ((("grow" : Str) ++ " ") ++ num n).length ≤ _
    rw [strLen_append, e]; omega
  | tell => decide +kernel
  | jump x =>
    have := (ok.1 x rfl).2
    have e : (("jump" : Str) ++ " ").length = 5 := by decide +kernel
    show ((("jump" : Str) ++ " ") ++ x).length ≤ _
    rw [strLen_append, e]; omega
  | whn x =>
    have := (ok.1 x rfl).2
    have e : (("when" : Str) ++ " ").length = 5 := by decide +kernel
    show ((("when" : Str) ++ " ") ++ x).length ≤ _
    rw [strLen_append, e]; omega
  | halt => decide +kernel
theorem paired_app1 {α β : Type} {F : α → β → Prop} : ∀ {l : List α} {m : List β} {a : α} {b : β}, Paired F l m → F a b → Paired F (l ++ [a]) (m ++ [b])
  | _, _, _, _, .nil, h => .cons h .nil
  | _, _, _, _, .cons r t, h => .cons r (paired_app1 t h)
theorem last_app {l : List Nat} {b : Str} (h : Str.L b ≠ []) : (l ++ Str.L b).getLast? = (Str.L b).getLast? := by
  rw [List.getLast?_append]
  cases e : (Str.L b).getLast? with
  | none => exact absurd (List.getLast?_eq_none_iff.mp e) h
  | some c => rfl
theorem no_colon {b : Str} {a : Str} (hb : Str.L b ≠ []) (hr : ∀ c ∈ Str.L b, c ≠ 58) : Txt.endswith (a ++ b) ":" = false := by
  rw [ends_colon, L_app, last_app hb]
  exact decide_eq_false fun z => hr 58 (List.mem_of_getLast? z) rfl
theorem has_blank {a b : Str} {c : Str} (h : 32 ∉ Str.L c) : (a ++ " ") ++ b ≠ c := fun e => h (by
  rw [← e, L_app, L_app]
  have : Str.L " " = [32] := by decide +kernel
  rw [this]
  simp)
theorem not_lone {a b : Str} : inV (V.str ((a ++ " ") ++ b)) [.str "tell", .str "halt"] = false := by
  have h1 : (a ++ " ") ++ b ≠ "tell" := has_blank (by decide +kernel)
  have h2 : (a ++ " ") ++ b ≠ "halt" := has_blank (by decide +kernel)
  generalize (a ++ " ") ++ b = z at h1 h2
  have e1 : eqV (.str "tell") (.str z) = false := decide_eq_false fun e => h1 e.symm
  have e2 : eqV (.str "halt") (.str z) = false := decide_eq_false fun e => h2 e.symm
  unfold inV
  rw [List.any_cons, List.any_cons, e1, e2]
  rfl
theorem parts_small (z : Str) (cuts : List Nat) (k : Nat) : (Builtin.Str.partsBetween z cuts k).length ≤ cuts.length + 1 := by
  rw [StrLaws.partsBetween_eq]
  have go : ∀ (cuts : List Nat) (a : Nat), (StrLaws.partsFrom z k a cuts).length = cuts.length + 1 := by
    intro cuts
    induction cuts with
    | nil => intro a; rfl
    | cons c r ih => intro a; show (_ :: StrLaws.partsFrom z k (c + k) r).length = _; rw [List.length_cons, ih]; rfl
  rw [go]
  exact Nat.le_refl _
theorem split_small {z : Str} (h : z.length ≤ 1010) : (Builtin.Str.partsBetween z (Builtin.Str.occurrences z " " 0 z.length (z.length + 1)) (" " : Str).length).length ≤ 3000 := by
  have h1 := parts_small z (Builtin.Str.occurrences z " " 0 z.length (z.length + 1)) (" " : Str).length
  have h2 := StrLaws.occ_length_le_len z " " 0 z.length (z.length + 1)
  omega
theorem ok_row_of (D : Def K mg "row_of" s_row_of ["line"]) (T : Tx P w K mg) (h_is_name : Has P w K mg base 1 "is_name" ["text"] spIsName) (h_is_written_number : Has P w K mg base 2 "is_written_number" ["text"] spIsNum) (h_number_of : Has P w K mg base 2 "number_of" ["text"] spNum) :
    Has P w K mg base 3 "row_of" ["line"] spRowOf := by
  refine D.has sc_row_of (fun vs H Q E h => ?_) (fun f cdv A outer s H vs Q E hr h => ?_)
  · obtain ⟨r, rfl, _⟩ := h
    rfl
  · obtain ⟨r, rfl, ok, k⟩ := h
    have ll := line_len ok
    refine ⟨_, (pss_cons (ps_if (PW.pt (pw_and (pt_val (pe_bmF PySem.F.plainAttrs_str PySem.F.slot_str_endswith PySem.F.type_str_endswith mt_ends (pv 0) (pa_con pe_str pa_nil))) (pw_and1 (pt_val (pe_has h_is_name hr rfl (pa_cons (pe_slice sl_str (pv 0) po_none (po_some (pe_un un_neg pe_int))) pa_nil)))))) (pss_one (ps_ret (pe_tup (pa_con pe_str (pa_cons (pe_slice sl_str (pv 0) po_none (po_some (pe_un un_neg pe_int))) pa_nil))))) pss_nil)
      (pss_cons (ps_if (pt_cmpR op_in_seq (pv 0) (pe_gR rfl T.c_LONE_WORDS) (by with_unfolding_all rfl)) (pss_one (ps_ret (pe_tup (pa_cons (pv 0) pa_nil)))) pss_nil)
      (pss_cons (ps_set (i := 1) sc_row_of.nd rfl (Or.inl rfl) (pe_bmF PySem.F.plainAttrs_str PySem.F.slot_str_split PySem.F.type_str_split mt_split (pv 0) (pa_con pe_str pa_nil)))
      (pss_cons (ps_if (PW.pt (pw_and (pt_cmpR op_eq (pe_callB call_len_seq0 (by rfl) T.b_len bt_len (pa_cons (pv 1) pa_nil)) pe_int (nomark _)) (pw_and (pt_cmpR op_in_seq (pe_ix ix_list0 (pv 1) pe_int (fun _ _ => rfl)) (pe_gR rfl T.c_LEADING_WORDS) (by with_unfolding_all rfl)) (pw_and1 (pt_val (pe_has h_is_name hr rfl (pa_cons (pe_ix ix_list0 (pv 1) pe_int (fun _ _ => rfl)) pa_nil))))))) (pss_one (ps_ret (pe_tup (pa_cons (pe_ix ix_list0 (pv 1) pe_int (fun _ _ => rfl)) (pa_cons (pe_ix ix_list0 (pv 1) pe_int (fun _ _ => rfl)) pa_nil))))) pss_nil)
      (pss_cons (ps_if (PW.pt (pw_and (pt_cmpR op_eq (pe_callB call_len_seq0 (by rfl) T.b_len bt_len (pa_cons (pv 1) pa_nil)) pe_int (nomark _)) (pw_and (pt_cmpR op_eq (pe_ix ix_list0 (pv 1) pe_int (fun _ _ => rfl)) pe_str (nomark _)) (pw_and1 (pt_val (pe_has h_is_written_number hr rfl (pa_cons (pe_ix ix_list0 (pv 1) pe_int (fun _ _ => rfl)) pa_nil))))))) (pss_one (ps_ret (pe_tup (pa_con pe_str (pa_cons (pe_has h_number_of hr rfl (pa_cons (pe_ix ix_list0 (pv 1) pe_int (fun _ _ => rfl)) pa_nil)) pa_nil))))) pss_nil)
      (pss_one ps_never)))))), ?_⟩
    have mk : ∀ xs, xs = r.tv → ∀ H1, Same H H1 → ∀ p, H1 p = none → Q (.ref p) (upd H1 p (.tup xs)) := fun xs e H1 s1 p hp => by
      subst e
      exact k p _ (s1.free hp) (s1.trans ((Same.refl H1).upd hp)) upd_same
    refine ⟨_, rfl, rfl, r.line, ":", rfl, rfl, _, rfl, ?_⟩
    cases r with
    | mark x =>
      have nx := ok.1 x rfl
      have sl : Txt.slice (x ++ (":" : Str)) none (some (-1)) = x := by
        refine L_ext ?_
        have e : Str.L (Txt.slice (x ++ (":" : Str)) none (some (-1))) = (Str.L (x ++ (":" : Str))).dropLast := cut_last _
        have e1 : Str.L ":" = [58] := by decide +kernel
        rw [e, L_app, e1, List.dropLast_concat]
      have ec : Txt.endswith (x ++ (":" : Str)) ":" = true := by
        have e1 : Str.L ":" = [58] := by decide +kernel
        rw [ends_colon, L_app, e1, List.getLast?_concat]
        rfl
      have hlen : (x ++ (":" : Str)).length ≤ 1010 := ll
      refine iteT' ec ?_
      refine ⟨_, rfl, _, rfl, _, rfl, _, rfl, (by show (x ++ (":" : Str)).length ≤ 3000; omega), Txt.slice (x ++ (":" : Str)) none (some (-1)), rfl, by rw [sl]; exact nx.2, fun H1 s1 => ⟨_, rfl, iteT' (by rw [sl]; exact nx.1) ?_⟩⟩
      refine ⟨_, rfl, _, rfl, _, rfl, _, rfl, (by show (x ++ (":" : Str)).length ≤ 3000; omega), s1000 (by show 2 ≤ 1000; decide), mk _ ?_ H1 s1⟩
      show [V.str "mark", V.str (Txt.slice (x ++ (":" : Str)) none (some (-1)))] = _
      rw [sl]
      rfl
    | tell =>
      refine iteF' (by decide +kernel) (iteF ?_)
      exact ⟨_, rfl, fun a ha => ⟨a, _, rfl, .inr (ha H), rfl, rfl, _, rfl, iteT' (by decide +kernel) ⟨_, rfl, s1000 (by show 1 ≤ 1000; decide), mk _ rfl H (Same.refl H)⟩⟩⟩
    | halt =>
      refine iteF' (by decide +kernel) (iteF ?_)
      exact ⟨_, rfl, fun a ha => ⟨a, _, rfl, .inr (ha H), rfl, rfl, _, rfl, iteT' (by decide +kernel) ⟨_, rfl, s1000 (by show 1 ≤ 1000; decide), mk _ rfl H (Same.refl H)⟩⟩⟩
    | jump x =>
      have nx := ok.1 x rfl
      have two := split_two (a := "jump") (b := x) (by decide +kernel) (blank_no nx.1)
      have nc : Txt.endswith ((("jump" : Str) ++ " ") ++ x) ":" = false := no_colon (nice_signs nx.1).1 fun c hc => by have := (nice_signs nx.1).2 c hc; omega
      have hlen : ((("jump" : Str) ++ " ") ++ x).length ≤ 1010 := ll
      refine iteF' nc (iteF ?_)
      refine ⟨_, rfl, fun a ha => ⟨a, _, rfl, .inr (ha H), rfl, rfl, _, rfl, iteF' not_lone ?_⟩⟩
      refine ⟨_, rfl, rfl, _, _, rfl, rfl, by decide +kernel, (by show ((("jump" : Str) ++ " ") ++ x).length ≤ 3000; omega), split_small hlen, (by show (Txt.split ((("jump" : Str) ++ " ") ++ x) " ").length ≤ 3000; rw [two]; show 2 ≤ 3000; decide), fun l hl => ?_⟩
      have hl1 : upd H l (.lst ((Txt.split ((("jump" : Str) ++ " ") ++ x) " ").map V.str)) l = some (.lst [.str "jump", .str x]) := by rw [upd_same, two]; rfl
      have s1 : Same H (upd H l (.lst ((Txt.split ((("jump" : Str) ++ " ") ++ x) " ").map V.str))) := (Same.refl H).upd hl
      dsimp only [gName, Rw.line]
      generalize upd H l (.lst ((Txt.split ((("jump" : Str) ++ " ") ++ x) " ").map V.str)) = H1 at hl1 s1 ⊢
      refine ⟨_, rfl, l, _, rfl, .inl (SqL.of hl1), rfl, _, rfl, iteT' rfl ?_⟩
      refine ⟨_, rfl, l, _, 0, _, rfl, rfl, SqL.of hl1, atI_nat (j := 0) rfl, fun a ha => ⟨a, _, rfl, .inr (ha H1), rfl, rfl, _, rfl, iteT' (by decide +kernel) ?_⟩⟩
      refine ⟨_, rfl, l, _, 1, _, rfl, rfl, SqL.of hl1, atI_nat (j := 1) rfl, x, rfl, nx.2, fun H2 s2 => ⟨_, rfl, iteT' nx.1 ?_⟩⟩
      exact ⟨_, rfl, l, _, 0, _, rfl, rfl, SqL.of (s2 _ _ hl1), atI_nat (j := 0) rfl, _, rfl, l, _, 1, _, rfl, rfl, SqL.of (s2 _ _ hl1), atI_nat (j := 1) rfl, s1000 (by show 2 ≤ 1000; decide), mk _ rfl H2 (s1.trans s2)⟩
    | whn x =>
      have nx := ok.1 x rfl
      have two := split_two (a := "when") (b := x) (by decide +kernel) (blank_no nx.1)
      have nc : Txt.endswith ((("when" : Str) ++ " ") ++ x) ":" = false := no_colon (nice_signs nx.1).1 fun c hc => by have := (nice_signs nx.1).2 c hc; omega
      have hlen : ((("when" : Str) ++ " ") ++ x).length ≤ 1010 := ll
      refine iteF' nc (iteF ?_)
      refine ⟨_, rfl, fun a ha => ⟨a, _, rfl, .inr (ha H), rfl, rfl, _, rfl, iteF' not_lone ?_⟩⟩
      refine ⟨_, rfl, rfl, _, _, rfl, rfl, by decide +kernel, (by show ((("when" : Str) ++ " ") ++ x).length ≤ 3000; omega), split_small hlen, (by show (Txt.split ((("when" : Str) ++ " ") ++ x) " ").length ≤ 3000; rw [two]; show 2 ≤ 3000; decide), fun l hl => ?_⟩
      have hl1 : upd H l (.lst ((Txt.split ((("when" : Str) ++ " ") ++ x) " ").map V.str)) l = some (.lst [.str "when", .str x]) := by rw [upd_same, two]; rfl
      have s1 : Same H (upd H l (.lst ((Txt.split ((("when" : Str) ++ " ") ++ x) " ").map V.str))) := (Same.refl H).upd hl
      dsimp only [gName, Rw.line]
      generalize upd H l (.lst ((Txt.split ((("when" : Str) ++ " ") ++ x) " ").map V.str)) = H1 at hl1 s1 ⊢
      refine ⟨_, rfl, l, _, rfl, .inl (SqL.of hl1), rfl, _, rfl, iteT' rfl ?_⟩
      refine ⟨_, rfl, l, _, 0, _, rfl, rfl, SqL.of hl1, atI_nat (j := 0) rfl, fun a ha => ⟨a, _, rfl, .inr (ha H1), rfl, rfl, _, rfl, iteT' (by decide +kernel) ?_⟩⟩
      refine ⟨_, rfl, l, _, 1, _, rfl, rfl, SqL.of hl1, atI_nat (j := 1) rfl, x, rfl, nx.2, fun H2 s2 => ⟨_, rfl, iteT' nx.1 ?_⟩⟩
      exact ⟨_, rfl, l, _, 0, _, rfl, rfl, SqL.of (s2 _ _ hl1), atI_nat (j := 0) rfl, _, rfl, l, _, 1, _, rfl, rfl, SqL.of (s2 _ _ hl1), atI_nat (j := 1) rfl, s1000 (by show 2 ≤ 1000; decide), mk _ rfl H2 (s1.trans s2)⟩
    | grow n =>
      obtain ⟨n1, n2⟩ := ok.2 n rfl
      have two := split_two (a := "grow") (b := num n) (by decide +kernel) (num_no n)
      have nz : Str.L (num n) ≠ [] := by
        rw [num_L]
        split
        · simp
        · exact hd_ne _
      have nc : Txt.endswith ((("grow" : Str) ++ " ") ++ num n) ":" = false := no_colon nz fun c hc => by
        rw [num_L] at hc
        have hr := hd_rng n.natAbs
        split at hc
        · rcases List.mem_cons.mp hc with z | z
          · omega
          · have := hr _ z; omega
        · have := hr _ hc; omega
      have hlen : ((("grow" : Str) ++ " ") ++ num n).length ≤ 1010 := ll
      refine iteF' nc (iteF ?_)
      refine ⟨_, rfl, fun a ha => ⟨a, _, rfl, .inr (ha H), rfl, rfl, _, rfl, iteF' not_lone ?_⟩⟩
      refine ⟨_, rfl, rfl, _, _, rfl, rfl, by decide +kernel, (by show ((("grow" : Str) ++ " ") ++ num n).length ≤ 3000; omega), split_small hlen, (by show (Txt.split ((("grow" : Str) ++ " ") ++ num n) " ").length ≤ 3000; rw [two]; show 2 ≤ 3000; decide), fun l hl => ?_⟩
      have hl1 : upd H l (.lst ((Txt.split ((("grow" : Str) ++ " ") ++ num n) " ").map V.str)) l = some (.lst [.str "grow", .str (num n)]) := by rw [upd_same, two]; rfl
      have s1 : Same H (upd H l (.lst ((Txt.split ((("grow" : Str) ++ " ") ++ num n) " ").map V.str))) := (Same.refl H).upd hl
      dsimp only [gName, Rw.line]
      generalize upd H l (.lst ((Txt.split ((("grow" : Str) ++ " ") ++ num n) " ").map V.str)) = H1 at hl1 s1 ⊢
      refine ⟨_, rfl, l, _, rfl, .inl (SqL.of hl1), rfl, _, rfl, iteT' rfl ?_⟩
      refine ⟨_, rfl, l, _, 0, _, rfl, rfl, SqL.of hl1, atI_nat (j := 0) rfl, fun a ha => ⟨a, _, rfl, .inr (ha H1), rfl, rfl, _, rfl, iteF' (by decide +kernel) (iteF ?_)⟩⟩
      refine ⟨_, rfl, l, _, rfl, .inl (SqL.of hl1), rfl, _, rfl, iteT' rfl ?_⟩
      refine ⟨_, rfl, l, _, 0, _, rfl, rfl, SqL.of hl1, atI_nat (j := 0) rfl, rfl, _, rfl, iteT' (decide_eq_true rfl) ?_⟩
      refine ⟨_, rfl, l, _, 1, _, rfl, rfl, SqL.of hl1, atI_nat (j := 1) rfl, n, rfl, n1, n2, fun H2 s2 => ⟨_, rfl, iteT' rfl ?_⟩⟩
      exact ⟨_, rfl, l, _, 1, _, rfl, rfl, SqL.of (s2 _ _ hl1), atI_nat (j := 1) rfl, n, rfl, n1, n2, fun H3 s3 => ⟨s1000 (by show 2 ≤ 1000; decide), mk _ rfl H3 ((s1.trans s2).trans s3)⟩⟩
end
end SC

set_option maxHeartbeats 2000000
/-! LINES THAT ARE REFUSED -/
namespace SC
open PySem PySem.Spec PyProof.Rows L2
noncomputable def isL (c : Nat) : Bool := Nat.ble 97 c && Nat.ble c 122
noncomputable def isF (c : Nat) : Bool := Nat.ble 48 c && Nat.ble c 57
theorem isL_iff {c : Nat} : isL c = true ↔ 97 ≤ c ∧ c ≤ 122 := by unfold isL; rw [Bool.and_eq_true, Nat.ble_eq, Nat.ble_eq]
theorem isF_iff {c : Nat} : isF c = true ↔ 48 ≤ c ∧ c ≤ 57 := by unfold isF; rw [Bool.and_eq_true, Nat.ble_eq, Nat.ble_eq]
noncomputable def LF : Str := "abcdefghijklmnopqrstuvwxyz0123456789"
theorem lett_mem : ∀ d : Fin 26, (97 + d.val) ∈ Str.L LETT := by decide +kernel
theorem lf_L : Str.L LF = Str.L LETT ++ Str.L FIGS := by decide +kernel
theorem occ_lett (c : Nat) : occ LETT c = isL c := by
  rw [occ_mem, Bool.eq_iff_iff, decide_eq_true_iff, isL_iff]
  refine ⟨lett_rng c, fun h => ?_⟩
  have q : 97 + (c - 97) ∈ Str.L LETT := lett_mem ⟨c - 97, by omega⟩
  rw [show 97 + (c - 97) = c by omega] at q
  exact q
theorem occ_figs (c : Nat) : occ FIGS c = isF c := by
  rw [occ_mem, Bool.eq_iff_iff, decide_eq_true_iff, isF_iff]
  refine ⟨figs_rng c, fun h => ?_⟩
  have q : 48 + (c - 48) ∈ Str.L FIGS := figs_mem ⟨c - 48, by omega⟩
  rw [show 48 + (c - 48) = c by omega] at q
  exact q
theorem occ_lf (c : Nat) : occ LF c = (isL c || isF c) := by
  rw [← occ_lett, ← occ_figs, occ_mem, occ_mem, occ_mem, lf_L, Bool.eq_iff_iff, Bool.or_eq_true, decide_eq_true_iff, decide_eq_true_iff, decide_eq_true_iff, List.mem_append]
/-- what is_written_number tells -/
noncomputable def numB (x : Str) : Bool := decide (x = "0") || (!decide (wm x = "") && (!decide ((⟨#[(wm x).cps.getD 0 0]⟩ : Str) = "0") && (List.range (wm x).cps.size).all fun i => isF ((wm x).cps.getD i 0)))
theorem split_le {z : Str} (h : z.length ≤ 1000) : (Txt.split z " ").length ≤ 3000 := by
  have q := split_small (z := z) (by omega)
  unfold Txt.split
  split
  · show 1 ≤ 3000; decide
  · split
    · show 1 ≤ 3000; decide
    · exact q
/-- what makes a line none that a row is written as -/
structure BadL (z : Str) : Prop where
  len : z.length ≤ 1000
  rep : (reprText z).length ≤ 1000000
  colon : Txt.endswith z ":" = true → niceB (Txt.slice z none (some (-1))) = false
  lone : inV (.str z) [.str "tell", .str "halt"] = false
  parts : ∀ a b, Txt.split z " " = [a, b] → a.length ≤ 1000 ∧ b.length ≤ 1000 ∧ (inV (.str a) [.str "jump", .str "when"] = true → niceB b = false) ∧ (a = "grow" → numB b = false)
noncomputable def spRowX (c : Cn) : Sp := fun vs H _ E => ∃ z : Str, vs = [.str z] ∧ BadL z ∧ ∀ H', Same H H' → E (.ref c.NoLine) none H'
/-- the lines: some tells, one more, maybe a halt -/
noncomputable def lns (n : Nat) (z : Str) (m : Nat) : List Str := List.replicate n ("tell" : Str) ++ z :: List.replicate m ("halt" : Str)
noncomputable def rws (n : Nat) (r : Rw) (m : Nat) : List Rw := List.replicate n .tell ++ r :: List.replicate m .halt
theorem lns_len (n : Nat) (z : Str) (m : Nat) : (lns n z m).length = n + m + 1 := by
  unfold lns
  rw [List.length_append, List.length_cons, List.length_replicate, List.length_replicate]
  omega
theorem lns_rws (n : Nat) (r : Rw) (m : Nat) : lns n r.line m = (rws n r m).map Rw.line := by
  unfold lns rws
  rw [List.map_append, List.map_cons, List.map_replicate, List.map_replicate]
  rfl
theorem lns_lt {n m i : Nat} {z : Str} (h : i < n) : (lns n z m)[i]? = some ("tell" : Str) := by
  unfold lns
  rw [List.getElem?_append_left (by rw [List.length_replicate]; exact h), List.getElem?_replicate, if_pos h]
theorem lns_at {n m : Nat} {z : Str} : (lns n z m)[n]? = some z := by
  unfold lns
  rw [List.getElem?_append_right (by rw [List.length_replicate]; exact Nat.le_refl _), List.length_replicate, Nat.sub_self]
  rfl
theorem rws_ok {n m : Nat} {r : Rw} (ok : RwOk r) : ∀ q ∈ rws n r m, RwOk q := fun q hq => by
  unfold rws at hq
  rcases List.mem_append.mp hq with h | h
  · rw [List.eq_of_mem_replicate h]
    exact ⟨fun x z => (nomatch z), fun x z => (nomatch z)⟩
  · rcases List.mem_cons.mp h with h | h
    · rw [h]; exact ok
    · rw [List.eq_of_mem_replicate h]
      exact ⟨fun x z => (nomatch z), fun x z => (nomatch z)⟩
noncomputable def spReadA (c : Cn) : Sp := fun vs H Q E => ∃ (l : Addr) (n m : Nat) (z : Str), vs = [.ref l] ∧ H l = some (.lst ((lns n z m).map V.str)) ∧ n ≤ 2 ∧ m ≤ 1 ∧
  ((∃ r : Rw, z = r.line ∧ RwOk r ∧ ∀ a H', Same H H' → RowsAt H' a (rws n r m) → Q (.ref a) H') ∨ (BadL z ∧ ∀ H', Same H H' → E (.ref c.NoLine) none H'))
section
variable {P : Program} {w : World} {K : PySem.W.Frag} {mg : Str → Option Value} {base : Heap} {c : Cn}
noncomputable def spIsNumB : Sp := fun vs H Q _ => Ex1_3 (fun (x : Str) => vs = [.str x]) (fun (x : Str) => x.length ≤ 1000) (fun (x : Str) => ∀ H', Same H H' → Q (.bl (numB x)) H')
theorem no_is_written_number (D : Def K mg "is_written_number" s_is_written_number ["text"]) (T : Tx P w K mg) (C : Tc K mg c) (h_without_minus : Has P w K mg base 1 "without_minus" ["text"] spWm) : Has P w K mg base 2 "is_written_number" ["text"] spIsNumB := by
  refine D.has sc_is_written_number (fun vs H Q E h => ?_) (fun f cdv A outer s H vs Q E hr h => ?_)
  · obtain ⟨x, rfl, _⟩ := h
    rfl
  · obtain ⟨x, rfl, hx, k⟩ := h
    refine ⟨_, (pss_cons (ps_if (pt_cmpR op_eq (pv 0) pe_str (nomark _)) (pss_one (ps_ret pe_bl)) pss_nil)
      (pss_cons (ps_set (i := 1) sc_is_written_number.nd rfl (Or.inl rfl) (pe_has h_without_minus hr rfl (pa_cons (pv 0) pa_nil)))
      (pss_cons (ps_if (PW.pt (pw_or (pt_cmpR op_eq (pv 1) pe_str (nomark _)) (pw_or1 (pt_cmpR op_eq (pe_ix ix_str (pv 1) pe_int (fun _ _ => rfl)) pe_str (nomark _))))) (pss_one (ps_ret pe_bl)) pss_nil)
      (pss_one (ps_ret (pe_callB (call_all_bools rfl) (by rfl) T.b_all bt_all (pa_cons (pe_comp rfl (x := "sign") (xs := []) (caps := []) (osc := defScope s_is_written_number) ⟨rfl, rfl, by decide +kernel, by decide +kernel, rfl, by decide +kernel, by decide +kernel, by decide +kernel, .nil⟩ (pi_str (pv 1)) (fun _ _ _ => (pe_cmpR op_in_str (pv 0) (pe_gS rfl T.c_FIGURES) (by with_unfolding_all rfl))) (fun _ _ _ => pifs_nil)) pa_nil))))))), ?_⟩
    by_cases e : x = "0"
    · have q := k H (Same.refl H)
      rw [show numB x = true by unfold numB; rw [decide_eq_true e]; rfl] at q
      exact ⟨_, rfl, rfl, _, rfl, iteT' (vS e) q⟩
    · have en : numB x = (!decide (wm x = "") && (!decide ((⟨#[(wm x).cps.getD 0 0]⟩ : Str) = "0") && (List.range (wm x).cps.size).all fun i => isF ((wm x).cps.getD i 0))) := by
        unfold numB
        rw [decide_eq_false e, Bool.false_or]
      rw [en] at k
      refine ⟨_, rfl, rfl, _, rfl, iteF' (vN e) ?_⟩
      refine ⟨_, rfl, x, rfl, hx, fun H1 s1 => ?_⟩
      have wl := wm_len hx
      generalize wm x = z at wl k
      by_cases e1 : z = ""
      · have q := k H1 s1
        rw [decide_eq_true e1] at q
        exact ⟨_, rfl, rfl, _, rfl, iteT' (vS e1) (iteT q)⟩
      · refine ⟨_, rfl, rfl, _, rfl, iteF' (vN e1) ?_⟩
        rw [decide_eq_false e1] at k
        by_cases e2 : (⟨#[z.cps.getD 0 0]⟩ : Str) = "0"
        · have q := k H1 s1
          rw [decide_eq_true e2] at q
          exact ⟨_, rfl, z, 0, _, rfl, rfl, big (by omega), at_first e1, rfl, _, rfl, iteT' (vS e2) q⟩
        · rw [decide_eq_false e2] at k
          refine ⟨_, rfl, z, 0, _, rfl, rfl, big (by omega), at_first e1, rfl, _, rfl, iteF' (vN e2) ?_⟩
          refine ⟨_, rfl, z, rfl, comp_pure (n := z.cps.size) (item := fun i => V.str ⟨#[z.cps.getD i 0]⟩) (p := fun _ => true) (f := fun i => V.bl (isF (z.cps.getD i 0)))
            (s1000 wl) (fun i H2 _ h => h) (fun H2 _ => Nat.le_refl _) (fun i H2 y H3 _ hi hy => ?_) (fun i H2 _ _ Q2 k2 => k2 H2 (Same.refl H2)) (fun i H2 hi _ _ Q2 k2 => ?_) (fun l H2 hl s2 hl2 => ?_)⟩
          · obtain ⟨e1, c, hc, e2⟩ := hy
            refine ⟨?_, e1⟩
            rw [e2, getD_of hc]
          · refine ⟨_, rfl, _, _, rfl, rfl, ?_⟩
            show Q2 (.bl (occ FIGS (z.cps.getD i 0))) H2
            rw [occ_figs]
            exact k2 H2 (Same.refl H2)
          · refine ⟨l, (List.range z.cps.size).map fun i => isF (z.cps.getD i 0), rfl, SqL.of (by rw [hl2, List.map_map, List.filter_eq_self.mpr (fun _ _ => rfl)]; rfl), ?_⟩
            have q := k H2 (s1.trans s2)
            rw [List.all_map]
            exact q
theorem no_row_of (D : Def K mg "row_of" s_row_of ["line"]) (T : Tx P w K mg) (C : Tc K mg c) (h_is_name : Has P w K mg base 1 "is_name" ["text"] spIsName) (h_is_written_number : Has P w K mg base 2 "is_written_number" ["text"] spIsNum)
    (n_is_written_number : Has P w K mg base 2 "is_written_number" ["text"] spIsNumB) (h_number_of : Has P w K mg base 2 "number_of" ["text"] spNum) : Has1 P w K mg base 3 "row_of" ["line"] (spRowX c) := by
  have h_is_written_number := n_is_written_number
  refine D.has1 sc_row_of (fun vs H Q E h => ?_) (fun f cdv A outer s H vs Q E hr h => ?_)
  · obtain ⟨z, rfl, _⟩ := h
    rfl
  · obtain ⟨z, rfl, bad, kE⟩ := h
    have len := bad.len
    refine ⟨_, (pss_cons (ps_if (PW.pt (pw_and (pt_val (pe_bmF PySem.F.plainAttrs_str PySem.F.slot_str_endswith PySem.F.type_str_endswith mt_ends (pv 0) (pa_con pe_str pa_nil))) (pw_and1 (pt_val (pe_has h_is_name hr rfl (pa_cons (pe_slice sl_str (pv 0) po_none (po_some (pe_un un_neg pe_int))) pa_nil)))))) (pss_one (ps_ret (pe_tup (pa_con pe_str (pa_cons (pe_slice sl_str (pv 0) po_none (po_some (pe_un un_neg pe_int))) pa_nil))))) pss_nil)
      (pss_cons (ps_if (pt_cmpR op_in_seq (pv 0) (pe_gR rfl T.c_LONE_WORDS) (by with_unfolding_all rfl)) (pss_one (ps_ret (pe_tup (pa_cons (pv 0) pa_nil)))) pss_nil)
      (pss_cons (ps_set (i := 1) sc_row_of.nd rfl (Or.inl rfl) (pe_bmF PySem.F.plainAttrs_str PySem.F.slot_str_split PySem.F.type_str_split mt_split (pv 0) (pa_con pe_str pa_nil)))
      (pss_cons (ps_if (PW.pt (pw_and (pt_cmpR op_eq (pe_callB call_len_seq0 (by rfl) T.b_len bt_len (pa_cons (pv 1) pa_nil)) pe_int (nomark _)) (pw_and (pt_cmpR op_in_seq (pe_ix ix_list0 (pv 1) pe_int (fun _ _ => rfl)) (pe_gR rfl T.c_LEADING_WORDS) (by with_unfolding_all rfl)) (pw_and1 (pt_val (pe_has h_is_name hr rfl (pa_cons (pe_ix ix_list0 (pv 1) pe_int (fun _ _ => rfl)) pa_nil))))))) (pss_one (ps_ret (pe_tup (pa_cons (pe_ix ix_list0 (pv 1) pe_int (fun _ _ => rfl)) (pa_cons (pe_ix ix_list0 (pv 1) pe_int (fun _ _ => rfl)) pa_nil))))) pss_nil)
      (pss_cons (ps_if (PW.pt (pw_and (pt_cmpR op_eq (pe_callB call_len_seq0 (by rfl) T.b_len bt_len (pa_cons (pv 1) pa_nil)) pe_int (nomark _)) (pw_and (pt_cmpR op_eq (pe_ix ix_list0 (pv 1) pe_int (fun _ _ => rfl)) pe_str (nomark _)) (pw_and1 (pt_val (pe_has h_is_written_number hr rfl (pa_cons (pe_ix ix_list0 (pv 1) pe_int (fun _ _ => rfl)) pa_nil))))))) (pss_one (ps_ret (pe_tup (pa_con pe_str (pa_cons (pe_has h_number_of hr rfl (pa_cons (pe_ix ix_list0 (pv 1) pe_int (fun _ _ => rfl)) pa_nil)) pa_nil))))) pss_nil)
      (pss_one (ps_raise throws1 rfl (by rfl) C.n_NoLine C.e_NoLine (pe_fmtR (pv 0))))))))), ?_⟩
    -- a mark
    refine seq_cut (fun σ H1 => σ = [some (.str z), none] ∧ Same H H1) (fun D' hJ => ?_) ?_
    · refine ⟨_, rfl, rfl, z, ":", rfl, rfl, _, rfl, ?_⟩
      cases e : Txt.endswith z ":" with
      | false => exact iteF (iteF (hJ _ _ ⟨rfl, Same.refl H⟩))
      | true =>
        have nb := bad.colon e
        have sl := Txt.slice_le z none (some (-1))
        refine iteT ?_
        refine ⟨_, rfl, _, rfl, _, rfl, _, rfl, (by show z.length ≤ 3000; omega), Txt.slice z none (some (-1)), rfl, by omega, fun H1 s1 => ⟨_, rfl, iteF' nb (hJ _ _ ⟨rfl, s1⟩)⟩⟩
    rintro _ H1 ⟨rfl, s1⟩
    -- tell, halt
    refine ⟨_, rfl, fun a ha => ⟨a, _, rfl, .inr (ha H1), rfl, rfl, _, rfl, iteF' bad.lone ?_⟩⟩
    refine ⟨_, rfl, rfl, _, _, rfl, rfl, by decide +kernel, (by show z.length ≤ 3000; omega), split_small (by omega), split_le len, fun l hl => ?_⟩
    have hl2 : upd H1 l (.lst ((Txt.split z " ").map V.str)) l = some (.lst ((Txt.split z " ").map V.str)) := upd_same
    have s2 : Same H1 (upd H1 l (.lst ((Txt.split z " ").map V.str))) := (Same.refl H1).upd hl
    dsimp only [gName]
    generalize upd H1 l (.lst ((Txt.split z " ").map V.str)) = H2 at hl2 s2 ⊢
    have s2 := s1.trans s2
    by_cases h2 : (Txt.split z " ").length = 2
    · obtain ⟨a, b, hab⟩ : ∃ a b, Txt.split z " " = [a, b] := by
        match Txt.split z " ", h2 with
        | [a, b], _ => exact ⟨a, b, rfl⟩
      obtain ⟨la, lb, nj, ng⟩ := bad.parts a b hab
      rw [hab] at hl2
      -- a jump, a when
      refine seq_cut (fun σ H3 => σ = [some (.str z), some (.ref l)] ∧ Same H H3 ∧ H3 l = some (.lst [.str a, .str b])) (fun D' hJ => ?_) ?_
      · refine ⟨_, rfl, l, _, rfl, .inl (SqL.of hl2), rfl, _, rfl, iteT' rfl ?_⟩
        refine ⟨_, rfl, l, _, 0, _, rfl, rfl, SqL.of hl2, atI_nat (j := 0) rfl, fun a' ha => ⟨a', _, rfl, .inr (ha H2), rfl, rfl, _, rfl, ?_⟩⟩
        show if inV (V.str a) [.str "jump", .str "when"] = true then _ else _
        cases e : inV (V.str a) [.str "jump", .str "when"] with
        | false => exact iteF (iteF (hJ _ _ ⟨rfl, s2, hl2⟩))
        | true =>
          refine iteT ⟨_, rfl, l, _, 1, _, rfl, rfl, SqL.of hl2, atI_nat (j := 1) rfl, b, rfl, lb, fun H3 s3 => ⟨_, rfl, iteF' (nj e) (hJ _ _ ⟨rfl, s2.trans s3, s3 _ _ hl2⟩)⟩⟩
      rintro _ H3 ⟨rfl, s3, hl3⟩
      -- a grow
      refine seq_cut (fun σ H4 => σ = [some (.str z), some (.ref l)] ∧ Same H H4) (fun D' hJ => ?_) ?_
      · refine ⟨_, rfl, l, _, rfl, .inl (SqL.of hl3), rfl, _, rfl, iteT' rfl ?_⟩
        refine ⟨_, rfl, l, _, 0, _, rfl, rfl, SqL.of hl3, atI_nat (j := 0) rfl, rfl, _, rfl, ?_⟩
        by_cases e : a = "grow"
        · refine iteT' (vS e) ⟨_, rfl, l, _, 1, _, rfl, rfl, SqL.of hl3, atI_nat (j := 1) rfl, b, rfl, lb, fun H4 s4 => ⟨_, rfl, iteF' (ng e) (hJ _ _ ⟨rfl, s3.trans s4⟩)⟩⟩
        · exact iteF' (vN e) (iteF (hJ _ _ ⟨rfl, s3⟩))
      rintro _ H4 ⟨rfl, s4⟩
      exact ⟨_, rfl, z, rfl, bad.rep, fun _ => kE H4 s4⟩
    · have hne : decide (V.int ((((Txt.split z " ").map V.str).length : Nat) : Int) = V.int 2) = false := by
        rw [dV, List.length_map]
        exact decide_eq_false fun e => h2 (by omega)
      refine ⟨_, rfl, l, _, rfl, .inl (SqL.of hl2), rfl, _, rfl, iteF' hne (iteF ?_)⟩
      refine ⟨_, rfl, l, _, rfl, .inl (SqL.of hl2), rfl, _, rfl, iteF' hne (iteF ?_)⟩
      exact ⟨_, rfl, z, rfl, bad.rep, fun _ => kE H2 s2⟩
noncomputable abbrev s_read : Stmt := top 18
theorem sc_read : FnScope ["lines"] ["lines"] (defScope s_read) := ⟨rfl, rfl, rfl, by decide +kernel, rfl, by decide +kernel, by decide +kernel⟩
theorem ok_read (D : Def K mg "read" s_read ["lines"]) (T : Tx P w K mg) (C : Tc K mg c) (h_row_of : Has P w K mg base 3 "row_of" ["line"] spRowOf) (n_row_of : Has1 P w K mg base 3 "row_of" ["line"] (spRowX c)) : Has1 P w K mg base 4 "read" ["lines"] (spReadA c) := by
  refine D.has1 sc_read (fun vs H Q E h => ?_) (fun f cdv A outer s H vs Q E hr h => ?_)
  · obtain ⟨l, n, m, z, rfl, _⟩ := h
    rfl
  · obtain ⟨l, n, m, z, rfl, hl, hn, hm, hcase⟩ := h
    have ll := lns_len n z m
    refine ⟨_, (pss_one (ps_ret (pe_compX exits1 rfl rfl rfl (x := "line") (xs := []) (caps := []) (osc := defScope s_read) ⟨rfl, rfl, by decide +kernel, by decide +kernel, rfl, by decide +kernel, by decide +kernel, by decide +kernel, .nil⟩ (pi_list (pv 0)) (fun _ _ _ => (pe_hasO h_row_of.up n_row_of hr pass1in rfl (pa_cons (pv 0) pa_nil))) (fun _ _ _ => pifs_nil)))), ?_⟩
    rcases hcase with ⟨r, rfl, ok, k⟩ | ⟨bad, kE⟩
    · have ok := rws_ok (n := n) (m := m) ok
      rw [lns_rws, List.map_map] at hl
      have rl : (rws n r m).length = n + m + 1 := by rw [← ll, lns_rws, List.length_map]
      generalize rws n r m = rs at hl ok k rl
      refine ⟨_, rfl, l, rfl, ⟨_, SqL.of hl⟩, comp_list1 (xs := rs.map (V.str ∘ Rw.line)) (s1000 (by rw [List.length_map]; omega)) (SqL.of hl) (fun i ys H2 => Same H H2 ∧ ∃ ps : List Addr, ys = ps.map V.ref ∧ ps.length = i ∧ Paired (fun p (r : Rw) => H2 p = some (.tup r.tv)) ps (rs.take i)) (fun i ys H h => h.1)
        (fun H s => ⟨s, [], rfl, rfl, .nil⟩) (fun i ys zs H l o hl0 hl1 ⟨s, ps, e1, e2, e3⟩ => ⟨s.upd hl0, ps, e1, e2, Paired.mapP e3 fun r q e => by rw [upd_ne (fun z => by rw [z, hl1] at e; cases e)]; exact e⟩) (fun i ys H ⟨s, ps, e1, e2, e3⟩ => by rw [e1, List.length_map]; exact e2) (fun i y ys H2 hy ⟨s, ps, e1, e2, e3⟩ => ?_) (fun a ys H' hl0 ⟨s, ps, e1, e2, e3⟩ hl' => ?_)⟩
      · have hi : i < rs.length := by
          have := (List.getElem?_eq_some_iff.mp hy).1
          rw [List.length_map] at this
          exact this
        have hri : rs[i]? = some rs[i] := List.getElem?_eq_getElem hi
        rw [List.getElem?_map, hri] at hy
        cases hy
        intro Q2 k2
        refine ⟨_, rfl, .inl ⟨rs[i], rfl, ok _ (List.getElem_mem hi), fun p H5 hp s5 hp5 => k2 _ H5 s5 ⟨s.trans s5, ps ++ [p], by rw [e1, List.map_append]; rfl, by rw [List.length_append, e2]; rfl, ?_⟩⟩⟩
        rw [List.take_add_one, hri]
        exact paired_app1 (Paired.mapP e3 fun p r e => s5 _ _ e) hp5
      · rw [List.length_map, List.take_length] at e3
        exact k a H' s ⟨ps, by rw [hl', e1], e3⟩
    · refine ⟨_, rfl, l, rfl, ⟨_, SqL.of hl⟩, comp_list1 (xs := (lns n z m).map V.str) (s1000 (by rw [List.length_map]; omega)) (SqL.of hl) (fun i ys H2 => Same H H2 ∧ ys.length = i ∧ i ≤ n) (fun i ys H h => h.1)
        (fun H s => ⟨s, rfl, Nat.zero_le _⟩) (fun i ys zs H l o hl0 hl1 ⟨s, e1, e2⟩ => ⟨s.upd hl0, e1, e2⟩) (fun i ys H ⟨s, e1, e2⟩ => e1) (fun i y ys H2 hy ⟨s, e1, e2⟩ => ?_) (fun a ys H' hl0 ⟨s, e1, e2⟩ hl' => ?_)⟩
      · intro Q2 k2
        rw [List.getElem?_map] at hy
        rcases Nat.lt_or_ge i n with hi | hi
        · rw [lns_lt hi] at hy
          cases hy
          exact ⟨_, rfl, .inl ⟨.tell, rfl, ⟨fun x z => (nomatch z), fun x z => (nomatch z)⟩, fun p H5 hp s5 hp5 => k2 _ H5 s5 ⟨s.trans s5, by rw [List.length_append, e1]; rfl, hi⟩⟩⟩
        · obtain rfl : i = n := by omega
          rw [lns_at] at hy
          cases hy
          exact ⟨_, rfl, .inr ⟨z, rfl, bad, fun H5 s5 => kE H5 (s.trans s5)⟩⟩
      · rw [List.length_map, ll] at e2
        omega
end
end SC

set_option maxHeartbeats 2000000
/-! THE JUDGEMENT OF A LINE -/
namespace SC
open PySem PySem.Spec PyProof.Rows L2
noncomputable def namedB (x : Str) : Bool := !decide (x = "") && (isL (x.cps.getD 0 0) && (List.range x.cps.size).all fun i => isL (x.cps.getD i 0) || isF (x.cps.getD i 0))
noncomputable def figB (x : Str) : Str := bif decide (Txt.slice x none (some 1) = "-") then Txt.slice x (some 1) none else x
noncomputable def numdB (x : Str) : Bool := (List.range (figB x).cps.size).all (fun i => isF ((figB x).cps.getD i 0)) && (decide (x = "0") || (!decide (figB x = "") && !decide ((⟨#[(figB x).cps.getD 0 0]⟩ : Str) = "0")))
noncomputable def fineB (z : Str) : Bool := decide (z = "tell") || decide (z = "halt") || (bif decide (Txt.slice z (some (-1)) none = ":") then namedB (Txt.slice z none (some (-1))) else
  bif decide (Txt.slice z none (some 5) = "grow ") then numdB (Txt.slice z (some 5) none) else
  bif decide (Txt.slice z none (some 5) = "jump ") || decide (Txt.slice z none (some 5) = "when ") then namedB (Txt.slice z (some 5) none) else false)
section
variable {P : Program} {w : World} {K : PySem.W.Frag} {mg : Str → Option Value} {base : Heap} {c : Cn}
noncomputable abbrev s__law_named : Stmt := top 22
theorem sc__law_named : FnScope ["_law_text", "_law_sign"] ["_law_text"] (defScope s__law_named) := ⟨rfl, rfl, rfl, by decide +kernel, rfl, by decide +kernel, by decide +kernel⟩
noncomputable def spNamed : Sp := fun vs H Q _ => Ex1_3 (fun (x : Str) => vs = [.str x]) (fun (x : Str) => x.length ≤ 1000) (fun (x : Str) => ∀ H', Same H H' → Q (.bl (namedB x)) H')
theorem ok__law_named (D : Def K mg "_law_named" s__law_named ["_law_text"]) (T : Tx P w K mg) : Has P w K mg base 1 "_law_named" ["_law_text"] spNamed := by
  refine D.has sc__law_named (fun vs H Q E h => ?_) (fun f cdv A outer s H vs Q E hr h => ?_)
  · obtain ⟨x, rfl, _⟩ := h
    rfl
  · obtain ⟨x, rfl, hx, k⟩ := h
    refine ⟨_, (pss_cons (ps_if (PW.pt (pw_or (pt_cmpR op_eq (pv 0) pe_str (nomark _)) (pw_or1 (pt_cmpR op_notin_str (pe_ix ix_str (pv 0) pe_int (fun _ _ => rfl)) pe_str (by with_unfolding_all rfl))))) (pss_one (ps_ret pe_bl)) pss_nil)
      (pss_cons (ps_for PassesOwn.never rfl (pi_str (pv 0)) (pg_name (i := 1) sc__law_named.nd rfl (Or.inl rfl))
        (pss_one (ps_if (pt_cmpR op_notin_str (pv 1) pe_str (by with_unfolding_all rfl)) (pss_one (ps_ret pe_bl)) pss_nil)))
      (pss_one (ps_ret pe_bl)))), ?_⟩
    by_cases e : x = ""
    · have q := k H (Same.refl H)
      rw [show namedB x = false by unfold namedB; rw [decide_eq_true e]; rfl] at q
      exact ⟨_, rfl, rfl, _, rfl, iteT' (vS e) (iteT q)⟩
    · have en : namedB x = (isL (x.cps.getD 0 0) && (List.range x.cps.size).all fun i => isL (x.cps.getD i 0) || isF (x.cps.getD i 0)) := by
        unfold namedB
        rw [decide_eq_false e]
        rfl
      rw [en] at k
      refine ⟨_, rfl, rfl, _, rfl, iteF' (vN e) ?_⟩
      refine ⟨_, rfl, x, 0, _, rfl, rfl, s1000 hx, at_first e, _, _, rfl, rfl, _, rfl, ?_⟩
      show if (!occ LETT (x.cps.getD 0 0)) = true then _ else _
      rw [occ_lett]
      cases e0 : isL (x.cps.getD 0 0) with
      | false =>
        have q := k H (Same.refl H)
        rw [e0] at q
        exact iteT' rfl q
      | true =>
        rw [e0, Bool.true_and] at k
        refine iteF' rfl ?_
        refine ⟨_, rfl, x, rfl, for_str (fun i σ H2 => ∃ v1, σ = [some (.str x), v1] ∧ Same H H2 ∧ ∀ j, j < i → (isL (x.cps.getD j 0) || isF (x.cps.getD j 0)) = true) ⟨none, rfl, Same.refl H, fun j hj => absurd hj (Nat.not_lt_zero _)⟩ ?_ ?_⟩
        · rintro i d σ H2 hd ⟨v1, rfl, s2, hall⟩
          have hi : i < x.cps.size := (Array.getElem?_eq_some_iff.mp hd).1
          have gd := getD_of hd
          refine ⟨_, rfl, _, _, rfl, rfl, _, rfl, ?_⟩
          show if (!occ LF d) = true then _ else _
          rw [occ_lf]
          cases e1 : (isL d || isF d) with
          | false =>
            have q := k H2 s2
            rw [all_no hi (by rw [gd]; exact e1)] at q
            exact iteT' rfl q
          | true =>
            refine iteF' rfl ⟨_, rfl, s2, fun j hj => ?_⟩
            rcases Nat.lt_or_ge j i with z | z
            · exact hall j z
            · obtain rfl : j = i := by omega
              rw [gd]; exact e1
        · rintro σ H2 ⟨v1, rfl, s2, hall⟩
          have q := k H2 s2
          rw [all_yes hall] at q
          exact q
noncomputable abbrev s__law_numbered : Stmt := top 23
theorem sc__law_numbered : FnScope ["_law_text", "_law_figures", "_law_sign"] ["_law_text"] (defScope s__law_numbered) := ⟨rfl, rfl, rfl, by decide +kernel, rfl, by decide +kernel, by decide +kernel⟩
noncomputable def spNumd : Sp := fun vs H Q _ => Ex1_3 (fun (x : Str) => vs = [.str x]) (fun (x : Str) => x.length ≤ 1000) (fun (x : Str) => ∀ H', Same H H' → Q (.bl (numdB x)) H')
theorem ok__law_numbered (D : Def K mg "_law_numbered" s__law_numbered ["_law_text"]) (T : Tx P w K mg) : Has P w K mg base 1 "_law_numbered" ["_law_text"] spNumd := by
  refine D.has sc__law_numbered (fun vs H Q E h => ?_) (fun f cdv A outer s H vs Q E hr h => ?_)
  · obtain ⟨x, rfl, _⟩ := h
    rfl
  · obtain ⟨x, rfl, hx, k⟩ := h
    refine ⟨_, (pss_cons (ps_set (i := 1) sc__law_numbered.nd rfl (Or.inl rfl) (pv 0))
      (pss_cons (ps_if (pt_cmpR op_eq (pe_slice sl_str (pv 0) po_none (po_some pe_int)) pe_str (nomark _)) (pss_one (ps_set (i := 1) sc__law_numbered.nd rfl (Or.inl rfl) (pe_slice sl_str (pv 0) (po_some pe_int) po_none))) pss_nil)
      (pss_cons (ps_for PassesOwn.never rfl (pi_str (pv 1)) (pg_name (i := 2) sc__law_numbered.nd rfl (Or.inl rfl))
        (pss_one (ps_if (pt_cmpR op_notin_str (pv 2) pe_str (by with_unfolding_all rfl)) (pss_one (ps_ret pe_bl)) pss_nil)))
      (pss_one (ps_ret (pe_or (pe_cmpR op_eq (pv 0) pe_str (nomark _)) (pe_one (pe_and (pe_cmpR op_ne (pv 1) pe_str (nomark _)) (pe_one (pe_cmpR op_ne (pe_ix ix_str (pv 1) pe_int (fun _ _ => rfl)) pe_str (nomark _))))))))))), ?_⟩
    refine ⟨_, rfl, ?_⟩
    dsimp only [gName]
    refine seq_cut (fun σ H1 => σ = [some (.str x), some (.str (figB x)), none] ∧ H = H1) (fun D' hJ => ?_) ?_
    · by_cases e : Txt.slice x none (some 1) = "-"
      · have ef : figB x = Txt.slice x (some 1) none := by unfold figB; rw [decide_eq_true e]; rfl
        rw [ef] at hJ
        exact ⟨_, rfl, 1, rfl, x, rfl, by omega, rfl, _, rfl, iteT' (vS e) ⟨_, rfl, 1, rfl, x, rfl, by omega, hJ _ _ ⟨rfl, rfl⟩⟩⟩
      · have ef : figB x = x := by unfold figB; rw [decide_eq_false e]; rfl
        rw [ef] at hJ
        exact ⟨_, rfl, 1, rfl, x, rfl, by omega, rfl, _, rfl, iteF' (vN e) (hJ _ _ ⟨rfl, rfl⟩)⟩
    rintro _ _ ⟨rfl, rfl⟩
    have fl : (figB x).length ≤ 1000 := by
      unfold figB
      cases decide (Txt.slice x none (some 1) = "-") with
      | true => exact Nat.le_trans (Txt.slice_le x _ _) hx
      | false => exact hx
    unfold numdB at k
    generalize figB x = z at fl k
    refine ⟨_, rfl, z, rfl, for_str (fun i σ H2 => ∃ v2, σ = [some (.str x), some (.str z), v2] ∧ Same H H2 ∧ ∀ j, j < i → isF (z.cps.getD j 0) = true) ⟨none, rfl, Same.refl H, fun j hj => absurd hj (Nat.not_lt_zero _)⟩ ?_ ?_⟩
    · rintro i d σ H2 hd ⟨v1, rfl, s2, hall⟩
      have hi : i < z.cps.size := (Array.getElem?_eq_some_iff.mp hd).1
      have gd := getD_of hd
      refine ⟨_, rfl, _, _, rfl, rfl, _, rfl, ?_⟩
      show if (!occ FIGS d) = true then _ else _
      rw [occ_figs]
      cases e1 : isF d with
      | false =>
        have q := k H2 s2
        rw [all_no hi (by rw [gd]; exact e1)] at q
        exact iteT' rfl q
      | true =>
        refine iteF' rfl ⟨_, rfl, s2, fun j hj => ?_⟩
        rcases Nat.lt_or_ge j i with z | z
        · exact hall j z
        · obtain rfl : j = i := by omega
          rw [gd]; exact e1
    · rintro σ H2 ⟨v1, rfl, s2, hall⟩
      have q := k H2 s2
      rw [all_yes hall, Bool.true_and] at q
      by_cases e : x = "0"
      · rw [decide_eq_true e] at q
        exact ⟨_, rfl, rfl, _, rfl, iteT' (vS e) q⟩
      · rw [decide_eq_false e, Bool.false_or] at q
        refine ⟨_, rfl, rfl, _, rfl, iteF' (vN e) ?_⟩
        by_cases e1 : z = ""
        · rw [decide_eq_true e1] at q
          exact ⟨_, rfl, rfl, _, rfl, iteF' (by rw [vS e1]; rfl) q⟩
        · rw [decide_eq_false e1] at q
          refine ⟨_, rfl, rfl, _, rfl, iteT' (by rw [vN e1]; rfl) ?_⟩
          refine ⟨_, rfl, z, 0, _, rfl, rfl, s1000 fl, at_first e1, rfl, ?_⟩
          show Q (.bl (!decide (V.str ⟨#[z.cps.getD 0 0]⟩ = V.str "0"))) H2
          rw [dS]
          exact q
noncomputable abbrev s__law_fine : Stmt := top 24
theorem sc__law_fine : FnScope ["_law_line"] ["_law_line"] (defScope s__law_fine) := ⟨rfl, rfl, rfl, by decide +kernel, rfl, by decide +kernel, by decide +kernel⟩
noncomputable def spFine : Sp := fun vs H Q _ => Ex1_3 (fun (x : Str) => vs = [.str x]) (fun (x : Str) => x.length ≤ 1000) (fun (x : Str) => ∀ H', Same H H' → Q (.bl (fineB x)) H')
theorem ok__law_fine (D : Def K mg "_law_fine" s__law_fine ["_law_line"]) (T : Tx P w K mg) (h__law_named : Has P w K mg base 1 "_law_named" ["_law_text"] spNamed) (h__law_numbered : Has P w K mg base 1 "_law_numbered" ["_law_text"] spNumd) : Has P w K mg base 2 "_law_fine" ["_law_line"] spFine := by
  refine D.has sc__law_fine (fun vs H Q E h => ?_) (fun f cdv A outer s H vs Q E hr h => ?_)
  · obtain ⟨x, rfl, _⟩ := h
    rfl
  · obtain ⟨x, rfl, hx, k⟩ := h
    have big3 : x.length ≤ 3000 := by omega
    refine ⟨_, (pss_cons (ps_if (PW.pt (pw_or (pt_cmpR op_eq (pv 0) pe_str (nomark _)) (pw_or1 (pt_cmpR op_eq (pv 0) pe_str (nomark _))))) (pss_one (ps_ret pe_bl)) pss_nil)
      (pss_cons (ps_if (pt_cmpR op_eq (pe_slice sl_str (pv 0) (po_some (pe_un un_neg pe_int)) po_none) pe_str (nomark _)) (pss_one (ps_ret (pe_has h__law_named hr rfl (pa_cons (pe_slice sl_str (pv 0) po_none (po_some (pe_un un_neg pe_int))) pa_nil)))) pss_nil)
      (pss_cons (ps_if (pt_cmpR op_eq (pe_slice sl_str (pv 0) po_none (po_some pe_int)) pe_str (nomark _)) (pss_one (ps_ret (pe_has h__law_numbered hr rfl (pa_cons (pe_slice sl_str (pv 0) (po_some pe_int) po_none) pa_nil)))) pss_nil)
      (pss_cons (ps_if (PW.pt (pw_or (pt_cmpR op_eq (pe_slice sl_str (pv 0) po_none (po_some pe_int)) pe_str (nomark _)) (pw_or1 (pt_cmpR op_eq (pe_slice sl_str (pv 0) po_none (po_some pe_int)) pe_str (nomark _))))) (pss_one (ps_ret (pe_has h__law_named hr rfl (pa_cons (pe_slice sl_str (pv 0) (po_some pe_int) po_none) pa_nil)))) pss_nil)
      (pss_one (ps_ret pe_bl)))))), ?_⟩
    by_cases e1 : x = "tell"
    · have q := k H (Same.refl H)
      rw [show fineB x = true by unfold fineB; rw [decide_eq_true e1]; rfl] at q
      exact ⟨_, rfl, rfl, _, rfl, iteT' (vS e1) (iteT q)⟩
    by_cases e2 : x = "halt"
    · have q := k H (Same.refl H)
      rw [show fineB x = true by unfold fineB; rw [decide_eq_false e1, decide_eq_true e2]; rfl] at q
      exact ⟨_, rfl, rfl, _, rfl, iteF' (vN e1) ⟨_, rfl, rfl, _, rfl, iteT' (vS e2) q⟩⟩
    have k : ∀ H', Same H H' → Q (.bl (bif decide (Txt.slice x (some (-1)) none = ":") then namedB (Txt.slice x none (some (-1))) else
        bif decide (Txt.slice x none (some 5) = "grow ") then numdB (Txt.slice x (some 5) none) else
        bif decide (Txt.slice x none (some 5) = "jump ") || decide (Txt.slice x none (some 5) = "when ") then namedB (Txt.slice x (some 5) none) else false)) H' := fun H' s' => by
      have q := k H' s'
      unfold fineB at q
      rw [decide_eq_false e1, decide_eq_false e2, Bool.false_or, Bool.false_or] at q
      exact q
    refine ⟨_, rfl, rfl, _, rfl, iteF' (vN e1) ⟨_, rfl, rfl, _, rfl, iteF' (vN e2) ?_⟩⟩
    by_cases e3 : Txt.slice x (some (-1)) none = ":"
    · rw [decide_eq_true e3, cond_true] at k
      have sl := Txt.slice_le x none (some (-1))
      exact ⟨_, rfl, _, rfl, _, rfl, _, rfl, big3, rfl, _, rfl, iteT' (vS e3) ⟨_, rfl, _, rfl, _, rfl, _, rfl, big3, Txt.slice x none (some (-1)), rfl, by omega, fun H1 s1 => k H1 s1⟩⟩
    rw [decide_eq_false e3, cond_false] at k
    refine ⟨_, rfl, _, rfl, _, rfl, _, rfl, big3, rfl, _, rfl, iteF' (vN e3) ?_⟩
    have sl := Txt.slice_le x (some 5) none
    by_cases e4 : Txt.slice x none (some 5) = "grow "
    · rw [decide_eq_true e4, cond_true] at k
      exact ⟨_, rfl, 5, rfl, x, rfl, big3, rfl, _, rfl, iteT' (vS e4) ⟨_, rfl, 5, rfl, x, rfl, big3, Txt.slice x (some 5) none, rfl, by omega, fun H1 s1 => k H1 s1⟩⟩
    rw [decide_eq_false e4, cond_false] at k
    refine ⟨_, rfl, 5, rfl, x, rfl, big3, rfl, _, rfl, iteF' (vN e4) ?_⟩
    by_cases e5 : Txt.slice x none (some 5) = "jump "
    · rw [decide_eq_true e5, Bool.true_or, cond_true] at k
      exact ⟨_, rfl, 5, rfl, x, rfl, big3, rfl, _, rfl, iteT' (vS e5) (iteT ⟨_, rfl, 5, rfl, x, rfl, big3, Txt.slice x (some 5) none, rfl, by omega, fun H1 s1 => k H1 s1⟩)⟩
    rw [decide_eq_false e5, Bool.false_or] at k
    refine ⟨_, rfl, 5, rfl, x, rfl, big3, rfl, _, rfl, iteF' (vN e5) ?_⟩
    by_cases e6 : Txt.slice x none (some 5) = "when "
    · rw [decide_eq_true e6, cond_true] at k
      exact ⟨_, rfl, 5, rfl, x, rfl, big3, rfl, _, rfl, iteT' (vS e6) ⟨_, rfl, 5, rfl, x, rfl, big3, Txt.slice x (some 5) none, rfl, by omega, fun H1 s1 => k H1 s1⟩⟩
    · rw [decide_eq_false e6, cond_false] at k
      exact ⟨_, rfl, 5, rfl, x, rfl, big3, rfl, _, rfl, iteF' (vN e6) (k H (Same.refl H))⟩
noncomputable abbrev s__law_line_of : Stmt := top 27
theorem sc__law_line_of : FnScope ["_law_row"] ["_law_row"] (defScope s__law_line_of) := ⟨rfl, rfl, rfl, by decide +kernel, rfl, by decide +kernel, by decide +kernel⟩
noncomputable def spLineOf : Sp := fun vs H Q _ => Ex2_4 (fun (p : Addr) (r : Rw) => vs = [.ref p]) (fun (p : Addr) (r : Rw) => H p = some (.tup r.tv)) (fun (p : Addr) (r : Rw) => RwOk r) (fun (p : Addr) (r : Rw) => ∀ H', Same H H' → Q (.str r.line) H')
theorem ok__law_line_of (D : Def K mg "_law_line_of" s__law_line_of ["_law_row"]) (T : Tx P w K mg) : Has P w K mg base 1 "_law_line_of" ["_law_row"] spLineOf := by
  refine D.has sc__law_line_of (fun vs H Q E h => ?_) (fun f cdv A outer s H vs Q E hr h => ?_)
  · obtain ⟨p, r, rfl, _⟩ := h
    rfl
  · obtain ⟨p, r, rfl, hp, ok, k⟩ := h
    have q := k H (Same.refl H)
    refine ⟨_, (pss_cons (ps_if (pt_cmpR op_eq (pe_callB call_len_seq0 (by rfl) T.b_len bt_len (pa_cons (pv 0) pa_nil)) pe_int (nomark _)) (pss_one (ps_ret (pe_ix ix_tup0 (pv 0) pe_int (fun _ _ => rfl)))) pss_nil)
      (pss_cons (ps_if (pt_cmpR op_eq (pe_cmpR op_eq (pe_ix ix_tup0 (pv 0) pe_int (fun _ _ => rfl)) pe_str (nomark _)) (pe_callB call_isi (by rfl) T.b_isinstance bt_isinstance (pa_cons (pe_ix ix_tup0 (pv 0) pe_int (fun _ _ => rfl)) (pa_cons (pe_bty (by rfl) T.b_str bt_str) pa_nil))) (nomark _)) (pss_one (ps_ret pe_str)) pss_nil)
      (pss_cons (ps_if (pt_cmpR op_eq (pe_ix ix_tup0 (pv 0) pe_int (fun _ _ => rfl)) pe_str (nomark _)) (pss_one (ps_ret (pe_op op_add_str (pe_callTy call_str_any (by rfl) T.b_str bt_str (pa_cons (pe_ix ix_tup0 (pv 0) pe_int (fun _ _ => rfl)) pa_nil)) pe_str))) pss_nil)
      (pss_one (ps_ret (pe_op op_add_str (pe_op op_add_str (pe_ix ix_tup0 (pv 0) pe_int (fun _ _ => rfl)) pe_str) (pe_callTy call_str_any (by rfl) T.b_str bt_str (pa_cons (pe_ix ix_tup0 (pv 0) pe_int (fun _ _ => rfl)) pa_nil)))))))), ?_⟩
    refine ⟨_, rfl, p, _, rfl, .inr (SqT.of hp), rfl, _, rfl, ?_⟩
    have nx := ok.1
    have nn := ok.2
    cases r with
    | tell => exact iteT' (by rw [dV]; rfl) ⟨_, rfl, p, _, 0, _, rfl, rfl, SqT.of hp, atI_nat (j := 0) rfl, q⟩
    | halt => exact iteT' (by rw [dV]; rfl) ⟨_, rfl, p, _, 0, _, rfl, rfl, SqT.of hp, atI_nat (j := 0) rfl, q⟩
    | mark x =>
      have := (nx x rfl).2
      refine iteF' (by rw [dV]; rfl) ?_
      refine ⟨_, rfl, p, _, 0, _, rfl, rfl, SqT.of hp, atI_nat (j := 0) rfl, rfl, _, rfl, p, _, 1, _, rfl, rfl, SqT.of hp, atI_nat (j := 1) rfl, _, _, _, _, rfl, .str x, kit_ss K, rfl, _, rfl, iteF' (bN (by rw [vN (a := "mark") (b := "grow") (by decide +kernel)]; decide)) ?_⟩
      refine ⟨_, rfl, p, _, 0, _, rfl, rfl, SqT.of hp, atI_nat (j := 0) rfl, rfl, _, rfl, iteT' (vS rfl) ?_⟩
      exact ⟨_, rfl, p, _, 1, _, rfl, rfl, SqT.of hp, atI_nat (j := 1) rfl, .inr ⟨x, rfl, _, _, rfl, rfl, big (by rw [colon1]; omega), q⟩⟩
    | grow n =>
      obtain ⟨n1, n2⟩ := nn n rfl
      have tl := ts_len n1 n2
      refine iteF' (by rw [dV]; rfl) ?_
      refine ⟨_, rfl, p, _, 0, _, rfl, rfl, SqT.of hp, atI_nat (j := 0) rfl, rfl, _, rfl, p, _, 1, _, rfl, rfl, SqT.of hp, atI_nat (j := 1) rfl, _, _, _, _, rfl, .int n, kit_is K, rfl, _, rfl, iteF' (bN (by rw [vS rfl]; decide)) ?_⟩
      refine ⟨_, rfl, p, _, 0, _, rfl, rfl, SqT.of hp, atI_nat (j := 0) rfl, rfl, _, rfl, iteF' (vN (by decide +kernel)) ?_⟩
      refine ⟨_, rfl, p, _, 0, _, rfl, rfl, SqT.of hp, atI_nat (j := 0) rfl, _, _, rfl, rfl, big (by decide +kernel), _, rfl, p, _, 1, _, rfl, rfl, SqT.of hp, atI_nat (j := 1) rfl, .inl ⟨n, rfl, num_log n1 n2, _, _, rfl, rfl, big ?_, q⟩⟩
      have : (("grow" : Str) ++ " ").length = 5 := by decide +kernel
      omega
    | jump x =>
      have := (nx x rfl).2
      refine iteF' (by rw [dV]; rfl) ?_
      refine ⟨_, rfl, p, _, 0, _, rfl, rfl, SqT.of hp, atI_nat (j := 0) rfl, rfl, _, rfl, p, _, 1, _, rfl, rfl, SqT.of hp, atI_nat (j := 1) rfl, _, _, _, _, rfl, .str x, kit_ss K, rfl, _, rfl, iteF' (bN (by rw [vN (a := "jump") (b := "grow") (by decide +kernel)]; decide)) ?_⟩
      refine ⟨_, rfl, p, _, 0, _, rfl, rfl, SqT.of hp, atI_nat (j := 0) rfl, rfl, _, rfl, iteF' (vN (by decide +kernel)) ?_⟩
      refine ⟨_, rfl, p, _, 0, _, rfl, rfl, SqT.of hp, atI_nat (j := 0) rfl, _, _, rfl, rfl, big (by decide +kernel), _, rfl, p, _, 1, _, rfl, rfl, SqT.of hp, atI_nat (j := 1) rfl, .inr ⟨x, rfl, _, _, rfl, rfl, big ?_, q⟩⟩
      have : (("jump" : Str) ++ " ").length = 5 := by decide +kernel
      omega
    | whn x =>
      have := (nx x rfl).2
      refine iteF' (by rw [dV]; rfl) ?_
      refine ⟨_, rfl, p, _, 0, _, rfl, rfl, SqT.of hp, atI_nat (j := 0) rfl, rfl, _, rfl, p, _, 1, _, rfl, rfl, SqT.of hp, atI_nat (j := 1) rfl, _, _, _, _, rfl, .str x, kit_ss K, rfl, _, rfl, iteF' (bN (by rw [vN (a := "when") (b := "grow") (by decide +kernel)]; decide)) ?_⟩
      refine ⟨_, rfl, p, _, 0, _, rfl, rfl, SqT.of hp, atI_nat (j := 0) rfl, rfl, _, rfl, iteF' (vN (by decide +kernel)) ?_⟩
      refine ⟨_, rfl, p, _, 0, _, rfl, rfl, SqT.of hp, atI_nat (j := 0) rfl, _, _, rfl, rfl, big (by decide +kernel), _, rfl, p, _, 1, _, rfl, rfl, SqT.of hp, atI_nat (j := 1) rfl, .inr ⟨x, rfl, _, _, rfl, rfl, big ?_, q⟩⟩
      have : (("when" : Str) ++ " ").length = 5 := by decide +kernel
      omega
noncomputable abbrev s__law_any_refusal : Stmt := top 25
theorem sc__law_any_refusal : FnScope ["_law_lines", "e"] ["_law_lines"] (defScope s__law_any_refusal) := ⟨rfl, rfl, rfl, by decide +kernel, rfl, by decide +kernel, by decide +kernel⟩
noncomputable def spAnyL : Sp := fun vs H Q _ => Ex4_6 (fun (l : Addr) (n m : Nat) (z : Str) => vs = [.ref l]) (fun (l : Addr) (n m : Nat) (z : Str) => H l = some (.lst ((lns n z m).map V.str))) (fun (l : Addr) (n m : Nat) (z : Str) => n ≤ 2) (fun (l : Addr) (n m : Nat) (z : Str) => m ≤ 1) (fun (l : Addr) (n m : Nat) (z : Str) => BadL z) (fun (l : Addr) (n m : Nat) (z : Str) => ∀ H', Same H H' → Q (.bl true) H')
theorem ok__law_any_refusal (D : Def K mg "_law_any_refusal" s__law_any_refusal ["_law_lines"]) (T : Tx P w K mg) (C : Tc K mg c) (h_read : Has1 P w K mg base 4 "read" ["lines"] (spReadA c)) : Has P w K mg base 5 "_law_any_refusal" ["_law_lines"] spAnyL := by
  refine D.has sc__law_any_refusal (fun vs H Q E h => ?_) (fun f cdv A outer s H vs Q E hr h => ?_)
  · obtain ⟨l, n, m, z, rfl, _⟩ := h
    rfl
  · obtain ⟨l, n, m, z, rfl, hl, hn, hm, bad, k⟩ := h
    refine ⟨_, (pss_cons (ps_try (i := 1) rfl rfl rfl (fun E σ0 pn xe hx => (pss_one (ps_expr (pe_hasT h_read hr hx rfl (pa_cons (pe_callTy call_list_of0 (by rfl) T.b_list bt_list (pa_cons (pv 0) pa_nil)) pa_nil))))) (fun ea => (pss_one (ps_ret (pe_callB (show CallR _ _ (rIsE K) from call_isiE) (by rfl) T.b_isinstance bt_isinstance (pa_cons (pv 1) (pa_cons (pe_bty (by rfl) T.b_ValueError bt_ValueError) pa_nil)))))) (by rfl) C.n_CellError C.e_CellError sc__law_any_refusal.nd rfl rfl)
      (pss_one (ps_ret pe_bl))), ?_⟩
    refine ⟨fun v _ H1 => v = .ref c.NoLine ∧ Same H H1, ?_, ?_⟩
    · exact ⟨rfl, _, rfl, l, _, rfl, .inl (SqL.of hl), fun l2 hl2 => ⟨l2, n, m, z, rfl, upd_same, hn, hm, .inr ⟨bad, fun H1 s1 => ⟨rfl, ((Same.refl H).upd hl2).trans s1⟩⟩⟩⟩
    · rintro _ H1 ⟨rfl, s1⟩
      refine ⟨_, rfl, C.e_NoLine, C.u_NoLine, fun ea hea => ?_⟩
      have hE : upd H1 ea (ExO ea c.NoLine) ea = some (ExO ea c.NoLine) := upd_same
      have s2 : Same H1 (upd H1 ea (ExO ea c.NoLine)) := (Same.refl H1).upd hea
      exact ⟨_, rfl, ea, c.NoLine, _, hE, C.e_NoLine, .inr (.inl ⟨_, rfl, C.v_NoLine⟩), k _ (s1.trans s2)⟩
end
end SC

set_option maxHeartbeats 2000000
/-! A LINE AS THE LIST OF ITS SIGNS: the two judgements -/
namespace SC
open PySem PySem.Spec PyProof.Rows L2
theorem dL (x y : Str) : decide (x = y) = decide (Str.L x = Str.L y) := by
  by_cases h : x = y
  · subst h; simp
  · rw [decide_eq_false h, decide_eq_false fun e => h (L_ext e)]
theorem all_L (x : Str) (p : Nat → Bool) : ((List.range x.cps.size).all fun i => p (x.cps.getD i 0)) = (Str.L x).all p := by
  rw [Bool.eq_iff_iff, List.all_eq_true, List.all_eq_true]
  constructor
  · intro h c hc
    obtain ⟨i, hi, rfl⟩ := List.mem_iff_getElem.mp hc
    have hi' : i < x.cps.size := by simpa using hi
    have q := h i (List.mem_range.mpr hi')
    rw [L_get x hi'] at q
    exact q
  · intro h i hi
    have hi' := List.mem_range.mp hi
    rw [L_get x hi']
    exact h _ (List.getElem_mem _)
theorem L_head (x : Str) : x.cps.getD 0 0 = (Str.L x).headD 0 := by
  obtain ⟨⟨l⟩⟩ := x
  cases l <;> rfl
theorem L_one (c : Nat) : Str.L ⟨#[c]⟩ = [c] := rfl
/-! ### slices -/
theorem ix_take (k n : Nat) : Builtin.Str.strSliceIndices none (some (k : Int)) 1 n = List.range (min k n) := by
  unfold Builtin.Str.strSliceIndices sliceRange
  simp only [show (1 : Int) > 0 by decide, if_true, show ¬ ((k : Int) < 0) by omega, if_false]
  have e : (if (0 : Int) < max 0 (min (k : Int) n) then (max 0 (min (k : Int) n) - 0 + 1 - 1) / 1 else 0).toNat = min k n := by
    rw [Int.ediv_one]
    split <;> omega
  rw [e]
  have : (fun k : Nat => ((0 : Int) + 1 * (k : Int)).toNat) = _root_.id := by funext k; show _ = k; omega
  rw [this, List.map_id]
theorem ix_drop (k n : Nat) : Builtin.Str.strSliceIndices (some (k : Int)) none 1 n = (List.range (n - k)).map fun i => k + i := by
  unfold Builtin.Str.strSliceIndices sliceRange
  simp only [show (1 : Int) > 0 by decide, if_true, show ¬ ((k : Int) < 0) by omega, if_false]
  have e : (if max 0 (min (k : Int) (n : Int)) < (n : Int) then ((n : Int) - max 0 (min (k : Int) (n : Int)) + 1 - 1) / 1 else 0).toNat = n - k := by
    rw [Int.ediv_one]
    split <;> omega
  rw [e]
  apply List.map_congr_left
  intro i hi
  have := List.mem_range.mp hi
  omega
theorem ix_tail (n : Nat) : Builtin.Str.strSliceIndices (some (-1)) none 1 n = (List.range (n - (n - 1))).map fun i => n - 1 + i := by
  unfold Builtin.Str.strSliceIndices sliceRange
  simp only [show (1 : Int) > 0 by decide, if_true, show (-1 : Int) < 0 by decide]
  have e : (if max 0 (min (-1 + (n : Int)) (n : Int)) < (n : Int) then ((n : Int) - max 0 (min (-1 + (n : Int)) (n : Int)) + 1 - 1) / 1 else 0).toNat = n - (n - 1) := by
    rw [Int.ediv_one]
    split <;> omega
  rw [e]
  apply List.map_congr_left
  intro i hi
  have := List.mem_range.mp hi
  omega
theorem take_min (l : List Nat) (k : Nat) : l.take (min k l.length) = l.take k := by
  rcases Nat.le_total k l.length with h | h
  · rw [Nat.min_eq_left h]
  · rw [Nat.min_eq_right h, List.take_length, List.take_of_length_le h]
theorem cut_take (x : Str) (k : Nat) : Str.L (Txt.slice x none (some (k : Int))) = (Str.L x).take k := by
  unfold Txt.slice
  rw [ix_take]
  have hl : x.length = (Str.L x).length := L_len x
  split
  · rename_i h
    simp only [beq_self_eq_true, Bool.true_and, beq_iff_eq, List.length_range] at h
    rw [List.take_of_length_le (by omega)]
  · have e : (fun i : Nat => x.cps[i]?) = fun i : Nat => x.cps.toList[i]? := by funext i; simp
    have p := pick_range x.cps.toList 0 (min k x.length) (by show _ ≤ (Str.L x).length; omega)
    simp only [Nat.zero_add, List.map_id', List.drop_zero] at p
    show (List.filterMap (fun i => x.cps[i]?) (List.range (min k x.length))) = _
    rw [e, p, hl]
    exact take_min _ _
theorem cut_from (x : Str) (s : Option Int) (k : Nat) (h : Builtin.Str.strSliceIndices s none 1 x.length = (List.range (x.length - k)).map fun i => k + i) : Str.L (Txt.slice x s none) = (Str.L x).drop k := by
  unfold Txt.slice
  rw [h]
  have hl : x.length = (Str.L x).length := L_len x
  split
  · rename_i h
    simp only [beq_self_eq_true, Bool.true_and, beq_iff_eq, List.length_range, List.length_map] at h
    by_cases z : k = 0
    · rw [z, List.drop_zero]
    · have : (Str.L x) = [] := List.length_eq_zero_iff.mp (by omega)
      rw [this, List.drop_nil]
  · have e : (fun i : Nat => x.cps[i]?) = fun i : Nat => x.cps.toList[i]? := by funext i; simp
    show (List.filterMap (fun i => x.cps[i]?) ((List.range (x.length - k)).map fun i => k + i)) = _
    by_cases z : k ≤ x.length
    · have p := pick_range x.cps.toList k (x.length - k) (by show _ ≤ (Str.L x).length; omega)
      rw [e, p, List.take_of_length_le (by rw [List.length_drop]; show (Str.L x).length - k ≤ _; omega)]
    · rw [show x.length - k = 0 by omega, List.drop_of_length_le (by show (Str.L x).length ≤ k; omega)]
      rfl
theorem cut_drop (x : Str) (k : Nat) : Str.L (Txt.slice x (some (k : Int)) none) = (Str.L x).drop k := cut_from x _ k (ix_drop k _)
theorem cut_tail (x : Str) : Str.L (Txt.slice x (some (-1)) none) = (Str.L x).drop ((Str.L x).length - 1) := by
  have h := cut_from x (some (-1)) (x.length - 1) (ix_tail _)
  rw [h, L_len]
theorem tail_last (l : List Nat) (c : Nat) : decide (l.drop (l.length - 1) = [c]) = decide (l.getLast? = some c) := by
  rcases List.eq_nil_or_concat l with rfl | ⟨m, d, rfl⟩
  · rfl
  · rw [List.concat_eq_append, List.length_append, List.length_singleton, Nat.add_sub_cancel, List.drop_left' rfl, List.getLast?_concat]
    by_cases z : d = c
    · subst z; simp
    · rw [decide_eq_false (fun w => z (by injection w)), decide_eq_false (fun w => z (by injection w))]
theorem last_back {l : List Nat} {c : Nat} (h : l.getLast? = some c) : l.dropLast ++ [c] = l := by
  rcases List.eq_nil_or_concat l with rfl | ⟨m, d, rfl⟩
  · cases h
  · rw [List.concat_eq_append, List.getLast?_concat] at h
    rw [List.concat_eq_append, List.dropLast_concat, Option.some.inj h]
/-! ### names, numbers -/
noncomputable def nmL (l : List Nat) : Bool := !decide (l = []) && (isL (l.headD 0) && l.all fun c => isL c || isF c)
noncomputable def fgL : List Nat → List Nat
  | [] => []
  | c :: r => bif Nat.beq c 45 then r else c :: r
theorem fgL_cons (c : Nat) (r : List Nat) : fgL (c :: r) = bif Nat.beq c 45 then r else c :: r := rfl
noncomputable def nbL (l : List Nat) : Bool := decide (l = [48]) || (!decide (fgL l = []) && (!decide ((fgL l).headD 0 = 48) && (fgL l).all isF))
theorem L_empty : Str.L "" = [] := by decide +kernel
theorem L_zero : Str.L "0" = [48] := by decide +kernel
theorem named_L (x : Str) : namedB x = nmL (Str.L x) := by
  unfold namedB nmL
  rw [dL, L_empty, all_L x fun c => isL c || isF c, L_head]
theorem nice_L (x : Str) : niceB x = nmL (Str.L x) := by
  rw [← named_L]
  unfold niceB namedB
  simp only [occ_lett, occ_figs]
  rw [Bool.and_assoc, dL, L_empty]
  congr 2
  obtain ⟨⟨l⟩⟩ := x
  cases l <;> rfl
theorem wm_L (x : Str) : Str.L (wm x) = fgL (Str.L x) := by
  unfold wm
  rw [starts_minus]
  have e : Str.L (Txt.slice x (some 1) none) = (Str.L x).drop 1 := cut_first x
  cases h : Str.L x with
  | nil => exact h
  | cons c r =>
    by_cases z : c = 45
    · subst z
      rw [h] at e
      exact e
    · have b : Nat.beq c 45 = false := by
        cases q : Nat.beq c 45 with
        | false => rfl
        | true => exact absurd (Nat.eq_of_beq_eq_true q) z
      rw [show decide ((c :: r).head? = some 45) = false from decide_eq_false fun w => z (by injection w)]
      rw [fgL_cons, b]
      exact h
theorem one_zero (c : Nat) : decide ((⟨#[c]⟩ : Str) = "0") = decide (c = 48) := by
  rw [dL, L_one, L_zero]
  by_cases z : c = 48
  · subst z; rfl
  · rw [decide_eq_false z, decide_eq_false fun w => z (by injection w)]
theorem num_B (x : Str) : numB x = nbL (Str.L x) := by
  unfold numB nbL
  rw [dL, L_zero, dL (wm x), L_empty, one_zero, all_L (wm x) isF, L_head, wm_L]
theorem fig_L (x : Str) : Str.L (figB x) = fgL (Str.L x) := by
  unfold figB
  have e : Str.L (Txt.slice x (some 1) none) = (Str.L x).drop 1 := cut_first x
  have e1 : Str.L (Txt.slice x none (some 1)) = (Str.L x).take 1 := cut_take x 1
  have m : Str.L "-" = [45] := by decide +kernel
  rw [dL, e1, m]
  cases h : Str.L x with
  | nil => exact h
  | cons c r =>
    by_cases z : c = 45
    · subst z
      rw [h] at e
      exact e
    · have b : Nat.beq c 45 = false := by
        cases q : Nat.beq c 45 with
        | false => rfl
        | true => exact absurd (Nat.eq_of_beq_eq_true q) z
      rw [show decide ((c :: r).take 1 = [45]) = false from decide_eq_false fun w => z (by injection w)]
      rw [fgL_cons, b]
      exact h
theorem numd_L (x : Str) : numdB x = nbL (Str.L x) := by
  unfold numdB nbL
  rw [dL x, L_zero, dL (figB x), L_empty, one_zero, all_L (figB x) isF, L_head, fig_L]
  by_cases z : Str.L x = [48]
  · rw [z]; rfl
  · rw [decide_eq_false z, Bool.false_or, Bool.false_or]
    cases (fgL (Str.L x)).all isF <;> cases decide (fgL (Str.L x) = []) <;> cases decide ((fgL (Str.L x)).headD 0 = 48) <;> rfl
/-! ### the two judgements -/
noncomputable def spL : List Nat → Option (List Nat × List Nat)
  | [] => none
  | c :: r => bif Nat.beq c 32 then (bif r.all (fun d => !Nat.beq d 32) then some ([], r) else none) else (spL r).map fun p => (c :: p.1, p.2)
noncomputable def fineL (l : List Nat) : Bool := decide (l = [116, 101, 108, 108]) || decide (l = [104, 97, 108, 116]) || (bif decide (l.getLast? = some 58) then nmL l.dropLast else bif decide (l.take 5 = [103, 114, 111, 119, 32]) then nbL (l.drop 5) else bif decide (l.take 5 = [106, 117, 109, 112, 32]) || decide (l.take 5 = [119, 104, 101, 110, 32]) then nmL (l.drop 5) else false)
noncomputable def twoL : Option (List Nat × List Nat) → Bool
  | some (a, b) => ((decide (a = [106, 117, 109, 112]) || decide (a = [119, 104, 101, 110])) && nmL b) || (decide (a = [103, 114, 111, 119]) && nbL b)
  | none => false
noncomputable def accL (l : List Nat) : Bool := (decide (l.getLast? = some 58) && nmL l.dropLast) || (decide (l = [116, 101, 108, 108]) || (decide (l = [104, 97, 108, 116]) || twoL (spL l)))
noncomputable def chk (l : List Nat) : Bool := decide (l.length ≤ 30) && (l.all (fun d => decide (d < 256)) && decide (accL l = fineL l))
theorem fine_L (z : Str) : fineB z = fineL (Str.L z) := by
  have e1 : Str.L "tell" = [116, 101, 108, 108] := by decide +kernel
  have e2 : Str.L "halt" = [104, 97, 108, 116] := by decide +kernel
  have e3 : Str.L ":" = [58] := by decide +kernel
  have e4 : Str.L "grow " = [103, 114, 111, 119, 32] := by decide +kernel
  have e5 : Str.L "jump " = [106, 117, 109, 112, 32] := by decide +kernel
  have e6 : Str.L "when " = [119, 104, 101, 110, 32] := by decide +kernel
  have c1 : Str.L (Txt.slice z none (some 5)) = (Str.L z).take 5 := cut_take z 5
  have c2 : Str.L (Txt.slice z (some 5) none) = (Str.L z).drop 5 := cut_drop z 5
  have c3 : Str.L (Txt.slice z none (some (-1))) = (Str.L z).dropLast := cut_last z
  unfold fineB fineL
  rw [dL z, dL z, e1, e2, dL (Txt.slice z (some (-1)) none), e3, cut_tail, tail_last, named_L, numd_L, named_L, dL (Txt.slice z none (some 5)), dL (Txt.slice z none (some 5)), dL (Txt.slice z none (some 5)), c1, c2, c3, e4, e5, e6]
theorem spL_some : ∀ {l a b : List Nat}, spL l = some (a, b) → l = a ++ 32 :: b ∧ 32 ∉ a ∧ 32 ∉ b := by
  intro l
  induction l with
  | nil => intro a b h; cases h
  | cons c r ih =>
    intro a b h
    unfold spL at h
    cases e : Nat.beq c 32 with
    | true =>
      have ec : c = 32 := Nat.eq_of_beq_eq_true e
      rw [e] at h
      cases q : r.all (fun d => !Nat.beq d 32) with
      | false => rw [q] at h; cases h
      | true =>
        rw [q] at h
        cases h
        refine ⟨by rw [ec]; rfl, fun z => (nomatch z), fun z => ?_⟩
        have := List.all_eq_true.mp q 32 z
        cases this
    | false =>
      rw [e] at h
      cases q : spL r with
      | none => rw [q] at h; cases h
      | some p =>
        obtain ⟨a', b'⟩ := p
        rw [q] at h
        cases h
        obtain ⟨h1, h2, h3⟩ := ih q
        refine ⟨by rw [h1]; rfl, fun z => ?_, h3⟩
        rcases List.mem_cons.mp z with z | z
        · rw [← z] at e; cases e
        · exact h2 z
theorem spL_of : ∀ {a b : List Nat}, 32 ∉ a → 32 ∉ b → spL (a ++ 32 :: b) = some (a, b) := by
  intro a
  induction a with
  | nil =>
    intro b _ hb
    show (bif Nat.beq 32 32 then (bif b.all (fun d => !Nat.beq d 32) then some ([], b) else none) else _) = _
    have q : b.all (fun d => !Nat.beq d 32) = true := List.all_eq_true.mpr fun d hd => by
      cases e : Nat.beq d 32 with
      | false => rfl
      | true => exact absurd (Nat.eq_of_beq_eq_true e ▸ hd) hb
    rw [q]
    rfl
  | cons c a ih =>
    intro b ha hb
    have e : Nat.beq c 32 = false := by
      cases e : Nat.beq c 32 with
      | false => rfl
      | true => exact absurd (by rw [Nat.eq_of_beq_eq_true e]; exact List.mem_cons_self) ha
    show (bif Nat.beq c 32 then _ else (spL (a ++ 32 :: b)).map fun p => (c :: p.1, p.2)) = _
    rw [e, ih (fun z => ha (List.mem_cons_of_mem _ z)) hb]
    rfl
/-! ### figures, and the number -/
theorem val_cat (m : List Nat) (d : Nat) : valL (m ++ [d]) = valL m * 10 + (d - 48) := by
  unfold valL
  rw [List.foldl_append]
  rfl
theorem hd_valL : ∀ (k : Nat) (l : List Nat), l.length = k → (∀ d ∈ l, 48 ≤ d ∧ d ≤ 57) → l ≠ [] → (l.headD 0 ≠ 48 ∨ l.length = 1) → hd (valL l) = l ∧ valL l < 10 ^ l.length := by
  intro k
  induction k with
  | zero => intro l h _ h0; exact absurd (List.length_eq_zero_iff.mp h) h0
  | succ k ih =>
    intro l hlen hr h0 h1
    rcases List.eq_nil_or_concat l with rfl | ⟨m, d, rfl⟩
    · exact absurd rfl h0
    · rw [List.concat_eq_append] at *
      have hd1 := hr d (List.mem_append_right _ List.mem_cons_self)
      rw [List.length_append, List.length_singleton] at hlen
      rw [val_cat, List.length_append, List.length_singleton, Nat.pow_succ]
      cases m with
      | nil =>
        refine ⟨?_, by show 0 * 10 + (d - 48) < 1 * 10; omega⟩
        show hd (0 * 10 + (d - 48)) = [d]
        rw [hd_small (by omega), show 48 + (0 * 10 + (d - 48)) = d by omega]
      | cons e m =>
        have hh : e ≠ 48 := by
          rcases h1 with h | h
          · exact h
          · rw [List.length_append, List.length_cons] at h; simp at h
        obtain ⟨i1, i2⟩ := ih (e :: m) (by omega) (fun d hd => hr d (List.mem_append_left _ hd)) (by simp) (.inl hh)
        have pos : 0 < valL (e :: m) := Nat.pos_of_ne_zero fun z => by
          rw [z, hd_small (by decide)] at i1
          injection i1 with i1 _
          omega
        refine ⟨?_, by omega⟩
        rw [hd_big (by omega), show (valL (e :: m) * 10 + (d - 48)) / 10 = valL (e :: m) by omega, i1, show 48 + (valL (e :: m) * 10 + (d - 48)) % 10 = d by omega]
theorem num_of {b : List Nat} (h : nbL b = true) (hl : b.length ≤ 30) : ∃ n : Int, Str.L (num n) = b ∧ -(10 ^ 30) ≤ n ∧ n ≤ 10 ^ 30 := by
  by_cases z : b = [48]
  · exact ⟨0, by rw [z]; decide +kernel, by decide, by decide⟩
  · unfold nbL at h
    rw [decide_eq_false z, Bool.false_or, Bool.and_eq_true, Bool.and_eq_true] at h
    obtain ⟨h1, h2, h3⟩ := h
    have h1 : fgL b ≠ [] := fun q => by rw [decide_eq_true q] at h1; cases h1
    have h2 : (fgL b).headD 0 ≠ 48 := fun q => by rw [decide_eq_true q] at h2; cases h2
    have hr : ∀ d ∈ fgL b, 48 ≤ d ∧ d ≤ 57 := fun d hd => isF_iff.mp (List.all_eq_true.mp h3 d hd)
    obtain ⟨i1, i2⟩ := hd_valL _ (fgL b) rfl hr h1 (.inl h2)
    have fl : (fgL b).length ≤ 30 := by
      cases b with
      | nil => exact hl
      | cons c r =>
        rw [fgL_cons]
        cases Nat.beq c 45 with
        | true => exact Nat.le_trans (Nat.le_succ _) hl
        | false => exact hl
    have bd : valL (fgL b) < 10 ^ 30 := Nat.lt_of_lt_of_le i2 (Nat.pow_le_pow_right (by decide) fl)
    have pos : 0 < valL (fgL b) := Nat.pos_of_ne_zero fun q => by
      rw [q, hd_small (by decide)] at i1
      rw [← i1] at h2
      exact h2 rfl
    have case2 : (fgL b = b) ∨ (b = 45 :: fgL b) := by
      cases b with
      | nil => exact .inl rfl
      | cons c r =>
        rw [fgL_cons]
        cases e : Nat.beq c 45 with
        | true => exact .inr (by rw [Nat.eq_of_beq_eq_true e]; rfl)
        | false => exact .inl rfl
    generalize hv : valL (fgL b) = v at i1 bd pos
    rcases case2 with q | q
    · refine ⟨(v : Int), ?_, by omega, by omega⟩
      rw [num_L, if_neg (by omega), Int.natAbs_natCast, i1, q]
    · refine ⟨-(v : Int), ?_, by omega, by omega⟩
      rw [num_L, if_pos (by omega), Int.natAbs_neg, Int.natAbs_natCast, i1]
      exact q.symm
theorem in_two {z a b : Str} (h1 : z ≠ a) (h2 : z ≠ b) : inV (V.str z) [.str a, .str b] = false := by
  have e1 : eqV (.str a) (.str z) = false := beq_eq_false_iff_ne.mpr fun e => h1 e.symm
  have e2 : eqV (.str b) (.str z) = false := beq_eq_false_iff_ne.mpr fun e => h2 e.symm
  unfold inV
  rw [List.any_cons, List.any_cons, e1, e2]
  rfl
theorem split_is {z a b : Str} (h : Txt.split z " " = [a, b]) : Str.L z = Str.L a ++ 32 :: Str.L b ∧ 32 ∉ Str.L a ∧ 32 ∉ Str.L b := by
  have jn := StrLaws.join_split z " "
  have fr := StrLaws.split_free z 32
  rw [← blank_is, h] at fr
  rw [h] at jn
  have jn : (a ++ " ") ++ b = z := jn
  have bl : Str.L " " = [32] := by decide +kernel
  refine ⟨?_, fr a List.mem_cons_self, fr b (List.mem_cons_of_mem _ List.mem_cons_self)⟩
  rw [← jn, L_app, L_app, bl, List.append_assoc]
  rfl
theorem good_or {z : Str} (h : chk (Str.L z) = true) : z.length ≤ 30 ∧ ((∃ r : Rw, z = r.line ∧ RwOk r ∧ fineB z = true) ∨ (BadL z ∧ fineB z = false)) := by
  unfold chk at h
  rw [Bool.and_eq_true, Bool.and_eq_true] at h
  obtain ⟨h1, h2, h3⟩ := h
  have hz : (Str.L z).length ≤ 30 := of_decide_eq_true h1
  have hz' : z.length ≤ 30 := by rw [L_len]; exact hz
  have h3 : accL (Str.L z) = fineL (Str.L z) := of_decide_eq_true h3
  rw [← fine_L] at h3
  refine ⟨hz', ?_⟩
  have rep : (reprText z).length ≤ 1000000 := by
    have := StrLaws.reprText_len z fun d hd => by
      have q : d < 256 := of_decide_eq_true (List.all_eq_true.mp h2 d hd)
      exact Nat.lt_trans q (by decide)
    omega
  have nice : ∀ {x : Str}, nmL (Str.L x) = true → (Str.L x).length ≤ 30 → Nice x := fun {x} q l => ⟨by rw [nice_L]; exact q, by rw [L_len]; omega⟩
  have s1 : Str.L "tell" = [116, 101, 108, 108] := by decide +kernel
  have s2 : Str.L "halt" = [104, 97, 108, 116] := by decide +kernel
  have s3 : Str.L ":" = [58] := by decide +kernel
  have s4 : Str.L "grow" = [103, 114, 111, 119] := by decide +kernel
  have s5 : Str.L "jump" = [106, 117, 109, 112] := by decide +kernel
  have s6 : Str.L "when" = [119, 104, 101, 110] := by decide +kernel
  have bl : Str.L " " = [32] := by decide +kernel
  have c3 : Str.L (Txt.slice z none (some (-1))) = (Str.L z).dropLast := cut_last z
  cases hacc : accL (Str.L z) with
  | true =>
    have hf : fineB z = true := by rw [← h3]; exact hacc
    refine .inl ?_
    unfold accL at hacc
    rw [Bool.or_eq_true, Bool.or_eq_true, Bool.or_eq_true, Bool.and_eq_true] at hacc
    rcases hacc with ⟨q1, q2⟩ | q | q | q
    · have q1 := of_decide_eq_true q1
      have e := last_back q1
      refine ⟨.mark (Txt.slice z none (some (-1))), L_ext ?_, ⟨fun x hx => ?_, fun n hn => (by cases hn)⟩, hf⟩
      · show _ = Str.L (Txt.slice z none (some (-1)) ++ (":" : Str))
        rw [L_app, c3, s3, e]
      · cases hx
        exact nice (by rw [c3]; exact q2) (by rw [c3, List.length_dropLast]; omega)
    · exact ⟨.tell, L_ext ((of_decide_eq_true q).trans s1.symm), ⟨fun x hx => (by cases hx), fun n hn => (by cases hn)⟩, hf⟩
    · exact ⟨.halt, L_ext ((of_decide_eq_true q).trans s2.symm), ⟨fun x hx => (by cases hx), fun n hn => (by cases hn)⟩, hf⟩
    · cases e : spL (Str.L z) with
      | none => rw [e] at q; cases q
      | some p =>
        obtain ⟨a, b⟩ := p
        rw [e] at q
        obtain ⟨el, _, _⟩ := spL_some e
        have ll := congrArg List.length el
        rw [List.length_append, List.length_cons] at ll
        have bl30 : b.length ≤ 30 := by omega
        have q : (((decide (a = [106, 117, 109, 112]) || decide (a = [119, 104, 101, 110])) && nmL b) || (decide (a = [103, 114, 111, 119]) && nbL b)) = true := q
        rw [Bool.or_eq_true, Bool.and_eq_true, Bool.and_eq_true, Bool.or_eq_true] at q
        have eb : Str.L ⟨b.toArray⟩ = b := by simp
        rcases q with ⟨qa | qa, qb⟩ | ⟨qa, qb⟩
        · have qa := of_decide_eq_true qa
          refine ⟨.jump ⟨b.toArray⟩, L_ext ?_, ⟨fun x hx => ?_, fun n hn => (by cases hn)⟩, hf⟩
          · show _ = Str.L ((("jump" : Str) ++ " ") ++ ⟨b.toArray⟩)
            rw [L_app, L_app, s5, bl, eb, el, qa]
            rfl
          · cases hx
            exact nice (by rw [eb]; exact qb) (by rw [eb]; exact bl30)
        · have qa := of_decide_eq_true qa
          refine ⟨.whn ⟨b.toArray⟩, L_ext ?_, ⟨fun x hx => ?_, fun n hn => (by cases hn)⟩, hf⟩
          · show _ = Str.L ((("when" : Str) ++ " ") ++ ⟨b.toArray⟩)
            rw [L_app, L_app, s6, bl, eb, el, qa]
            rfl
          · cases hx
            exact nice (by rw [eb]; exact qb) (by rw [eb]; exact bl30)
        · have qa := of_decide_eq_true qa
          obtain ⟨n, en, n1, n2⟩ := num_of qb bl30
          refine ⟨.grow n, L_ext ?_, ⟨fun x hx => (by cases hx), fun m hm => ?_⟩, hf⟩
          · show _ = Str.L ((("grow" : Str) ++ " ") ++ num n)
            rw [L_app, L_app, s4, bl, en, el, qa]
            rfl
          · cases hm
            exact ⟨n1, n2⟩
  | false =>
    have hf : fineB z = false := by rw [← h3]; exact hacc
    refine .inr ⟨?_, hf⟩
    unfold accL at hacc
    rw [Bool.or_eq_false_iff, Bool.or_eq_false_iff, Bool.or_eq_false_iff] at hacc
    obtain ⟨q1, q2, q3, q4⟩ := hacc
    refine ⟨by omega, rep, fun q => ?_, in_two (fun q => ?_) (fun q => ?_), fun a b q => ?_⟩
    · rw [ends_colon] at q
      rw [q, Bool.true_and] at q1
      rw [nice_L, c3]
      exact q1
    · rw [q, s1] at q2
      cases q2
    · rw [q, s2] at q3
      cases q3
    · obtain ⟨el, na, nb⟩ := split_is q
      have ll := congrArg List.length el
      rw [List.length_append, List.length_cons] at ll
      rw [el, spL_of na nb] at q4
      have q4 : (((decide (Str.L a = [106, 117, 109, 112]) || decide (Str.L a = [119, 104, 101, 110])) && nmL (Str.L b)) || (decide (Str.L a = [103, 114, 111, 119]) && nbL (Str.L b))) = false := q4
      rw [Bool.or_eq_false_iff] at q4
      refine ⟨by rw [L_len]; omega, by rw [L_len]; omega, fun hi => ?_, fun hg => ?_⟩
      · have : (decide (Str.L a = [106, 117, 109, 112]) || decide (Str.L a = [119, 104, 101, 110])) = true := by
          by_cases y1 : a = "jump"
          · rw [y1, s5]; rfl
          · by_cases y2 : a = "when"
            · rw [y2, s6]; rfl
            · rw [in_two y1 y2] at hi
              cases hi
        rw [this, Bool.true_and] at q4
        rw [nice_L]
        exact q4.1
      · rw [hg, s4] at q4
        rw [num_B]
        exact q4.2
/-! ### the lines -/
noncomputable def menu : List Str := ["tell", "halt", "m0:", "grow 10", "grow -3", "jump a1", "when b", "grow 0", "z9y:", "grow 100000000000000000000", "jump tell", "when 1", "a b:", "grow +1", "", "tell ", "grow", "jump", "grow 01", "grow -0", "jump A", ":", "when 1a"]
noncomputable def menuL : List (List Nat) := [[116, 101, 108, 108], [104, 97, 108, 116], [109, 48, 58], [103, 114, 111, 119, 32, 49, 48], [103, 114, 111, 119, 32, 45, 51], [106, 117, 109, 112, 32, 97, 49], [119, 104, 101, 110, 32, 98], [103, 114, 111, 119, 32, 48], [122, 57, 121, 58], [103, 114, 111, 119, 32, 49, 48, 48, 48, 48, 48, 48, 48, 48, 48, 48, 48, 48, 48, 48, 48, 48, 48, 48, 48, 48], [106, 117, 109, 112, 32, 116, 101, 108, 108], [119, 104, 101, 110, 32, 49], [97, 32, 98, 58], [103, 114, 111, 119, 32, 43, 49], [], [116, 101, 108, 108, 32], [103, 114, 111, 119], [106, 117, 109, 112], [103, 114, 111, 119, 32, 48, 49], [103, 114, 111, 119, 32, 45, 48], [106, 117, 109, 112, 32, 65], [58], [119, 104, 101, 110, 32, 49, 97]]
theorem menu_L : menu.map Str.L = menuL := by decide +kernel
noncomputable def ln0 (j : Nat) : Str := menu.getD j ""
noncomputable def sgn : Str := "0 -a:B1_.'Z29+"
noncomputable def sgnL : List Nat := [48, 32, 45, 97, 58, 66, 49, 95, 46, 39, 90, 50, 57, 43]
theorem sgn_L : Str.L sgn = sgnL := by decide +kernel
noncomputable def ln1 (j sp d : Nat) : Str := (Txt.slice (ln0 j) none (some (sp : Int)) ++ ⟨#[sgn.cps.getD d 0]⟩) ++ Txt.slice (ln0 j) (some (sp : Int)) none
noncomputable def bgs : List Str := ["tell", "grow", "jump", "when", "a"]
noncomputable def jts : List Str := [" ", "", ":", "  "]
noncomputable def nds : List Str := ["7", "a", "-1", "", "a b", "x9"]
noncomputable def ln2 (a b d : Nat) : Str := (bgs.getD a "" ++ jts.getD b "") ++ nds.getD d ""
noncomputable def ln3 (j sp : Nat) : Str := Txt.slice (ln0 j) none (some (sp : Int)) ++ Txt.slice (ln0 j) (some ((sp : Int) + 1)) none
theorem ln0_L {j : Nat} (h : j < 23) : Str.L (ln0 j) = menuL.getD j [] := by
  have e : (menu.map Str.L)[j]? = menuL[j]? := by rw [menu_L]
  have hm : j < menu.length := h
  rw [List.getElem?_map, List.getElem?_eq_getElem hm] at e
  unfold ln0
  rw [List.getD_eq_getElem?_getD, List.getD_eq_getElem?_getD, List.getElem?_eq_getElem hm, ← e]
  rfl
/-- a place in a list, and what is put there; a place, and what is gone -/
noncomputable def c1 (p q : List Nat) : Bool := sgnL.all fun d => chk (p ++ (d :: q))
noncomputable def c1s : List Nat → List Nat → Bool
  | p, [] => c1 p []
  | p, c :: q => c1 p (c :: q) && c1s (p ++ [c]) q
noncomputable def c3s : List Nat → List Nat → Bool
  | p, [] => chk p
  | p, c :: q => chk (p ++ q) && c3s (p ++ [c]) q
theorem c1s_at : ∀ {q p : List Nat} {k d : Nat}, c1s p q = true → k ≤ q.length → d ∈ sgnL → chk ((p ++ q.take k) ++ (d :: q.drop k)) = true := by
  intro q
  induction q with
  | nil =>
    intro p k d h hk hd
    obtain rfl : k = 0 := by simpa using hk
    rw [List.take_nil, List.drop_nil, List.append_nil]
    exact List.all_eq_true.mp h d hd
  | cons c q ih =>
    intro p k d h hk hd
    have h : (c1 p (c :: q) && c1s (p ++ [c]) q) = true := h
    rw [Bool.and_eq_true] at h
    cases k with
    | zero =>
      rw [List.take_zero, List.drop_zero, List.append_nil]
      exact List.all_eq_true.mp h.1 d hd
    | succ k =>
      have := ih (p := p ++ [c]) (k := k) h.2 (by simpa using hk) hd
      rw [List.take_succ_cons, List.drop_succ_cons]
      rw [List.append_assoc p [c]] at this
      exact this
theorem c3s_at : ∀ {q p : List Nat} {k : Nat}, c3s p q = true → k ≤ q.length → chk ((p ++ q.take k) ++ q.drop (k + 1)) = true := by
  intro q
  induction q with
  | nil =>
    intro p k h hk
    rw [List.take_nil, List.drop_nil, List.append_nil, List.append_nil]
    exact h
  | cons c q ih =>
    intro p k h hk
    have h : (chk (p ++ q) && c3s (p ++ [c]) q) = true := h
    rw [Bool.and_eq_true] at h
    cases k with
    | zero =>
      rw [List.take_zero, List.append_nil, List.drop_succ_cons, List.drop_zero]
      exact h.1
    | succ k =>
      have := ih (p := p ++ [c]) (k := k) h.2 (by simpa using hk)
      rw [List.take_succ_cons, List.drop_succ_cons]
      rw [List.append_assoc p [c]] at this
      exact this
theorem g0_yes : (menuL.all chk) = true := by decide +kernel
theorem g1_yes : (menuL.all (c1s [])) = true := by decide +kernel
theorem g3_yes : (menuL.all (c3s [])) = true := by decide +kernel
theorem g2_yes : ∀ a : Fin 5, ∀ b : Fin 4, ∀ d : Fin 6, chk (Str.L (ln2 a.val b.val d.val)) = true := by decide +kernel
theorem menuL_mem {j : Nat} (h : j < 23) : menuL.getD j [] ∈ menuL := by
  have hm : j < menuL.length := h
  rw [List.getD_eq_getElem?_getD, List.getElem?_eq_getElem hm]
  exact List.getElem_mem hm
theorem good_0 {j : Nat} (h : j < 23) : chk (Str.L (ln0 j)) = true := by
  rw [ln0_L h]
  exact List.all_eq_true.mp g0_yes _ (menuL_mem h)
theorem good_1 {j sp d : Nat} (h : j < 23) (h1 : sp < (ln0 j).length + 1) (h2 : d < 14) : chk (Str.L (ln1 j sp d)) = true := by
  rw [L_len, ln0_L h] at h1
  unfold ln1
  rw [L_app, L_app, cut_take, cut_drop, ln0_L h, L_one, List.append_assoc]
  have hs : sgn.cps.getD d 0 ∈ sgnL := by
    have hd : d < sgn.cps.size := by
      have e : sgn.cps.size = 14 := by decide +kernel
      omega
    rw [← sgn_L, L_get sgn hd]
    exact List.getElem_mem _
  exact c1s_at (p := []) (List.all_eq_true.mp g1_yes _ (menuL_mem h)) (by omega) hs
theorem good_2 {a b d : Nat} (h : a < 5) (h1 : b < 4) (h2 : d < 6) : chk (Str.L (ln2 a b d)) = true := g2_yes ⟨a, h⟩ ⟨b, h1⟩ ⟨d, h2⟩
theorem good_3 {j sp : Nat} (h : j < 23) (h1 : sp < (ln0 j).length + 1) : chk (Str.L (ln3 j sp)) = true := by
  rw [L_len, ln0_L h] at h1
  unfold ln3
  have e : Str.L (Txt.slice (ln0 j) (some ((sp : Int) + 1)) none) = (Str.L (ln0 j)).drop (sp + 1) := cut_drop _ (sp + 1)
  rw [L_app, cut_take, e, ln0_L h]
  exact c3s_at (p := []) (List.all_eq_true.mp g3_yes _ (menuL_mem h)) (by omega)
theorem ln0_len : ∀ j, (ln0 j).length ≤ 26 := by
  have h : ∀ i : Fin 23, (ln0 i.val).length ≤ 26 := by decide +kernel
  intro j
  rcases Nat.lt_or_ge j 23 with z | z
  · exact h ⟨j, z⟩
  · unfold ln0
    rw [List.getD_eq_getElem?_getD, List.getElem?_eq_none (by show 23 ≤ j; exact z)]
    decide +kernel
end SC

set_option maxHeartbeats 8000000
namespace SC
open PySem PySem.Spec PyProof.Rows L2
theorem emod_nat {a : Int} (n : Nat) (h : 0 < n) : ∃ k : Nat, a % (n : Int) = (k : Nat) ∧ k < n := by
  have h1 := Int.emod_nonneg a (show ((n : Nat) : Int) ≠ 0 by omega)
  have h2 := Int.emod_lt_of_pos a (show (0 : Int) < ((n : Nat) : Int) by omega)
  exact ⟨(a % (n : Int)).toNat, by omega, by omega⟩
theorem at_strs {xs : List Str} {j : Nat} (h : j < xs.length) : atI (xs.map V.str) (j : Int) = some (.str (xs.getD j "")) := by
  refine atI_nat ?_
  rw [List.getElem?_map, List.getElem?_eq_getElem h, List.getD_eq_getElem?_getD, List.getElem?_eq_getElem h]
  rfl
theorem rep_strs (n : Nat) (z : Str) : (List.replicate n [V.str z]).flatten = (List.replicate n z).map V.str := by
  induction n with
  | zero => rfl
  | succ n ih => rw [List.replicate_succ, List.flatten_cons, ih, List.replicate_succ, List.map_cons]; rfl
theorem lns_cat (n m : Nat) (z : Str) : ((List.replicate n [V.str "tell"]).flatten ++ [V.str z]) ++ (List.replicate m [V.str "halt"]).flatten = (lns n z m).map V.str := by
  rw [rep_strs, rep_strs]
  unfold lns
  rw [List.map_append, List.map_cons, List.append_assoc]
  rfl
theorem sgn_at {d : Nat} (h : d < 14) : atI sgn.cps.toList (d : Int) = some (sgn.cps.getD d 0) := by
  have e : sgn.cps.size = 14 := by decide +kernel
  refine atI_nat ?_
  have h : d < sgn.cps.size := by omega
  simp [Array.getD, h]
section
variable {P : Program} {w : World} {K : PySem.W.Frag} {mg : Str → Option Value} {base : Heap} {c : Cn}
noncomputable abbrev s_law : Stmt := top 28
theorem sc_law : FnScope ["_law_script", "_law_menu", "_law_way", "_law_line", "_law_spot", "_law_lines", "_law_found", "_law_refused", "e", "_law_k"] ["_law_script"] (defScope s_law) := ⟨rfl, rfl, rfl, by decide +kernel, rfl, by decide +kernel, by decide +kernel⟩
/-- the names while the line is made -/
noncomputable def J11 (cc m : Addr) (ns : List Int) (way : Int) (ok : Str → Prop) (σ : L2.St) (H : Hp) : Prop := ∃ (z : Str) (v4 : Option V), σ = [some (.ref cc), some (.ref m), some (.int way), some (.str z), v4, none, none, none, none, none] ∧ H cc = some (.lst (ns.map V.int)) ∧ ok z
theorem ok_law {f : Addr} {fd : FuncData} (F : Fun K "law" "law" s_law f fd) (T : Tx P w K mg) (C : Tc K mg c) (h_read : Has1 P w K mg base 4 "read" ["lines"] (spReadA c)) (h__law_at : Has P w K mg base 1 "_law_at" ["_law_script", "_law_k"] spAt)
    (h__law_any_refusal : Has P w K mg base 5 "_law_any_refusal" ["_law_lines"] spAnyL) (h__law_fine : Has P w K mg base 2 "_law_fine" ["_law_line"] spFine) (h__law_are_rows : Has P w K mg base 2 "_law_are_rows" ["_law_found"] spAre)
    (h__law_line_of : Has P w K mg base 1 "_law_line_of" ["_law_row"] spLineOf) : FnOk P w K mg base CX0 6 f fd ["_law_script"] (spLaw K) := by
  refine F.ok sc_law (fun vs H Q E h => ?_) (fun cdv A outer s H vs Q E hr h => ?_)
  · obtain ⟨a, ns, rfl, _⟩ := h
    rfl
  · obtain ⟨a, ns, rfl, hS, hn, k⟩ := h
    refine ⟨_, (@pss_cons _ _ _ _ _ (@ps_set _ _ 0 _ _ _ _ sc_law.nd rfl (Or.inl rfl) (@pe_slice _ _ _ _ _ _ _ _ _ _ sl_list (pv 0) po_none (@po_some _ _ _ pe_int)) (by rfl) (by first | exact .inl rfl | exact .inr rfl | assumption)) (@pss_cons _ _ _ _ _ (@ps_set _ _ 1 _ _ _ _ sc_law.nd rfl (Or.inl rfl) (@pe_lst _ _ _ _ (@pa_con _ _ _ _ _ _ _ pe_str (@pa_con _ _ _ _ _ _ _ pe_str (@pa_con _ _ _ _ _ _ _ pe_str (@pa_con _ _ _ _ _ _ _ pe_str (@pa_con _ _ _ _ _ _ _ pe_str (@pa_con _ _ _ _ _ _ _ pe_str (@pa_con _ _ _ _ _ _ _ pe_str (@pa_con _ _ _ _ _ _ _ pe_str (@pa_con _ _ _ _ _ _ _ pe_str pa_nil)))))))))) (by rfl) (by first | exact .inl rfl | exact .inr rfl | assumption)) (@pss_cons _ _ _ _ _ (@ps_set _ _ 1 _ _ _ _ sc_law.nd rfl (Or.inl rfl) (@pe_op _ _ _ _ _ _ _ _ op_cat (pv 1) (@pe_lst _ _ _ _ (@pa_con _ _ _ _ _ _ _ pe_str (@pa_con _ _ _ _ _ _ _ pe_str (@pa_con _ _ _ _ _ _ _ pe_str (@pa_con _ _ _ _ _ _ _ pe_str (@pa_con _ _ _ _ _ _ _ pe_str pa_nil))))))) (by rfl) (by first | exact .inl rfl | exact .inr rfl | assumption)) (@pss_cons _ _ _ _ _ (@ps_set _ _ 1 _ _ _ _ sc_law.nd rfl (Or.inl rfl) (@pe_op _ _ _ _ _ _ _ _ op_cat (pv 1) (@pe_lst _ _ _ _ (@pa_con _ _ _ _ _ _ _ pe_str (@pa_con _ _ _ _ _ _ _ pe_str (@pa_con _ _ _ _ _ _ _ pe_str (@pa_con _ _ _ _ _ _ _ pe_str (@pa_con _ _ _ _ _ _ _ pe_str (@pa_con _ _ _ _ _ _ _ pe_str (@pa_con _ _ _ _ _ _ _ pe_str (@pa_con _ _ _ _ _ _ _ pe_str (@pa_con _ _ _ _ _ _ _ pe_str pa_nil))))))))))) (by rfl) (by first | exact .inl rfl | exact .inr rfl | assumption)) (@pss_cons _ _ _ _ _ (@ps_set _ _ 2 _ _ _ _ sc_law.nd rfl (Or.inl rfl) (@pe_op _ _ _ _ _ _ _ _ op_mod (pe_has h__law_at hr rfl (@pa_cons _ _ _ _ _ (pv 0) (@pa_con _ _ _ _ _ _ _ pe_int pa_nil) (by rfl))) pe_int) (by rfl) (by first | exact .inl rfl | exact .inr rfl | assumption)) (@pss_cons _ _ _ _ _ (@ps_set _ _ 3 _ _ _ _ sc_law.nd rfl (Or.inl rfl) (@pe_ix _ _ _ _ _ _ _ ix_list0 (pv 1) (@pe_op _ _ _ _ _ _ _ _ op_mod (pe_has h__law_at hr rfl (@pa_cons _ _ _ _ _ (pv 0) (@pa_con _ _ _ _ _ _ _ pe_int pa_nil) (by rfl))) pe_int) (fun _ _ => rfl)) (by rfl) (by first | exact .inl rfl | exact .inr rfl | assumption)) (@pss_cons _ _ _ _ _ (@ps_if _ _ _ _ _ _ _ _ (@pt_cmpR _ _ _ _ _ _ _ _ op_eq (pv 2) pe_int (nomark _)) (@pss_cons _ _ _ _ _ (@ps_set _ _ 4 _ _ _ _ sc_law.nd rfl (Or.inl rfl) (@pe_op _ _ _ _ _ _ _ _ op_mod (pe_has h__law_at hr rfl (@pa_cons _ _ _ _ _ (pv 0) (@pa_con _ _ _ _ _ _ _ pe_int pa_nil) (by rfl))) (@pe_op _ _ _ _ _ _ _ _ op_add (pe_callB call_len_str (by rfl) T.b_len bt_len (@pa_cons _ _ _ _ _ (pv 3) pa_nil (by rfl))) pe_int)) (by rfl) (by first | exact .inl rfl | exact .inr rfl | assumption)) (@pss_one _ _ _ (@ps_set _ _ 3 _ _ _ _ sc_law.nd rfl (Or.inl rfl) (@pe_op _ _ _ _ _ _ _ _ op_add_str (@pe_op _ _ _ _ _ _ _ _ op_add_str (@pe_slice _ _ _ _ _ _ _ _ _ _ sl_str (pv 3) po_none (@po_some _ _ _ (pv 4))) (@pe_ix _ _ _ _ _ _ _ ix_str pe_str (@pe_op _ _ _ _ _ _ _ _ op_mod (@pe_op _ _ _ _ _ _ _ _ op_fdiv (pe_has h__law_at hr rfl (@pa_cons _ _ _ _ _ (pv 0) (@pa_con _ _ _ _ _ _ _ pe_int pa_nil) (by rfl))) pe_int) pe_int) (fun _ _ => rfl))) (@pe_slice _ _ _ _ _ _ _ _ _ _ sl_str (pv 3) (@po_some _ _ _ (pv 4)) po_none)) (by rfl) (by first | exact .inl rfl | exact .inr rfl | assumption)))) pss_nil) (@pss_cons _ _ _ _ _ (@ps_if _ _ _ _ _ _ _ _ (@pt_cmpR _ _ _ _ _ _ _ _ op_eq (pv 2) pe_int (nomark _)) (@pss_cons _ _ _ _ _ (@ps_set _ _ 3 _ _ _ _ sc_law.nd rfl (Or.inl rfl) (@pe_ix _ _ _ _ _ _ _ ix_list0 (@pe_lst _ _ _ _ (@pa_con _ _ _ _ _ _ _ pe_str (@pa_con _ _ _ _ _ _ _ pe_str (@pa_con _ _ _ _ _ _ _ pe_str (@pa_con _ _ _ _ _ _ _ pe_str (@pa_con _ _ _ _ _ _ _ pe_str pa_nil)))))) (@pe_op _ _ _ _ _ _ _ _ op_mod (pe_has h__law_at hr rfl (@pa_cons _ _ _ _ _ (pv 0) (@pa_con _ _ _ _ _ _ _ pe_int pa_nil) (by rfl))) pe_int) (fun _ _ => rfl)) (by rfl) (by first | exact .inl rfl | exact .inr rfl | assumption)) (@pss_cons _ _ _ _ _ (@ps_set _ _ 3 _ _ _ _ sc_law.nd rfl (Or.inl rfl) (@pe_op _ _ _ _ _ _ _ _ op_add_str (pv 3) (@pe_ix _ _ _ _ _ _ _ ix_list0 (@pe_lst _ _ _ _ (@pa_con _ _ _ _ _ _ _ pe_str (@pa_con _ _ _ _ _ _ _ pe_str (@pa_con _ _ _ _ _ _ _ pe_str (@pa_con _ _ _ _ _ _ _ pe_str pa_nil))))) (@pe_op _ _ _ _ _ _ _ _ op_mod (pe_has h__law_at hr rfl (@pa_cons _ _ _ _ _ (pv 0) (@pa_con _ _ _ _ _ _ _ pe_int pa_nil) (by rfl))) pe_int) (fun _ _ => rfl))) (by rfl) (by first | exact .inl rfl | exact .inr rfl | assumption)) (@pss_one _ _ _ (@ps_set _ _ 3 _ _ _ _ sc_law.nd rfl (Or.inl rfl) (@pe_op _ _ _ _ _ _ _ _ op_add_str (pv 3) (@pe_ix _ _ _ _ _ _ _ ix_list0 (@pe_lst _ _ _ _ (@pa_con _ _ _ _ _ _ _ pe_str (@pa_con _ _ _ _ _ _ _ pe_str (@pa_con _ _ _ _ _ _ _ pe_str (@pa_con _ _ _ _ _ _ _ pe_str (@pa_con _ _ _ _ _ _ _ pe_str (@pa_con _ _ _ _ _ _ _ pe_str pa_nil))))))) (@pe_op _ _ _ _ _ _ _ _ op_mod (@pe_op _ _ _ _ _ _ _ _ op_fdiv (pe_has h__law_at hr rfl (@pa_cons _ _ _ _ _ (pv 0) (@pa_con _ _ _ _ _ _ _ pe_int pa_nil) (by rfl))) pe_int) pe_int) (fun _ _ => rfl))) (by rfl) (by first | exact .inl rfl | exact .inr rfl | assumption))))) pss_nil) (@pss_cons _ _ _ _ _ (@ps_if _ _ _ _ _ _ _ _ (@pt_cmpR _ _ _ _ _ _ _ _ op_eq (pv 2) pe_int (nomark _)) (@pss_cons _ _ _ _ _ (@ps_set _ _ 4 _ _ _ _ sc_law.nd rfl (Or.inl rfl) (@pe_op _ _ _ _ _ _ _ _ op_mod (pe_has h__law_at hr rfl (@pa_cons _ _ _ _ _ (pv 0) (@pa_con _ _ _ _ _ _ _ pe_int pa_nil) (by rfl))) (@pe_op _ _ _ _ _ _ _ _ op_add (pe_callB call_len_str (by rfl) T.b_len bt_len (@pa_cons _ _ _ _ _ (pv 3) pa_nil (by rfl))) pe_int)) (by rfl) (by first | exact .inl rfl | exact .inr rfl | assumption)) (@pss_one _ _ _ (@ps_set _ _ 3 _ _ _ _ sc_law.nd rfl (Or.inl rfl) (@pe_op _ _ _ _ _ _ _ _ op_add_str (@pe_slice _ _ _ _ _ _ _ _ _ _ sl_str (pv 3) po_none (@po_some _ _ _ (pv 4))) (@pe_slice _ _ _ _ _ _ _ _ _ _ sl_str (pv 3) (@po_some _ _ _ (@pe_op _ _ _ _ _ _ _ _ op_add (pv 4) pe_int)) po_none)) (by rfl) (by first | exact .inl rfl | exact .inr rfl | assumption)))) pss_nil) (@pss_cons _ _ _ _ _ (@ps_set _ _ 5 _ _ _ _ sc_law.nd rfl (Or.inl rfl) (@pe_op _ _ _ _ _ _ _ _ op_cat (@pe_op _ _ _ _ _ _ _ _ op_cat (@pe_op _ _ _ _ _ _ _ _ op_rep (@pe_lst _ _ _ _ (@pa_con _ _ _ _ _ _ _ pe_str pa_nil)) (@pe_op _ _ _ _ _ _ _ _ op_mod (pe_callB call_len_seq0 (by rfl) T.b_len bt_len (@pa_cons _ _ _ _ _ (pv 0) pa_nil (by rfl))) pe_int)) (@pe_lst _ _ _ _ (@pa_cons _ _ _ _ _ (pv 3) pa_nil (by rfl)))) (@pe_op _ _ _ _ _ _ _ _ op_rep (@pe_lst _ _ _ _ (@pa_con _ _ _ _ _ _ _ pe_str pa_nil)) (@pe_op _ _ _ _ _ _ _ _ op_mod (pe_callB call_len_seq0 (by rfl) T.b_len bt_len (@pa_cons _ _ _ _ _ (pv 0) pa_nil (by rfl))) pe_int))) (by rfl) (by first | exact .inl rfl | exact .inr rfl | assumption)) (@pss_cons _ _ _ _ _ (@ps_set _ _ 6 _ _ _ _ sc_law.nd rfl (Or.inl rfl) pe_non (by rfl) (by first | exact .inl rfl | exact .inr rfl | assumption)) (@pss_cons _ _ _ _ _ (@ps_set _ _ 7 _ _ _ _ sc_law.nd rfl (Or.inl rfl) pe_bl (by rfl) (by first | exact .inl rfl | exact .inr rfl | assumption)) (@pss_cons _ _ _ _ _ (ps_try (i := 8) rfl rfl rfl (fun E σ0 pn xe hx => (@pss_one _ _ _ (@ps_set _ _ 6 _ _ _ _ sc_law.nd rfl (Or.inl rfl) (pe_hasT h_read hr hx rfl (@pa_cons _ _ _ _ _ (pe_callTy call_list_of0 (by rfl) T.b_list bt_list (@pa_cons _ _ _ _ _ (pv 5) pa_nil (by rfl))) pa_nil (by rfl))) (by rfl) (by first | exact .inl rfl | exact .inr rfl | assumption)))) (fun ea => (@pss_cons _ _ _ _ _ (@ps_set _ _ 7 _ _ _ _ sc_law.nd rfl (Or.inl rfl) (@pe_and _ _ _ _ _ _ _ (pe_callB (show CallR _ _ (rIsE K) from call_isiE) (by rfl) T.b_isinstance bt_isinstance (@pa_cons _ _ _ _ _ (pv 8) (@pa_cons _ _ _ _ _ (pe_cls (by rfl) C.n_NoLine) pa_nil (by rfl)) (by rfl))) (@pe_one _ _ _ _ _ (pe_callB (show CallR _ _ (rIsE K) from call_isiE) (by rfl) T.b_isinstance bt_isinstance (@pa_cons _ _ _ _ _ (pv 8) (@pa_cons _ _ _ _ _ (pe_bty (by rfl) T.b_ValueError bt_ValueError) pa_nil (by rfl)) (by rfl))))) (by rfl) (by first | exact .inl rfl | exact .inr rfl | assumption)) (@pss_one _ _ _ (@ps_set _ _ 7 _ _ _ _ sc_law.nd rfl (Or.inl rfl) (@pe_and _ _ _ _ _ _ _ (pv 7) (@pe_one _ _ _ _ _ (pe_not (pe_callB (show CallR _ _ (rIsE K) from call_isiE) (by rfl) T.b_isinstance bt_isinstance (@pa_cons _ _ _ _ _ (pv 8) (@pa_cons _ _ _ _ _ (@pe_tup _ _ _ _ _ (@pa_cons _ _ _ _ _ (pe_cls (by rfl) C.n_NoCells) (@pa_cons _ _ _ _ _ (pe_cls (by rfl) C.n_NoMark) (@pa_cons _ _ _ _ _ (pe_cls (by rfl) C.n_NoRow) (@pa_cons _ _ _ _ _ (pe_cls (by rfl) C.n_TwoMarks) pa_nil (by rfl)) (by rfl)) (by rfl)) (by rfl))) pa_nil (by rfl)) (by rfl)))))) (by rfl) (by first | exact .inl rfl | exact .inr rfl | assumption))))) (by rfl) C.n_CellError C.e_CellError sc_law.nd rfl rfl) (@pss_cons _ _ _ _ _ (@ps_if _ _ _ _ _ _ _ _ (@PW.pt _ _ _ (@pw_and _ _ _ _ _ _ _ (pt_val (pv 7)) (@pw_and1 _ _ _ _ (@pt_not _ _ _ _ (pt_val (pe_has h__law_any_refusal hr rfl (@pa_cons _ _ _ _ _ (pv 5) pa_nil (by rfl)))))))) (@pss_one _ _ _ (@ps_ret _ _ _ _ pe_bl)) pss_nil) (@pss_cons _ _ _ _ _ (@ps_if _ _ _ _ _ _ _ _ (@PW.pt _ _ _ (@pw_or _ _ _ _ _ _ _ (pt_val (pv 7)) (@pw_or1 _ _ _ _ (@pt_not _ _ _ _ (pt_val (pe_has h__law_fine hr rfl (@pa_cons _ _ _ _ _ (pv 3) pa_nil (by rfl)))))))) (@pss_one _ _ _ (@ps_ret _ _ _ _ (@pe_and _ _ _ _ _ _ _ (pv 7) (@pe_one _ _ _ _ _ (pe_not (pe_has h__law_fine hr rfl (@pa_cons _ _ _ _ _ (pv 3) pa_nil (by rfl)))))))) pss_nil) (@pss_cons _ _ _ _ _ (@ps_if _ _ _ _ _ _ _ _ (@PW.pt _ _ _ (@pw_or _ _ _ _ _ _ _ (@pt_not _ _ _ _ (pt_val (pe_callB call_isi (by rfl) T.b_isinstance bt_isinstance (@pa_cons _ _ _ _ _ (pv 6) (@pa_cons _ _ _ _ _ (pe_bty (by rfl) T.b_list bt_list) pa_nil (by rfl)) (by rfl))))) (@pw_or1 _ _ _ _ (@pt_cmpR _ _ _ _ _ _ _ _ op_ne (pe_callB call_len_seq0 (by rfl) T.b_len bt_len (@pa_cons _ _ _ _ _ (pv 6) pa_nil (by rfl))) (pe_callB call_len_seq0 (by rfl) T.b_len bt_len (@pa_cons _ _ _ _ _ (pv 5) pa_nil (by rfl))) (nomark _))))) (@pss_one _ _ _ (@ps_ret _ _ _ _ pe_bl)) pss_nil) (@pss_cons _ _ _ _ _ (@ps_if _ _ _ _ _ _ _ _ (@pt_not _ _ _ _ (pt_val (pe_has h__law_are_rows hr rfl (@pa_cons _ _ _ _ _ (pv 6) pa_nil (by rfl))))) (@pss_one _ _ _ (@ps_ret _ _ _ _ pe_bl)) pss_nil) (@pss_cons _ _ _ _ _ (ps_for PassesOwn.never rfl (pi_range1 (by rfl) T.b_range (@pa_cons _ _ _ _ _ (pe_callB call_len_seq0 (by rfl) T.b_len bt_len (@pa_cons _ _ _ _ _ (pv 5) pa_nil (by rfl))) pa_nil (by rfl))) (pg_name (i := 9) sc_law.nd rfl (Or.inl rfl))         (@pss_one _ _ _ (@ps_if _ _ _ _ _ _ _ _ (@pt_cmpR _ _ _ _ _ _ _ _ op_ne (pe_has h__law_line_of hr rfl (@pa_cons _ _ _ _ _ (@pe_ix _ _ _ _ _ _ _ ix_list0 (pv 6) (pv 9) (fun _ _ => rfl)) pa_nil (by rfl))) (@pe_ix _ _ _ _ _ _ _ ix_list0 (pv 5) (pv 9) (fun _ _ => rfl)) (nomark _)) (@pss_one _ _ _ (@ps_ret _ _ _ _ pe_bl)) pss_nil))) (@pss_one _ _ _ (@ps_ret _ _ _ _ pe_bl)))))))))))))))))))), ?_⟩
    refine ⟨_, rfl, _, rfl, a, _, rfl, hS, fun cc hcc => ?_⟩
    rw [cut_all hn]
    have hc0 : upd H cc (.lst (ns.map V.int)) cc = some (.lst (ns.map V.int)) := upd_same
    generalize upd H cc (.lst (ns.map V.int)) = H0 at hc0 ⊢
    -- the menu
    refine ⟨s1000 (by show 9 ≤ 1000; decide), fun m1 hm1 => ?_⟩
    have u1 : Same H0 (upd H0 m1 (.lst ((menu.take 9).map V.str))) := (Same.refl _).upd hm1
    have g1 : upd H0 m1 (.lst ((menu.take 9).map V.str)) m1 = some (.lst ((menu.take 9).map V.str)) := upd_same
    change tSeq _ _ _ _ (upd H0 m1 (.lst ((menu.take 9).map V.str)))
    generalize upd H0 m1 (.lst ((menu.take 9).map V.str)) = H1 at u1 g1 ⊢
    refine ⟨_, rfl, s1000 (by show 5 ≤ 1000; decide), fun m2 hm2 => ?_⟩
    have u2 : Same H1 (upd H1 m2 (.lst (((menu.drop 9).take 5).map V.str))) := (Same.refl _).upd hm2
    have g2 : upd H1 m2 (.lst (((menu.drop 9).take 5).map V.str)) m2 = some (.lst (((menu.drop 9).take 5).map V.str)) := upd_same
    refine ⟨m1, m2, _, _, rfl, rfl, u2 _ _ g1, g2, s1000 (by show 9 + 5 ≤ 1000; decide), fun m3 hm3 => ?_⟩
    have u3 : Same (upd H1 m2 (.lst (((menu.drop 9).take 5).map V.str))) (upd (upd H1 m2 (.lst (((menu.drop 9).take 5).map V.str))) m3 (.lst ((menu.take 14).map V.str))) := (Same.refl _).upd hm3
    have g3 : upd (upd H1 m2 (.lst (((menu.drop 9).take 5).map V.str))) m3 (.lst ((menu.take 14).map V.str)) m3 = some (.lst ((menu.take 14).map V.str)) := upd_same
    have u3 := (u1.trans u2).trans u3
    change tSeq _ _ _ _ (upd (upd H1 m2 (.lst (((menu.drop 9).take 5).map V.str))) m3 (.lst ((menu.take 14).map V.str)))
    generalize upd (upd H1 m2 (.lst (((menu.drop 9).take 5).map V.str))) m3 (.lst ((menu.take 14).map V.str)) = H3 at u3 g3 ⊢
    refine ⟨_, rfl, s1000 (by show 9 ≤ 1000; decide), fun m4 hm4 => ?_⟩
    have u4 : Same H3 (upd H3 m4 (.lst ((menu.drop 14).map V.str))) := (Same.refl _).upd hm4
    have g4 : upd H3 m4 (.lst ((menu.drop 14).map V.str)) m4 = some (.lst ((menu.drop 14).map V.str)) := upd_same
    refine ⟨m3, m4, _, _, rfl, rfl, u4 _ _ g3, g4, s1000 (by show 14 + 9 ≤ 1000; decide), fun m hm => ?_⟩
    have u5 : Same (upd H3 m4 (.lst ((menu.drop 14).map V.str))) (upd (upd H3 m4 (.lst ((menu.drop 14).map V.str))) m (.lst (menu.map V.str))) := (Same.refl _).upd hm
    have g5 : upd (upd H3 m4 (.lst ((menu.drop 14).map V.str))) m (.lst (menu.map V.str)) m = some (.lst (menu.map V.str)) := upd_same
    have hc5 := ((u3.trans u4).trans u5) _ _ hc0
    change tSeq _ _ _ _ (upd (upd H3 m4 (.lst ((menu.drop 14).map V.str))) m (.lst (menu.map V.str)))
    generalize upd (upd H3 m4 (.lst ((menu.drop 14).map V.str))) m (.lst (menu.map V.str)) = H5 at g5 hc5 ⊢
    clear u1 g1 u2 g2 u3 g3 u4 g4 u5
    -- the way, the line
    refine ⟨_, rfl, cc, ns, 0, rfl, hc5, fun H6 s6 => ⟨_, _, rfl, rfl, (by decide : (0 : Int) < 4), ?_⟩⟩
    refine ⟨_, rfl, _, rfl, cc, ns, 1, rfl, s6 _ _ hc5, fun H7 s7 => ⟨_, _, rfl, rfl, (by decide : (0 : Int) < 23), ?_⟩⟩
    obtain ⟨j, hj0, hj⟩ := emod_nat (a := ns.getD 1 0) 23 (by decide)
    have hj0 : ns.getD 1 0 % 23 = (j : Nat) := hj0
    dsimp only
    rw [hj0]
    refine ⟨m, _, _, _, rfl, rfl, SqL.of (s7 _ _ (s6 _ _ g5)), at_strs (xs := menu) hj, ?_⟩
    have hc7 := s7 _ _ (s6 _ _ hc5)
    dsimp only [gName]
    generalize ns.getD 0 0 % 4 = way
    change tSeq _ _ _ [some (.ref cc), some (.ref m), some (.int way), some (.str (ln0 j)), none, none, none, none, none, none] _
    have l0 := ln0_len j
    have big0 : (ln0 j).length ≤ 3000 := by omega
    -- one sign more
    refine seq_cut (J11 cc m ns way fun z => (way ≠ 1 → z = ln0 j) ∧ (way = 1 → chk (Str.L z) = true)) (fun D' hJ => ?_) ?_
    · by_cases hw : way = 1
      · refine ⟨_, rfl, rfl, _, rfl, iteT' (by rw [dV]; exact decide_eq_true hw) ?_⟩
        refine ⟨_, rfl, cc, ns, 2, rfl, hc7, fun H8 s8 => ⟨_, rfl, _, rfl, s1000 (by omega), _, _, rfl, rfl, _, _, rfl, rfl, (by omega), ?_⟩⟩
        obtain ⟨sp, hs0, hs1⟩ := emod_nat (a := ns.getD 2 0) ((ln0 j).length + 1) (by omega)
        have hs0 : ns.getD 2 0 % (((ln0 j).length : Int) + 1) = (sp : Nat) := by rw [← hs0]; rfl
        dsimp only [gName]
        rw [hs0]
        obtain ⟨d, hd0, hd⟩ := emod_nat (a := ns.getD 2 0 / 20) 14 (by decide)
        have hd0 : ns.getD 2 0 / 20 % 14 = (d : Nat) := hd0
        have sl1 := Txt.slice_le (ln0 j) none (some (sp : Int))
        have sl2 := Txt.slice_le (ln0 j) (some (sp : Int)) none
        refine ⟨_, rfl, _, rfl, _, rfl, _, rfl, big0, ?_⟩
        refine ⟨_, rfl, cc, ns, 2, rfl, s8 _ _ hc7, fun H9 s9 => ⟨_, _, rfl, rfl, ⟨by decide, by decide⟩, _, _, rfl, rfl, (by decide : (0 : Int) < 14), ?_⟩⟩
        dsimp only
        rw [hd0]
        refine ⟨sgn, _, _, rfl, rfl, (by decide +kernel), sgn_at hd, ?_⟩
        refine ⟨_, _, rfl, rfl, s1000 (by show (Txt.slice (ln0 j) none (some (sp : Int))).length + 1 ≤ 1000; omega), ?_⟩
        refine ⟨_, rfl, _, rfl, _, rfl, _, rfl, big0, ?_⟩
        refine ⟨_, _, rfl, rfl, s1000 ?_, ?_⟩
        · rw [strLen_append]
          show (Txt.slice (ln0 j) none (some (sp : Int))).length + 1 + _ ≤ 1000
          omega
        · exact hJ _ _ ⟨ln1 j sp d, _, rfl, s9 _ _ (s8 _ _ hc7), fun z => absurd hw z, fun _ => good_1 hj hs1 hd⟩
      · exact ⟨_, rfl, rfl, _, rfl, iteF' (by rw [dV]; exact decide_eq_false hw) (hJ _ _ ⟨ln0 j, _, rfl, hc7, fun _ => rfl, fun z => absurd z hw⟩)⟩
    clear hc7 s6 s7 g5 hc5
    rintro _ H8 ⟨z, v4, rfl, hc8, hz0, hz1⟩
    -- a beginning, a joint, an end
    refine seq_cut (J11 cc m ns way fun z => (way ≠ 1 → way ≠ 2 → z = ln0 j) ∧ (way = 1 ∨ way = 2 → chk (Str.L z) = true)) (fun D' hJ => ?_) ?_
    · by_cases hw : way = 2
      · refine ⟨_, rfl, rfl, _, rfl, iteT' (by rw [dV]; exact decide_eq_true hw) ?_⟩
        obtain ⟨a1, ha0, ha1⟩ := emod_nat (a := ns.getD 1 0) 5 (by decide)
        have ha0 : ns.getD 1 0 % 5 = (a1 : Nat) := ha0
        obtain ⟨b1, hb0, hb1⟩ := emod_nat (a := ns.getD 2 0) 4 (by decide)
        have hb0 : ns.getD 2 0 % 4 = (b1 : Nat) := hb0
        obtain ⟨d1, hd0, hd1⟩ := emod_nat (a := ns.getD 2 0 / 4) 6 (by decide)
        have hd0 : ns.getD 2 0 / 4 % 6 = (d1 : Nat) := hd0
        have la : (bgs.getD a1 "").length ≤ 4 := (show ∀ i : Fin 5, (bgs.getD i.val "").length ≤ 4 by decide +kernel) ⟨a1, ha1⟩
        have lb : (jts.getD b1 "").length ≤ 4 := (show ∀ i : Fin 4, (jts.getD i.val "").length ≤ 4 by decide +kernel) ⟨b1, hb1⟩
        have ld : (nds.getD d1 "").length ≤ 4 := (show ∀ i : Fin 6, (nds.getD i.val "").length ≤ 4 by decide +kernel) ⟨d1, hd1⟩
        refine ⟨s1000 (by show 5 ≤ 1000; decide), fun l1 hl1 => ?_⟩
        have v1 : Same H8 (upd H8 l1 (.lst (bgs.map V.str))) := (Same.refl _).upd hl1
        have w1 : upd H8 l1 (.lst (bgs.map V.str)) l1 = some (.lst (bgs.map V.str)) := upd_same
        refine ⟨_, rfl, cc, ns, 1, rfl, v1 _ _ hc8, fun H9 s9 => ⟨_, _, rfl, rfl, (by decide : (0 : Int) < 5), ?_⟩⟩
        dsimp only
        rw [ha0]
        refine ⟨l1, _, _, _, rfl, rfl, SqL.of (s9 _ _ w1), at_strs (xs := bgs) ha1, ?_⟩
        have hc9 := s9 _ _ (v1 _ _ hc8)
        dsimp only [gName]
        refine ⟨_, rfl, s1000 (by show 4 ≤ 1000; decide), fun l2 hl2 => ?_⟩
        have v2 : Same H9 (upd H9 l2 (.lst (jts.map V.str))) := (Same.refl _).upd hl2
        have w2 : upd H9 l2 (.lst (jts.map V.str)) l2 = some (.lst (jts.map V.str)) := upd_same
        refine ⟨_, rfl, cc, ns, 2, rfl, v2 _ _ hc9, fun H10 s10 => ⟨_, _, rfl, rfl, (by decide : (0 : Int) < 4), ?_⟩⟩
        dsimp only
        rw [hb0]
        refine ⟨l2, _, _, _, rfl, rfl, SqL.of (s10 _ _ w2), at_strs (xs := jts) hb1, ?_⟩
        have hc10 := s10 _ _ (v2 _ _ hc9)
        refine ⟨_, _, rfl, rfl, s1000 (by omega), ?_⟩
        dsimp only [gName]
        refine ⟨_, rfl, s1000 (by show 6 ≤ 1000; decide), fun l3 hl3 => ?_⟩
        have v3 : Same H10 (upd H10 l3 (.lst (nds.map V.str))) := (Same.refl _).upd hl3
        have w3 : upd H10 l3 (.lst (nds.map V.str)) l3 = some (.lst (nds.map V.str)) := upd_same
        refine ⟨_, rfl, cc, ns, 2, rfl, v3 _ _ hc10, fun H11 s11 => ⟨_, _, rfl, rfl, ⟨by decide, by decide⟩, _, _, rfl, rfl, (by decide : (0 : Int) < 6), ?_⟩⟩
        dsimp only
        rw [hd0]
        refine ⟨l3, _, _, _, rfl, rfl, SqL.of (s11 _ _ w3), at_strs (xs := nds) hd1, ?_⟩
        refine ⟨_, _, rfl, rfl, s1000 (by rw [strLen_append]; omega), ?_⟩
        exact hJ _ _ ⟨ln2 a1 b1 d1, _, rfl, s11 _ _ (v3 _ _ hc10), fun _ y => absurd hw y, fun _ => good_2 ha1 hb1 hd1⟩
      · refine ⟨_, rfl, rfl, _, rfl, iteF' (by rw [dV]; exact decide_eq_false hw) (hJ _ _ ⟨z, v4, rfl, hc8, fun y _ => hz0 y, fun y => hz1 (y.resolve_right hw)⟩)⟩
    clear hc8 hz0 hz1
    rintro _ H9 ⟨z, v4, rfl, hc9, hz0, hz1⟩
    -- one sign less
    refine seq_cut (J11 cc m ns way fun z => chk (Str.L z) = true) (fun D' hJ => ?_) ?_
    · by_cases hw : way = 3
      · obtain rfl := hz0 (by omega) (by omega)
        refine ⟨_, rfl, rfl, _, rfl, iteT' (by rw [dV]; exact decide_eq_true hw) ?_⟩
        refine ⟨_, rfl, cc, ns, 2, rfl, hc9, fun H10 s10 => ⟨_, rfl, _, rfl, s1000 (by omega), _, _, rfl, rfl, _, _, rfl, rfl, (by omega), ?_⟩⟩
        obtain ⟨sp, hs0, hs1⟩ := emod_nat (a := ns.getD 2 0) ((ln0 j).length + 1) (by omega)
        have hs0 : ns.getD 2 0 % (((ln0 j).length : Int) + 1) = (sp : Nat) := by rw [← hs0]; rfl
        dsimp only [gName]
        rw [hs0]
        have sl1 := Txt.slice_le (ln0 j) none (some (sp : Int))
        have sl2 := Txt.slice_le (ln0 j) (some ((sp : Int) + 1)) none
        refine ⟨_, rfl, _, rfl, _, rfl, _, rfl, big0, ?_⟩
        refine ⟨_, rfl, _, rfl, _, _, rfl, rfl, _, rfl, _, rfl, big0, ?_⟩
        refine ⟨_, _, rfl, rfl, s1000 (by omega), ?_⟩
        exact hJ _ _ ⟨ln3 j sp, _, rfl, s10 _ _ hc9, good_3 hj hs1⟩
      · refine ⟨_, rfl, rfl, _, rfl, iteF' (by rw [dV]; exact decide_eq_false hw) (hJ _ _ ⟨z, v4, rfl, hc9, ?_⟩)⟩
        by_cases h1 : way = 1
        · exact hz1 (.inl h1)
        · by_cases h2 : way = 2
          · exact hz1 (.inr h2)
          · rw [hz0 h1 h2]
            exact good_0 hj
    clear hc9 hz0 hz1 hj0 hj l0 big0
    rintro _ H10 ⟨z, v4, rfl, hc10, hz⟩
    obtain ⟨zl, hcase⟩ := good_or hz
    -- the lines
    obtain ⟨n, hn0, hn1⟩ := emod_nat (a := ((ns.map V.int).length : Int)) 3 (by decide)
    have hn0 : (((ns.map V.int).length : Nat) : Int) % 3 = (n : Nat) := hn0
    obtain ⟨mm, hm0, hm1⟩ := emod_nat (a := ((ns.map V.int).length : Int)) 2 (by decide)
    have hm0 : (((ns.map V.int).length : Nat) : Int) % 2 = (mm : Nat) := hm0
    refine seq_cut (fun σ H11 => ∃ l : Addr, σ = [some (.ref cc), some (.ref m), some (.int way), some (.str z), v4, some (.ref l), none, none, none, none] ∧ H11 l = some (.lst ((lns n z mm).map V.str))) (fun D' hJ => ?_) ?_
    · refine ⟨s1000 (by show 1 ≤ 1000; decide), fun a1 ha1 => ?_⟩
      have v1 : Same H10 (upd H10 a1 (.lst [.str "tell"])) := (Same.refl _).upd ha1
      refine ⟨_, rfl, cc, _, rfl, .inl (SqL.of (v1 _ _ hc10)), _, _, rfl, rfl, (by decide : (0 : Int) < 3), ?_⟩
      dsimp only
      rw [hn0]
      refine ⟨a1, _, _, rfl, rfl, upd_same, (by omega), (by omega), s1000 (by show 1 * n ≤ 1000; omega), fun a2 ha2 => ?_⟩
      have v2 : Same H10 (upd (upd H10 a1 (.lst [.str "tell"])) a2 (.lst (List.replicate n [V.str "tell"]).flatten)) := v1.trans ((Same.refl _).upd ha2)
      have w2 : upd (upd H10 a1 (.lst [.str "tell"])) a2 (.lst (List.replicate n [V.str "tell"]).flatten) a2 = some (.lst (List.replicate n [V.str "tell"]).flatten) := upd_same
      have hc2 := v2 _ _ hc10
      rw [show ((n : Nat) : Int).toNat = n from rfl] at *
      generalize upd (upd H10 a1 (.lst [.str "tell"])) a2 (.lst (List.replicate n [V.str "tell"]).flatten) = H11 at w2 hc2 ⊢
      refine ⟨_, rfl, s1000 (by show 1 ≤ 1000; decide), fun a3 ha3 => ?_⟩
      have v3 : Same H11 (upd H11 a3 (.lst [.str z])) := (Same.refl _).upd ha3
      have rl : ((List.replicate n [V.str "tell"]).flatten).length = n := by rw [rep_strs, List.length_map, List.length_replicate]
      refine ⟨a2, a3, _, _, rfl, rfl, v3 _ _ w2, upd_same, s1000 (by rw [rl]; show n + 1 ≤ 1000; omega), fun a4 ha4 => ?_⟩
      have v4' : Same (upd H11 a3 (.lst [.str z])) (upd (upd H11 a3 (.lst [.str z])) a4 (.lst ((List.replicate n [V.str "tell"]).flatten ++ [.str z]))) := (Same.refl _).upd ha4
      have w4 : upd (upd H11 a3 (.lst [.str z])) a4 (.lst ((List.replicate n [V.str "tell"]).flatten ++ [.str z])) a4 = some (.lst ((List.replicate n [V.str "tell"]).flatten ++ [.str z])) := upd_same
      have hc4 := v4' _ _ (v3 _ _ hc2)
      generalize upd (upd H11 a3 (.lst [.str z])) a4 (.lst ((List.replicate n [V.str "tell"]).flatten ++ [.str z])) = H12 at w4 hc4 ⊢
      refine ⟨s1000 (by show 1 ≤ 1000; decide), fun a5 ha5 => ?_⟩
      have v5 : Same H12 (upd H12 a5 (.lst [.str "halt"])) := (Same.refl _).upd ha5
      refine ⟨_, rfl, cc, _, rfl, .inl (SqL.of (v5 _ _ hc4)), _, _, rfl, rfl, (by decide : (0 : Int) < 2), ?_⟩
      dsimp only
      rw [hm0]
      refine ⟨a5, _, _, rfl, rfl, upd_same, (by omega), (by omega), s1000 (by show 1 * mm ≤ 1000; omega), fun a6 ha6 => ?_⟩
      rw [show ((mm : Nat) : Int).toNat = mm from rfl]
      have v6 : Same (upd H12 a5 (.lst [.str "halt"])) (upd (upd H12 a5 (.lst [.str "halt"])) a6 (.lst (List.replicate mm [V.str "halt"]).flatten)) := (Same.refl _).upd ha6
      have rm : ((List.replicate mm [V.str "halt"]).flatten).length = mm := by rw [rep_strs, List.length_map, List.length_replicate]
      refine ⟨a4, a6, _, _, rfl, rfl, v6 _ _ (v5 _ _ w4), upd_same, s1000 (by rw [List.length_append, rl, rm]; show n + 1 + mm ≤ 1000; omega), fun a7 ha7 => hJ _ _ ⟨a7, rfl, by rw [upd_same, lns_cat]⟩⟩
    rintro _ H11 ⟨l, rfl, hl⟩
    clear hc10 hn0 hm0
    refine seq_cut (fun σ H12 => σ = [some (.ref cc), some (.ref m), some (.int way), some (.str z), v4, some (.ref l), some .non, none, none, none] ∧ H11 = H12) (fun D' hJ => hJ _ _ ⟨rfl, rfl⟩) ?_
    rintro _ _ ⟨rfl, rfl⟩
    refine seq_cut (fun σ H12 => σ = [some (.ref cc), some (.ref m), some (.int way), some (.str z), v4, some (.ref l), some .non, some (.bl false), none, none] ∧ H11 = H12) (fun D' hJ => hJ _ _ ⟨rfl, rfl⟩) ?_
    rintro _ _ ⟨rfl, rfl⟩
    -- they are read, or refused
    refine seq_cut (fun σ H12 => H12 l = some (.lst ((lns n z mm).map V.str)) ∧ ((∃ (r : Rw) (fo : Addr), σ = [some (.ref cc), some (.ref m), some (.int way), some (.str z), v4, some (.ref l), some (.ref fo), some (.bl false), none, none] ∧ RowsAt H12 fo (rws n r mm) ∧ RwOk r ∧ z = r.line ∧ fineB z = true) ∨
        (σ = [some (.ref cc), some (.ref m), some (.int way), some (.str z), v4, some (.ref l), some .non, some (.bl true), none, none] ∧ BadL z ∧ fineB z = false))) (fun D' hJ => ?_) ?_
    · rcases hcase with ⟨r, hzr, ok, hf⟩ | ⟨bad, hf⟩
      · refine ⟨fun _ _ _ => False, ?_, fun _ _ y => y.elim⟩
        exact ⟨rfl, _, rfl, l, _, rfl, .inl (SqL.of hl), fun l2 hl2 => ⟨l2, n, mm, z, rfl, upd_same, by omega, by omega, .inl ⟨r, hzr, ok, fun fo H12 s12 hR => hJ _ _ ⟨(((Same.refl _).upd hl2).trans s12) _ _ hl, .inl ⟨r, fo, rfl, hR, ok, hzr, hf⟩⟩⟩⟩⟩
      · refine ⟨fun v _ H1 => v = .ref c.NoLine ∧ Same H11 H1, ?_, ?_⟩
        · exact ⟨rfl, _, rfl, l, _, rfl, .inl (SqL.of hl), fun l2 hl2 => ⟨l2, n, mm, z, rfl, upd_same, by omega, by omega, .inr ⟨bad, fun H1 s1 => ⟨rfl, ((Same.refl _).upd hl2).trans s1⟩⟩⟩⟩
        · rintro _ H1 ⟨rfl, s1⟩
          refine ⟨_, rfl, C.e_NoLine, C.u_NoLine, fun ea hea => ?_⟩
          have hE : upd H1 ea (ExO ea c.NoLine) ea = some (ExO ea c.NoLine) := upd_same
          have s2 : Same H1 (upd H1 ea (ExO ea c.NoLine)) := (Same.refl H1).upd hea
          generalize upd H1 ea (ExO ea c.NoLine) = H2 at hE s2 ⊢
          refine ⟨_, rfl, ea, c.NoLine, _, hE, C.e_NoLine, .inl ⟨_, rfl, C.i_NoLine_NoLine⟩, _, rfl, iteT ?_⟩
          refine ⟨_, rfl, ea, c.NoLine, _, hE, C.e_NoLine, .inr (.inl ⟨_, rfl, C.v_NoLine⟩), ?_⟩
          refine ⟨_, rfl, _, rfl, iteT ?_⟩
          refine ⟨_, rfl, s1000 (by show 4 ≤ 1000; decide), fun tp htp => ?_⟩
          have s3 : Same H2 (upd H2 tp (.tup [.ref c.NoCells, .ref c.NoMark, .ref c.NoRow, .ref c.TwoMarks])) := (Same.refl H2).upd htp
          refine ⟨ea, c.NoLine, _, s3 _ _ hE, C.e_NoLine, .inr (.inr ⟨tp, [c.NoCells, c.NoMark, c.NoRow, c.TwoMarks], rfl, upd_same, kit_four C.i_NoLine_NoCells C.i_NoLine_NoMark C.i_NoLine_NoRow C.i_NoLine_TwoMarks⟩), _, rfl, ?_⟩
          exact hJ _ _ ⟨s3 _ _ (s2 _ _ (s1 _ _ hl)), .inr ⟨rfl, bad, hf⟩⟩
    clear hl hcase hz
    rintro σ H12 ⟨hl, ⟨r, fo, rfl, hR, ok, hzr, hf⟩ | ⟨rfl, bad, hf⟩⟩
    · refine ⟨_, rfl, _, rfl, iteF (iteF ?_)⟩
      refine ⟨_, rfl, _, rfl, iteF ⟨_, rfl, z, rfl, by omega, fun H13 s13 => ⟨_, rfl, iteF' (by rw [hf]; rfl) ?_⟩⟩⟩
      have hl := s13 _ _ hl
      have hR := hR.same s13
      have okr := rws_ok (n := n) (m := mm) ok
      have rl : (rws n r mm).length = n + mm + 1 := by
        have := congrArg List.length (lns_rws n r mm)
        rw [lns_len, List.length_map] at this
        exact this.symm
      have el : (lns n z mm).map V.str = (rws n r mm).map fun q => V.str q.line := by
        rw [hzr, lns_rws, List.map_map]
        rfl
      rw [el] at hl
      generalize rws n r mm = rs at hR okr rl hl
      obtain ⟨ps, hf0, hP⟩ := id hR
      have pl := Paired.length hP
      have ll : (rs.map fun q => V.str q.line).length = rs.length := List.length_map _
      refine ⟨_, rfl, _, _, _, _, rfl, .lst hf0, kit_ll K, _, rfl, iteF' rfl ?_⟩
      refine ⟨_, rfl, fo, _, rfl, .inl (SqL.of hf0), _, rfl, l, _, rfl, .inl (SqL.of hl), rfl, _, rfl, iteF' (dnot (by rw [ll, List.length_map, pl])) ?_⟩
      refine ⟨_, rfl, fo, rs, rfl, hR, fun H14 s14 => ⟨_, rfl, iteF' rfl ?_⟩⟩
      have hl := s14 _ _ hl
      have hf1 := s14 _ _ hf0
      refine ⟨_, rfl, l, _, rfl, .inl (SqL.of hl), _, rfl, (by rw [ll]; omega), (by rw [ll]; omega), ?_⟩
      rw [ll, show ((rs.length : Nat) : Int).toNat = rs.length from rfl]
      refine for_rng (fun i σ H15 => ∃ v9, σ = [some (.ref cc), some (.ref m), some (.int way), some (.str z), v4, some (.ref l), some (.ref fo), some (.bl false), none, v9] ∧ Same H14 H15) ⟨_, rfl, Same.refl H14⟩ ?_ (fun σ H15 _ => k H15)
      rintro i σ H15 hi ⟨v9, rfl, s15⟩
      have hri : rs[i]? = some rs[i] := List.getElem?_eq_getElem hi
      obtain ⟨p, e1, hp⟩ := Paired.at hP hri
      have e2 : (ps.map V.ref)[i]? = some (.ref p) := by rw [List.getElem?_map, e1]; rfl
      have e3 : (rs.map fun q => V.str q.line)[i]? = some (.str rs[i].line) := by rw [List.getElem?_map, hri]; rfl
      refine ⟨_, rfl, _, rfl, fo, _, i, _, rfl, rfl, SqL.of (s15 _ _ hf1), atI_nat e2, p, rs[i], rfl, s15 _ _ (s14 _ _ hp), okr _ (List.getElem_mem hi), fun H16 s16 => ?_⟩
      exact ⟨_, rfl, _, rfl, l, _, i, _, rfl, rfl, SqL.of (s16 _ _ (s15 _ _ hl)), atI_nat e3, rfl, _, rfl, iteF' (dnot rfl) ⟨_, rfl, s15.trans s16⟩⟩
    · refine ⟨_, rfl, _, rfl, iteT ⟨_, rfl, l, n, mm, z, rfl, hl, by omega, by omega, bad, fun H13 s13 => ⟨_, rfl, iteF' rfl ?_⟩⟩⟩
      refine ⟨_, rfl, _, rfl, iteT (iteT ?_)⟩
      refine ⟨_, rfl, _, rfl, iteT ⟨_, rfl, z, rfl, by omega, fun H14 s14 => ⟨_, rfl, ?_⟩⟩⟩
      rw [hf]
      exact k H14
end
end SC
namespace SC
open PySem L2
section
set_option linter.unusedVariables false
theorem all_mk {l : PySem.W.OpenLaw} {w : World} {K : PySem.W.Frag} {h : Heap} {mg : Str → Option Value} {fa : Addr} (X : K.In h) (G : h.Ns mainGlobals mg) (hfa : mg "law" = some (.ref fa))
    {t_LETTERS : Tok}
    {t_FIGURES : Tok}
    {t0_LONE_WORDS t1_LONE_WORDS : Tok} {a_LONE_WORDS : Addr} {n_LONE_WORDS : Nat} {d_LONE_WORDS : Option Addr} {s_LONE_WORDS : Array (Option Value)}
    {t0_LEADING_WORDS t1_LEADING_WORDS : Tok} {a_LEADING_WORDS : Addr} {n_LEADING_WORDS : Nat} {d_LEADING_WORDS : Option Addr} {s_LEADING_WORDS : Array (Option Value)}
    {c_CellError : Addr}
    {c_NoRow : Addr}
    {c_TwoMarks : Addr}
    {c_NoMark : Addr}
    {c_NoCells : Addr}
    {c_NoLine : Addr}
    {f_is_name : Addr} {od_is_name an_is_name : Option Addr} {sl_is_name : Array (Option Value)} {oc_is_name kV_is_name dc_is_name pm_is_name cd_is_name ct_is_name : Value}
    {f_without_minus : Addr} {od_without_minus an_without_minus : Option Addr} {sl_without_minus : Array (Option Value)} {oc_without_minus kV_without_minus dc_without_minus pm_without_minus cd_without_minus ct_without_minus : Value}
    {f_is_written_number : Addr} {od_is_written_number an_is_written_number : Option Addr} {sl_is_written_number : Array (Option Value)} {oc_is_written_number kV_is_written_number dc_is_written_number pm_is_written_number cd_is_written_number ct_is_written_number : Value}
    {f_number_of : Addr} {od_number_of an_number_of : Option Addr} {sl_number_of : Array (Option Value)} {oc_number_of kV_number_of dc_number_of pm_number_of cd_number_of ct_number_of : Value}
    {f_row_of : Addr} {od_row_of an_row_of : Option Addr} {sl_row_of : Array (Option Value)} {oc_row_of kV_row_of dc_row_of pm_row_of cd_row_of ct_row_of : Value}
    {f_read : Addr} {od_read an_read : Option Addr} {sl_read : Array (Option Value)} {oc_read kV_read dc_read pm_read cd_read ct_read : Value}
    {f__law_whole : Addr} {od__law_whole an__law_whole : Option Addr} {sl__law_whole : Array (Option Value)} {oc__law_whole kV__law_whole dc__law_whole pm__law_whole cd__law_whole ct__law_whole : Value}
    {f__law_at : Addr} {od__law_at an__law_at : Option Addr} {sl__law_at : Array (Option Value)} {oc__law_at kV__law_at dc__law_at pm__law_at cd__law_at ct__law_at : Value}
    {f__law_named : Addr} {od__law_named an__law_named : Option Addr} {sl__law_named : Array (Option Value)} {oc__law_named kV__law_named dc__law_named pm__law_named cd__law_named ct__law_named : Value}
    {f__law_numbered : Addr} {od__law_numbered an__law_numbered : Option Addr} {sl__law_numbered : Array (Option Value)} {oc__law_numbered kV__law_numbered dc__law_numbered pm__law_numbered cd__law_numbered ct__law_numbered : Value}
    {f__law_fine : Addr} {od__law_fine an__law_fine : Option Addr} {sl__law_fine : Array (Option Value)} {oc__law_fine kV__law_fine dc__law_fine pm__law_fine cd__law_fine ct__law_fine : Value}
    {f__law_any_refusal : Addr} {od__law_any_refusal an__law_any_refusal : Option Addr} {sl__law_any_refusal : Array (Option Value)} {oc__law_any_refusal kV__law_any_refusal dc__law_any_refusal pm__law_any_refusal cd__law_any_refusal ct__law_any_refusal : Value}
    {f__law_are_rows : Addr} {od__law_are_rows an__law_are_rows : Option Addr} {sl__law_are_rows : Array (Option Value)} {oc__law_are_rows kV__law_are_rows dc__law_are_rows pm__law_are_rows cd__law_are_rows ct__law_are_rows : Value}
    {f__law_line_of : Addr} {od__law_line_of an__law_line_of : Option Addr} {sl__law_line_of : Array (Option Value)} {oc__law_line_of kV__law_line_of dc__law_line_of pm__law_line_of cd__law_line_of ct__law_line_of : Value}
    {f_law : Addr} {od_law an_law : Option Addr} {sl_law : Array (Option Value)} {oc_law kV_law dc_law pm_law cd_law ct_law : Value}
    (e_LETTERS : PySem.W.nsIn K mainGlobals "LETTERS" = some (some (.str LETT t_LETTERS)))
    (e_FIGURES : PySem.W.nsIn K mainGlobals "FIGURES" = some (some (.str FIGS t_FIGURES)))
    (e_LONE_WORDS : PySem.W.nsIn K mainGlobals "LONE_WORDS" = some (some (.ref a_LONE_WORDS)))
    (o_LONE_WORDS : K.lookup a_LONE_WORDS = some ⟨.type "tuple", d_LONE_WORDS, .seq #[.str "tell" t0_LONE_WORDS, .str "halt" t1_LONE_WORDS] n_LONE_WORDS, s_LONE_WORDS⟩)
    (e_LEADING_WORDS : PySem.W.nsIn K mainGlobals "LEADING_WORDS" = some (some (.ref a_LEADING_WORDS)))
    (o_LEADING_WORDS : K.lookup a_LEADING_WORDS = some ⟨.type "tuple", d_LEADING_WORDS, .seq #[.str "jump" t0_LEADING_WORDS, .str "when" t1_LEADING_WORDS] n_LEADING_WORDS, s_LEADING_WORDS⟩)
    (z_ValueError : PySem.W.nsIn K mainGlobals "ValueError" = some none)
    (z_len : PySem.W.nsIn K mainGlobals "len" = some none)
    (z_range : PySem.W.nsIn K mainGlobals "range" = some none)
    (z_all : PySem.W.nsIn K mainGlobals "all" = some none)
    (z_isinstance : PySem.W.nsIn K mainGlobals "isinstance" = some none)
    (z_int : PySem.W.nsIn K mainGlobals "int" = some none)
    (z_str : PySem.W.nsIn K mainGlobals "str" = some none)
    (z_bool : PySem.W.nsIn K mainGlobals "bool" = some none)
    (z_list : PySem.W.nsIn K mainGlobals "list" = some none)
    (z_tuple : PySem.W.nsIn K mainGlobals "tuple" = some none)
    (q_CellError : PySem.W.nsIn K mainGlobals "CellError" = some (some (.ref c_CellError)))
    (x_CellError : PySem.W.excIn K c_CellError [.type "ValueError", .type "Exception", .type "BaseException", .type "object"] "ValueError.__new__" = true)
    (fa_CellError : PySem.W.findIn K (.ref c_CellError) "__class__" = some (some (.builtin "object.__class__")))
    (fb_CellError : PySem.W.findIn K (.ref c_CellError) "__getattribute__" = some (some (.builtin "BaseException.__getattribute__")))
    (fc_CellError : PySem.W.findIn K (.ref c_CellError) "__getattr__" = some none)
    (q_NoRow : PySem.W.nsIn K mainGlobals "NoRow" = some (some (.ref c_NoRow)))
    (x_NoRow : PySem.W.excIn K c_NoRow [.type "ValueError", .type "Exception", .type "BaseException", .type "object"] "ValueError.__new__" = true)
    (fa_NoRow : PySem.W.findIn K (.ref c_NoRow) "__class__" = some (some (.builtin "object.__class__")))
    (fb_NoRow : PySem.W.findIn K (.ref c_NoRow) "__getattribute__" = some (some (.builtin "BaseException.__getattribute__")))
    (fc_NoRow : PySem.W.findIn K (.ref c_NoRow) "__getattr__" = some none)
    (q_TwoMarks : PySem.W.nsIn K mainGlobals "TwoMarks" = some (some (.ref c_TwoMarks)))
    (x_TwoMarks : PySem.W.excIn K c_TwoMarks [.type "ValueError", .type "Exception", .type "BaseException", .type "object"] "ValueError.__new__" = true)
    (fa_TwoMarks : PySem.W.findIn K (.ref c_TwoMarks) "__class__" = some (some (.builtin "object.__class__")))
    (fb_TwoMarks : PySem.W.findIn K (.ref c_TwoMarks) "__getattribute__" = some (some (.builtin "BaseException.__getattribute__")))
    (fc_TwoMarks : PySem.W.findIn K (.ref c_TwoMarks) "__getattr__" = some none)
    (q_NoMark : PySem.W.nsIn K mainGlobals "NoMark" = some (some (.ref c_NoMark)))
    (x_NoMark : PySem.W.excIn K c_NoMark [.type "ValueError", .type "Exception", .type "BaseException", .type "object"] "ValueError.__new__" = true)
    (fa_NoMark : PySem.W.findIn K (.ref c_NoMark) "__class__" = some (some (.builtin "object.__class__")))
    (fb_NoMark : PySem.W.findIn K (.ref c_NoMark) "__getattribute__" = some (some (.builtin "BaseException.__getattribute__")))
    (fc_NoMark : PySem.W.findIn K (.ref c_NoMark) "__getattr__" = some none)
    (q_NoCells : PySem.W.nsIn K mainGlobals "NoCells" = some (some (.ref c_NoCells)))
    (x_NoCells : PySem.W.excIn K c_NoCells [.type "ValueError", .type "Exception", .type "BaseException", .type "object"] "ValueError.__new__" = true)
    (fa_NoCells : PySem.W.findIn K (.ref c_NoCells) "__class__" = some (some (.builtin "object.__class__")))
    (fb_NoCells : PySem.W.findIn K (.ref c_NoCells) "__getattribute__" = some (some (.builtin "BaseException.__getattribute__")))
    (fc_NoCells : PySem.W.findIn K (.ref c_NoCells) "__getattr__" = some none)
    (q_NoLine : PySem.W.nsIn K mainGlobals "NoLine" = some (some (.ref c_NoLine)))
    (x_NoLine : PySem.W.excIn K c_NoLine [.type "ValueError", .type "Exception", .type "BaseException", .type "object"] "ValueError.__new__" = true)
    (fa_NoLine : PySem.W.findIn K (.ref c_NoLine) "__class__" = some (some (.builtin "object.__class__")))
    (fb_NoLine : PySem.W.findIn K (.ref c_NoLine) "__getattribute__" = some (some (.builtin "BaseException.__getattribute__")))
    (fc_NoLine : PySem.W.findIn K (.ref c_NoLine) "__getattr__" = some none)
    (u_NoLine : PySem.W.mroIn K c_NoLine (.ref c_CellError) = some true)
    (v_NoLine : PySem.W.mroIn K c_NoLine (.type "ValueError") = some true)
    (i_NoLine_NoRow : PySem.W.mroIn K c_NoLine (.ref c_NoRow) = some false)
    (j_NoLine_NoRow : (c_NoLine == c_NoRow) = false)
    (i_NoLine_TwoMarks : PySem.W.mroIn K c_NoLine (.ref c_TwoMarks) = some false)
    (j_NoLine_TwoMarks : (c_NoLine == c_TwoMarks) = false)
    (i_NoLine_NoMark : PySem.W.mroIn K c_NoLine (.ref c_NoMark) = some false)
    (j_NoLine_NoMark : (c_NoLine == c_NoMark) = false)
    (i_NoLine_NoCells : PySem.W.mroIn K c_NoLine (.ref c_NoCells) = some false)
    (j_NoLine_NoCells : (c_NoLine == c_NoCells) = false)
    (a_is_name : PySem.W.nsIn K mainGlobals "is_name" = some (some (.ref f_is_name)))
    (l_is_name : K.lookup f_is_name = some ⟨oc_is_name, od_is_name, .func (PySem.W.fnOf "is_name" "is_name" (defArgs s_is_name) (defBody s_is_name) (defScope s_is_name) .none kV_is_name dc_is_name pm_is_name an_is_name cd_is_name ct_is_name), sl_is_name⟩)
    (c_is_name : PySem.W.codeIn K cd_is_name "is_name" = true)
    (k_is_name : PySem.W.keepIn K (.ref f_is_name) = true)
    (a_without_minus : PySem.W.nsIn K mainGlobals "without_minus" = some (some (.ref f_without_minus)))
    (l_without_minus : K.lookup f_without_minus = some ⟨oc_without_minus, od_without_minus, .func (PySem.W.fnOf "without_minus" "without_minus" (defArgs s_without_minus) (defBody s_without_minus) (defScope s_without_minus) .none kV_without_minus dc_without_minus pm_without_minus an_without_minus cd_without_minus ct_without_minus), sl_without_minus⟩)
    (c_without_minus : PySem.W.codeIn K cd_without_minus "without_minus" = true)
    (k_without_minus : PySem.W.keepIn K (.ref f_without_minus) = true)
    (a_is_written_number : PySem.W.nsIn K mainGlobals "is_written_number" = some (some (.ref f_is_written_number)))
    (l_is_written_number : K.lookup f_is_written_number = some ⟨oc_is_written_number, od_is_written_number, .func (PySem.W.fnOf "is_written_number" "is_written_number" (defArgs s_is_written_number) (defBody s_is_written_number) (defScope s_is_written_number) .none kV_is_written_number dc_is_written_number pm_is_written_number an_is_written_number cd_is_written_number ct_is_written_number), sl_is_written_number⟩)
    (c_is_written_number : PySem.W.codeIn K cd_is_written_number "is_written_number" = true)
    (k_is_written_number : PySem.W.keepIn K (.ref f_is_written_number) = true)
    (a_number_of : PySem.W.nsIn K mainGlobals "number_of" = some (some (.ref f_number_of)))
    (l_number_of : K.lookup f_number_of = some ⟨oc_number_of, od_number_of, .func (PySem.W.fnOf "number_of" "number_of" (defArgs s_number_of) (defBody s_number_of) (defScope s_number_of) .none kV_number_of dc_number_of pm_number_of an_number_of cd_number_of ct_number_of), sl_number_of⟩)
    (c_number_of : PySem.W.codeIn K cd_number_of "number_of" = true)
    (k_number_of : PySem.W.keepIn K (.ref f_number_of) = true)
    (a_row_of : PySem.W.nsIn K mainGlobals "row_of" = some (some (.ref f_row_of)))
    (l_row_of : K.lookup f_row_of = some ⟨oc_row_of, od_row_of, .func (PySem.W.fnOf "row_of" "row_of" (defArgs s_row_of) (defBody s_row_of) (defScope s_row_of) .none kV_row_of dc_row_of pm_row_of an_row_of cd_row_of ct_row_of), sl_row_of⟩)
    (c_row_of : PySem.W.codeIn K cd_row_of "row_of" = true)
    (k_row_of : PySem.W.keepIn K (.ref f_row_of) = true)
    (a_read : PySem.W.nsIn K mainGlobals "read" = some (some (.ref f_read)))
    (l_read : K.lookup f_read = some ⟨oc_read, od_read, .func (PySem.W.fnOf "read" "read" (defArgs s_read) (defBody s_read) (defScope s_read) .none kV_read dc_read pm_read an_read cd_read ct_read), sl_read⟩)
    (c_read : PySem.W.codeIn K cd_read "read" = true)
    (k_read : PySem.W.keepIn K (.ref f_read) = true)
    (a__law_whole : PySem.W.nsIn K mainGlobals "_law_whole" = some (some (.ref f__law_whole)))
    (l__law_whole : K.lookup f__law_whole = some ⟨oc__law_whole, od__law_whole, .func (PySem.W.fnOf "_law_whole" "_law_whole" (defArgs s__law_whole) (defBody s__law_whole) (defScope s__law_whole) .none kV__law_whole dc__law_whole pm__law_whole an__law_whole cd__law_whole ct__law_whole), sl__law_whole⟩)
    (c__law_whole : PySem.W.codeIn K cd__law_whole "_law_whole" = true)
    (k__law_whole : PySem.W.keepIn K (.ref f__law_whole) = true)
    (a__law_at : PySem.W.nsIn K mainGlobals "_law_at" = some (some (.ref f__law_at)))
    (l__law_at : K.lookup f__law_at = some ⟨oc__law_at, od__law_at, .func (PySem.W.fnOf "_law_at" "_law_at" (defArgs s__law_at) (defBody s__law_at) (defScope s__law_at) .none kV__law_at dc__law_at pm__law_at an__law_at cd__law_at ct__law_at), sl__law_at⟩)
    (c__law_at : PySem.W.codeIn K cd__law_at "_law_at" = true)
    (k__law_at : PySem.W.keepIn K (.ref f__law_at) = true)
    (a__law_named : PySem.W.nsIn K mainGlobals "_law_named" = some (some (.ref f__law_named)))
    (l__law_named : K.lookup f__law_named = some ⟨oc__law_named, od__law_named, .func (PySem.W.fnOf "_law_named" "_law_named" (defArgs s__law_named) (defBody s__law_named) (defScope s__law_named) .none kV__law_named dc__law_named pm__law_named an__law_named cd__law_named ct__law_named), sl__law_named⟩)
    (c__law_named : PySem.W.codeIn K cd__law_named "_law_named" = true)
    (k__law_named : PySem.W.keepIn K (.ref f__law_named) = true)
    (a__law_numbered : PySem.W.nsIn K mainGlobals "_law_numbered" = some (some (.ref f__law_numbered)))
    (l__law_numbered : K.lookup f__law_numbered = some ⟨oc__law_numbered, od__law_numbered, .func (PySem.W.fnOf "_law_numbered" "_law_numbered" (defArgs s__law_numbered) (defBody s__law_numbered) (defScope s__law_numbered) .none kV__law_numbered dc__law_numbered pm__law_numbered an__law_numbered cd__law_numbered ct__law_numbered), sl__law_numbered⟩)
    (c__law_numbered : PySem.W.codeIn K cd__law_numbered "_law_numbered" = true)
    (k__law_numbered : PySem.W.keepIn K (.ref f__law_numbered) = true)
    (a__law_fine : PySem.W.nsIn K mainGlobals "_law_fine" = some (some (.ref f__law_fine)))
    (l__law_fine : K.lookup f__law_fine = some ⟨oc__law_fine, od__law_fine, .func (PySem.W.fnOf "_law_fine" "_law_fine" (defArgs s__law_fine) (defBody s__law_fine) (defScope s__law_fine) .none kV__law_fine dc__law_fine pm__law_fine an__law_fine cd__law_fine ct__law_fine), sl__law_fine⟩)
    (c__law_fine : PySem.W.codeIn K cd__law_fine "_law_fine" = true)
    (k__law_fine : PySem.W.keepIn K (.ref f__law_fine) = true)
    (a__law_any_refusal : PySem.W.nsIn K mainGlobals "_law_any_refusal" = some (some (.ref f__law_any_refusal)))
    (l__law_any_refusal : K.lookup f__law_any_refusal = some ⟨oc__law_any_refusal, od__law_any_refusal, .func (PySem.W.fnOf "_law_any_refusal" "_law_any_refusal" (defArgs s__law_any_refusal) (defBody s__law_any_refusal) (defScope s__law_any_refusal) .none kV__law_any_refusal dc__law_any_refusal pm__law_any_refusal an__law_any_refusal cd__law_any_refusal ct__law_any_refusal), sl__law_any_refusal⟩)
    (c__law_any_refusal : PySem.W.codeIn K cd__law_any_refusal "_law_any_refusal" = true)
    (k__law_any_refusal : PySem.W.keepIn K (.ref f__law_any_refusal) = true)
    (a__law_are_rows : PySem.W.nsIn K mainGlobals "_law_are_rows" = some (some (.ref f__law_are_rows)))
    (l__law_are_rows : K.lookup f__law_are_rows = some ⟨oc__law_are_rows, od__law_are_rows, .func (PySem.W.fnOf "_law_are_rows" "_law_are_rows" (defArgs s__law_are_rows) (defBody s__law_are_rows) (defScope s__law_are_rows) .none kV__law_are_rows dc__law_are_rows pm__law_are_rows an__law_are_rows cd__law_are_rows ct__law_are_rows), sl__law_are_rows⟩)
    (c__law_are_rows : PySem.W.codeIn K cd__law_are_rows "_law_are_rows" = true)
    (k__law_are_rows : PySem.W.keepIn K (.ref f__law_are_rows) = true)
    (a__law_line_of : PySem.W.nsIn K mainGlobals "_law_line_of" = some (some (.ref f__law_line_of)))
    (l__law_line_of : K.lookup f__law_line_of = some ⟨oc__law_line_of, od__law_line_of, .func (PySem.W.fnOf "_law_line_of" "_law_line_of" (defArgs s__law_line_of) (defBody s__law_line_of) (defScope s__law_line_of) .none kV__law_line_of dc__law_line_of pm__law_line_of an__law_line_of cd__law_line_of ct__law_line_of), sl__law_line_of⟩)
    (c__law_line_of : PySem.W.codeIn K cd__law_line_of "_law_line_of" = true)
    (k__law_line_of : PySem.W.keepIn K (.ref f__law_line_of) = true)
    (a_law : PySem.W.nsIn K mainGlobals "law" = some (some (.ref f_law)))
    (l_law : K.lookup f_law = some ⟨oc_law, od_law, .func (PySem.W.fnOf "law" "law" (defArgs s_law) (defBody s_law) (defScope s_law) .none kV_law dc_law pm_law an_law cd_law ct_law), sl_law⟩)
    (c_law : PySem.W.codeIn K cd_law "law" = true)
    (k_law : PySem.W.keepIn K (.ref f_law) = true)
    : ∃ fd : FuncData, (∀ (s : Shared) (v : Value), BindsTo s fd ⟨[v], []⟩ [("_law_script", v)]) ∧ ∀ base : Heap, K.In base → base.Ns mainGlobals mg → FnOk l.prog w K mg base CX0 6 fa fd ["_law_script"] (spLaw K) := by
  have e := hfa.symm.trans (PySem.W.mg_of X G a_law)
  cases e
  have T : Tx l.prog w K mg := ⟨⟨_, PySem.W.mg_of X G e_LETTERS⟩,
    ⟨_, PySem.W.mg_of X G e_FIGURES⟩,
    ⟨_, PySem.W.mg_of X G e_LONE_WORDS, fun H => .inr ⟨_, _, _, o_LONE_WORDS, rfl, rfl, (by show 2 ≤ sizeLine; decide), .cons ⟨_, rfl⟩ (.cons ⟨_, rfl⟩ (.nil))⟩⟩,
    ⟨_, PySem.W.mg_of X G e_LEADING_WORDS, fun H => .inr ⟨_, _, _, o_LEADING_WORDS, rfl, rfl, (by show 2 ≤ sizeLine; decide), .cons ⟨_, rfl⟩ (.cons ⟨_, rfl⟩ (.nil))⟩⟩,
    PySem.W.mg_none_of X G z_ValueError,
    PySem.W.mg_none_of X G z_len,
    PySem.W.mg_none_of X G z_range,
    PySem.W.mg_none_of X G z_all,
    PySem.W.mg_none_of X G z_isinstance,
    PySem.W.mg_none_of X G z_int,
    PySem.W.mg_none_of X G z_str,
    PySem.W.mg_none_of X G z_bool,
    PySem.W.mg_none_of X G z_list,
    PySem.W.mg_none_of X G z_tuple⟩
  have C : Tc K mg ⟨c_CellError, c_NoRow, c_TwoMarks, c_NoMark, c_NoCells, c_NoLine⟩ := ⟨PySem.W.mg_of X G q_CellError, ⟨x_CellError, fa_CellError, fb_CellError, fc_CellError⟩,
    PySem.W.mg_of X G q_NoRow, ⟨x_NoRow, fa_NoRow, fb_NoRow, fc_NoRow⟩,
    PySem.W.mg_of X G q_TwoMarks, ⟨x_TwoMarks, fa_TwoMarks, fb_TwoMarks, fc_TwoMarks⟩,
    PySem.W.mg_of X G q_NoMark, ⟨x_NoMark, fa_NoMark, fb_NoMark, fc_NoMark⟩,
    PySem.W.mg_of X G q_NoCells, ⟨x_NoCells, fa_NoCells, fb_NoCells, fc_NoCells⟩,
    PySem.W.mg_of X G q_NoLine, ⟨x_NoLine, fa_NoLine, fb_NoLine, fc_NoLine⟩,
    L2.subIn_of u_NoLine, L2.kit_ty L2.meta_VE v_NoLine,
    L2.kit_of ⟨x_NoRow, fa_NoRow, fb_NoRow, fc_NoRow⟩ i_NoLine_NoRow j_NoLine_NoRow,
    L2.kit_of ⟨x_TwoMarks, fa_TwoMarks, fb_TwoMarks, fc_TwoMarks⟩ i_NoLine_TwoMarks j_NoLine_TwoMarks,
    L2.kit_of ⟨x_NoMark, fa_NoMark, fb_NoMark, fc_NoMark⟩ i_NoLine_NoMark j_NoLine_NoMark,
    L2.kit_of ⟨x_NoCells, fa_NoCells, fb_NoCells, fc_NoCells⟩ i_NoLine_NoCells j_NoLine_NoCells,
    L2.kit_self⟩
  have F_is_name := fun_mk (st := s_is_name) l_is_name c_is_name k_is_name
  have D_is_name : Def K mg "is_name" s_is_name ["text"] := ⟨_, _, F_is_name, F_is_name.binds (ps := ["text"]) fun _ _ _ _ _ _ us hl => (by obtain ⟨_, rfl⟩ := us1 hl; rfl), PySem.W.mg_of X G a_is_name⟩
  have F_without_minus := fun_mk (st := s_without_minus) l_without_minus c_without_minus k_without_minus
  have D_without_minus : Def K mg "without_minus" s_without_minus ["text"] := ⟨_, _, F_without_minus, F_without_minus.binds (ps := ["text"]) fun _ _ _ _ _ _ us hl => (by obtain ⟨_, rfl⟩ := us1 hl; rfl), PySem.W.mg_of X G a_without_minus⟩
  have F_is_written_number := fun_mk (st := s_is_written_number) l_is_written_number c_is_written_number k_is_written_number
  have D_is_written_number : Def K mg "is_written_number" s_is_written_number ["text"] := ⟨_, _, F_is_written_number, F_is_written_number.binds (ps := ["text"]) fun _ _ _ _ _ _ us hl => (by obtain ⟨_, rfl⟩ := us1 hl; rfl), PySem.W.mg_of X G a_is_written_number⟩
  have F_number_of := fun_mk (st := s_number_of) l_number_of c_number_of k_number_of
  have D_number_of : Def K mg "number_of" s_number_of ["text"] := ⟨_, _, F_number_of, F_number_of.binds (ps := ["text"]) fun _ _ _ _ _ _ us hl => (by obtain ⟨_, rfl⟩ := us1 hl; rfl), PySem.W.mg_of X G a_number_of⟩
  have F_row_of := fun_mk (st := s_row_of) l_row_of c_row_of k_row_of
  have D_row_of : Def K mg "row_of" s_row_of ["line"] := ⟨_, _, F_row_of, F_row_of.binds (ps := ["line"]) fun _ _ _ _ _ _ us hl => (by obtain ⟨_, rfl⟩ := us1 hl; rfl), PySem.W.mg_of X G a_row_of⟩
  have F_read := fun_mk (st := s_read) l_read c_read k_read
  have D_read : Def K mg "read" s_read ["lines"] := ⟨_, _, F_read, F_read.binds (ps := ["lines"]) fun _ _ _ _ _ _ us hl => (by obtain ⟨_, rfl⟩ := us1 hl; rfl), PySem.W.mg_of X G a_read⟩
  have F__law_whole := fun_mk (st := s__law_whole) l__law_whole c__law_whole k__law_whole
  have D__law_whole : Def K mg "_law_whole" s__law_whole ["_law_found"] := ⟨_, _, F__law_whole, F__law_whole.binds (ps := ["_law_found"]) fun _ _ _ _ _ _ us hl => (by obtain ⟨_, rfl⟩ := us1 hl; rfl), PySem.W.mg_of X G a__law_whole⟩
  have F__law_at := fun_mk (st := s__law_at) l__law_at c__law_at k__law_at
  have D__law_at : Def K mg "_law_at" s__law_at ["_law_script", "_law_k"] := ⟨_, _, F__law_at, F__law_at.binds (ps := ["_law_script", "_law_k"]) fun _ _ _ _ _ _ us hl => (by obtain ⟨_, _, rfl⟩ := us2 hl; rfl), PySem.W.mg_of X G a__law_at⟩
  have F__law_named := fun_mk (st := s__law_named) l__law_named c__law_named k__law_named
  have D__law_named : Def K mg "_law_named" s__law_named ["_law_text"] := ⟨_, _, F__law_named, F__law_named.binds (ps := ["_law_text"]) fun _ _ _ _ _ _ us hl => (by obtain ⟨_, rfl⟩ := us1 hl; rfl), PySem.W.mg_of X G a__law_named⟩
  have F__law_numbered := fun_mk (st := s__law_numbered) l__law_numbered c__law_numbered k__law_numbered
  have D__law_numbered : Def K mg "_law_numbered" s__law_numbered ["_law_text"] := ⟨_, _, F__law_numbered, F__law_numbered.binds (ps := ["_law_text"]) fun _ _ _ _ _ _ us hl => (by obtain ⟨_, rfl⟩ := us1 hl; rfl), PySem.W.mg_of X G a__law_numbered⟩
  have F__law_fine := fun_mk (st := s__law_fine) l__law_fine c__law_fine k__law_fine
  have D__law_fine : Def K mg "_law_fine" s__law_fine ["_law_line"] := ⟨_, _, F__law_fine, F__law_fine.binds (ps := ["_law_line"]) fun _ _ _ _ _ _ us hl => (by obtain ⟨_, rfl⟩ := us1 hl; rfl), PySem.W.mg_of X G a__law_fine⟩
  have F__law_any_refusal := fun_mk (st := s__law_any_refusal) l__law_any_refusal c__law_any_refusal k__law_any_refusal
  have D__law_any_refusal : Def K mg "_law_any_refusal" s__law_any_refusal ["_law_lines"] := ⟨_, _, F__law_any_refusal, F__law_any_refusal.binds (ps := ["_law_lines"]) fun _ _ _ _ _ _ us hl => (by obtain ⟨_, rfl⟩ := us1 hl; rfl), PySem.W.mg_of X G a__law_any_refusal⟩
  have F__law_are_rows := fun_mk (st := s__law_are_rows) l__law_are_rows c__law_are_rows k__law_are_rows
  have D__law_are_rows : Def K mg "_law_are_rows" s__law_are_rows ["_law_found"] := ⟨_, _, F__law_are_rows, F__law_are_rows.binds (ps := ["_law_found"]) fun _ _ _ _ _ _ us hl => (by obtain ⟨_, rfl⟩ := us1 hl; rfl), PySem.W.mg_of X G a__law_are_rows⟩
  have F__law_line_of := fun_mk (st := s__law_line_of) l__law_line_of c__law_line_of k__law_line_of
  have D__law_line_of : Def K mg "_law_line_of" s__law_line_of ["_law_row"] := ⟨_, _, F__law_line_of, F__law_line_of.binds (ps := ["_law_row"]) fun _ _ _ _ _ _ us hl => (by obtain ⟨_, rfl⟩ := us1 hl; rfl), PySem.W.mg_of X G a__law_line_of⟩
  have F_law := fun_mk (st := s_law) l_law c_law k_law
  have D_law : Def K mg "law" s_law ["_law_script"] := ⟨_, _, F_law, F_law.binds (ps := ["_law_script"]) fun _ _ _ _ _ _ us hl => (by obtain ⟨_, rfl⟩ := us1 hl; rfl), PySem.W.mg_of X G a_law⟩
  refine ⟨PySem.W.fnOf "law" "law" (defArgs s_law) (defBody s_law) (defScope s_law) .none kV_law dc_law pm_law an_law cd_law ct_law, fun s v => .of_eq rfl, fun base _ _ => ?_⟩
  have h_is_name := ok_is_name (P := l.prog) (w := w) (base := base) D_is_name T 
  have h_without_minus := ok_without_minus (P := l.prog) (w := w) (base := base) D_without_minus T 
  have h_is_written_number := ok_is_written_number (P := l.prog) (w := w) (base := base) D_is_written_number T (h_without_minus := h_without_minus)
  have n_is_written_number := no_is_written_number (P := l.prog) (w := w) (base := base) D_is_written_number T C (h_without_minus := h_without_minus)
  have h_number_of := ok_number_of (P := l.prog) (w := w) (base := base) D_number_of T (h_without_minus := h_without_minus)
  have h_row_of := ok_row_of (P := l.prog) (w := w) (base := base) D_row_of T (h_is_name := h_is_name) (h_is_written_number := h_is_written_number) (h_number_of := h_number_of)
  have n_row_of := no_row_of (P := l.prog) (w := w) (base := base) D_row_of T C (h_is_name := h_is_name) (h_is_written_number := h_is_written_number) (h_number_of := h_number_of) (n_is_written_number := n_is_written_number)
  have h_read := ok_read (P := l.prog) (w := w) (base := base) D_read T C (h_row_of := h_row_of) (n_row_of := n_row_of)
  have h__law_whole := ok__law_whole (P := l.prog) (w := w) (base := base) D__law_whole T 
  have h__law_at := ok__law_at (P := l.prog) (w := w) (base := base) D__law_at T 
  have h__law_named := ok__law_named (P := l.prog) (w := w) (base := base) D__law_named T 
  have h__law_numbered := ok__law_numbered (P := l.prog) (w := w) (base := base) D__law_numbered T 
  have h__law_fine := ok__law_fine (P := l.prog) (w := w) (base := base) D__law_fine T (h__law_named := h__law_named) (h__law_numbered := h__law_numbered)
  have h__law_any_refusal := ok__law_any_refusal (P := l.prog) (w := w) (base := base) D__law_any_refusal T C (h_read := h_read)
  have h__law_are_rows := ok__law_are_rows (P := l.prog) (w := w) (base := base) D__law_are_rows T (h__law_whole := h__law_whole)
  have h__law_line_of := ok__law_line_of (P := l.prog) (w := w) (base := base) D__law_line_of T 
  exact ok_law F_law T C (h_read := h_read) (h__law_at := h__law_at) (h__law_fine := h__law_fine) (h__law_any_refusal := h__law_any_refusal) (h__law_are_rows := h__law_are_rows) (h__law_line_of := h__law_line_of)
end
theorem walk {l : PySem.W.OpenLaw} {q : Program} {loose : List Str} {XP : (Str → Option Value) → Heap → Prop} {YP : World → Heap → Prop} {d : DefRec} {K : Params → PySem.W.Frag} (hn : l.most = some 63) (hdf : d.params.defaults = [])
    (hY : ∀ (w : World) (h : Heap), YP w h → (K w.params).In h)
    (F : ∀ (w : World) (mg : Str → Option Value) (fa : Addr) (h : Heap), (K w.params).In h → h.Ns mainGlobals mg → mg d.name = some (.ref fa) →
      ∃ fd : FuncData, (∀ (s : Shared) (u : Value), BindsTo s fd ⟨[u], []⟩ [("_law_script", u)]) ∧ ∀ base : Heap, (K w.params).In base → base.Ns mainGlobals mg → FnOk l.prog w (K w.params) mg base CX0 6 fa fd ["_law_script"] (spLaw (K w.params))) :
    PySem.W.WalkO q loose XP YP l.row.toRowW d [] (fun f vs => PySem.call f vs) :=
  L2.walk_of (n := 63) (k := 6) (x := "_law_script") (CX := fun _ => CX0) (sp := fun w => spLaw (K w.params)) hn (by decide) hdf ⟨rfl, by decide, by decide⟩ hY F (fun _ _ a ns hl _ hS => ⟨a, ns, rfl, hS, hl, fun _ => rfl⟩) fun _ _ _ _ _ z => z
end SC
open PySem PySem.W PyProof.Rows
set_option maxRecDepth 100000 in
set_option maxHeartbeats 0 in
theorem PySem.Challenge.cw_stepcells_k11_lines_that_write_nothing_holds : PySem.Challenge.rw_stepcells_k11_lines_that_write_nothing.Holds := by
  w_on; o_law; k_head; (case hw => w_witness2)
  k_fill
  refine SC.walk (l := PySem.Challenge.rw_stepcells_k11_lines_that_write_nothing) rfl rfl (fun w h Y => PySem.W.kIn_of Y) ?F
  case F =>
    intro w mg fa h KX G hmg
    refine' SC.all_mk KX G hmg ?e_LETTERS ?e_FIGURES ?e_LONE_WORDS ?o_LONE_WORDS ?e_LEADING_WORDS ?o_LEADING_WORDS ?z_ValueError ?z_len ?z_range ?z_all ?z_isinstance ?z_int ?z_str ?z_bool ?z_list ?z_tuple ?q_CellError ?x_CellError ?fa_CellError ?fb_CellError ?fc_CellError ?q_NoRow ?x_NoRow ?fa_NoRow ?fb_NoRow ?fc_NoRow ?q_TwoMarks ?x_TwoMarks ?fa_TwoMarks ?fb_TwoMarks ?fc_TwoMarks ?q_NoMark ?x_NoMark ?fa_NoMark ?fb_NoMark ?fc_NoMark ?q_NoCells ?x_NoCells ?fa_NoCells ?fb_NoCells ?fc_NoCells ?q_NoLine ?x_NoLine ?fa_NoLine ?fb_NoLine ?fc_NoLine ?u_NoLine ?v_NoLine ?i_NoLine_NoRow ?j_NoLine_NoRow ?i_NoLine_TwoMarks ?j_NoLine_TwoMarks ?i_NoLine_NoMark ?j_NoLine_NoMark ?i_NoLine_NoCells ?j_NoLine_NoCells ?a_is_name ?l_is_name ?c_is_name ?k_is_name ?a_without_minus ?l_without_minus ?c_without_minus ?k_without_minus ?a_is_written_number ?l_is_written_number ?c_is_written_number ?k_is_written_number ?a_number_of ?l_number_of ?c_number_of ?k_number_of ?a_row_of ?l_row_of ?c_row_of ?k_row_of ?a_read ?l_read ?c_read ?k_read ?a__law_whole ?l__law_whole ?c__law_whole ?k__law_whole ?a__law_at ?l__law_at ?c__law_at ?k__law_at ?a__law_named ?l__law_named ?c__law_named ?k__law_named ?a__law_numbered ?l__law_numbered ?c__law_numbered ?k__law_numbered ?a__law_fine ?l__law_fine ?c__law_fine ?k__law_fine ?a__law_any_refusal ?l__law_any_refusal ?c__law_any_refusal ?k__law_any_refusal ?a__law_are_rows ?l__law_are_rows ?c__law_are_rows ?k__law_are_rows ?a__law_line_of ?l__law_line_of ?c__law_line_of ?k__law_line_of ?a_law ?l_law ?c_law ?k_law
    (case e_LETTERS => k_is)
    (case e_FIGURES => k_is)
    (case e_LONE_WORDS => k_is)
    (case o_LONE_WORDS => k_is)
    (case e_LEADING_WORDS => k_is)
    (case o_LEADING_WORDS => k_is)
    (case z_ValueError => k_is)
    (case z_len => k_is)
    (case z_range => k_is)
    (case z_all => k_is)
    (case z_isinstance => k_is)
    (case z_int => k_is)
    (case z_str => k_is)
    (case z_bool => k_is)
    (case z_list => k_is)
    (case z_tuple => k_is)
    (case q_CellError => k_is)
    (case x_CellError => k_exc)
    (case fa_CellError => k_is)
    (case fb_CellError => k_is)
    (case fc_CellError => k_is)
    (case q_NoRow => k_is)
    (case x_NoRow => k_exc)
    (case fa_NoRow => k_is)
    (case fb_NoRow => k_is)
    (case fc_NoRow => k_is)
    (case q_TwoMarks => k_is)
    (case x_TwoMarks => k_exc)
    (case fa_TwoMarks => k_is)
    (case fb_TwoMarks => k_is)
    (case fc_TwoMarks => k_is)
    (case q_NoMark => k_is)
    (case x_NoMark => k_exc)
    (case fa_NoMark => k_is)
    (case fb_NoMark => k_is)
    (case fc_NoMark => k_is)
    (case q_NoCells => k_is)
    (case x_NoCells => k_exc)
    (case fa_NoCells => k_is)
    (case fb_NoCells => k_is)
    (case fc_NoCells => k_is)
    (case q_NoLine => k_is)
    (case x_NoLine => k_exc)
    (case fa_NoLine => k_is)
    (case fb_NoLine => k_is)
    (case fc_NoLine => k_is)
    (case u_NoLine => k_is)
    (case v_NoLine => k_is)
    (case i_NoLine_NoRow => k_is)
    (case j_NoLine_NoRow => first | rfl | decide)
    (case i_NoLine_TwoMarks => k_is)
    (case j_NoLine_TwoMarks => first | rfl | decide)
    (case i_NoLine_NoMark => k_is)
    (case j_NoLine_NoMark => first | rfl | decide)
    (case i_NoLine_NoCells => k_is)
    (case j_NoLine_NoCells => first | rfl | decide)
    (case a_is_name => k_is)
    (case l_is_name => k_is)
    (case c_is_name => k_is)
    (case k_is_name => k_is)
    (case a_without_minus => k_is)
    (case l_without_minus => k_is)
    (case c_without_minus => k_is)
    (case k_without_minus => k_is)
    (case a_is_written_number => k_is)
    (case l_is_written_number => k_is)
    (case c_is_written_number => k_is)
    (case k_is_written_number => k_is)
    (case a_number_of => k_is)
    (case l_number_of => k_is)
    (case c_number_of => k_is)
    (case k_number_of => k_is)
    (case a_row_of => k_is)
    (case l_row_of => k_is)
    (case c_row_of => k_is)
    (case k_row_of => k_is)
    (case a_read => k_is)
    (case l_read => k_is)
    (case c_read => k_is)
    (case k_read => k_is)
    (case a__law_whole => k_is)
    (case l__law_whole => k_is)
    (case c__law_whole => k_is)
    (case k__law_whole => k_is)
    (case a__law_at => k_is)
    (case l__law_at => k_is)
    (case c__law_at => k_is)
    (case k__law_at => k_is)
    (case a__law_named => k_is)
    (case l__law_named => k_is)
    (case c__law_named => k_is)
    (case k__law_named => k_is)
    (case a__law_numbered => k_is)
    (case l__law_numbered => k_is)
    (case c__law_numbered => k_is)
    (case k__law_numbered => k_is)
    (case a__law_fine => k_is)
    (case l__law_fine => k_is)
    (case c__law_fine => k_is)
    (case k__law_fine => k_is)
    (case a__law_any_refusal => k_is)
    (case l__law_any_refusal => k_is)
    (case c__law_any_refusal => k_is)
    (case k__law_any_refusal => k_is)
    (case a__law_are_rows => k_is)
    (case l__law_are_rows => k_is)
    (case c__law_are_rows => k_is)
    (case k__law_are_rows => k_is)
    (case a__law_line_of => k_is)
    (case l__law_line_of => k_is)
    (case c__law_line_of => k_is)
    (case k__law_line_of => k_is)
    (case a_law => k_is)
    (case l_law => k_is)
    (case c_law => k_is)
    (case k_law => k_is)
#print axioms PySem.Challenge.cw_stepcells_k11_lines_that_write_nothing_holds


