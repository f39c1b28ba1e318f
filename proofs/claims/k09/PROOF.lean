import PyProof.Rows.All
import Wide.All
import OpenK.AllK
import Wide.FinOn
import Lean
import PyProof.EqAt
import PyProof.EqKinds
import PyProof.TupleCall
import PySem.Challenge.RW_stepcells_k09_whole_cells_read_or_refuse
set_option Elab.async false
set_option linter.all false
set_option maxRecDepth 100000
namespace L2
inductive Ex1_2 {α0 : Type} (A0 A1 : α0 → Prop) : Prop where
  | intro (x0 : α0) (h0 : A0 x0) (h1 : A1 x0) : Ex1_2 A0 A1
inductive Ex1_3 {α0 : Type} (A0 A1 A2 : α0 → Prop) : Prop where
  | intro (x0 : α0) (h0 : A0 x0) (h1 : A1 x0) (h2 : A2 x0) : Ex1_3 A0 A1 A2
inductive Ex1_4 {α0 : Type} (A0 A1 A2 A3 : α0 → Prop) : Prop where
  | intro (x0 : α0) (h0 : A0 x0) (h1 : A1 x0) (h2 : A2 x0) (h3 : A3 x0) : Ex1_4 A0 A1 A2 A3
inductive Ex2_2 {α0 : Type} {α1 : Type} (A0 A1 : α0 → α1 → Prop) : Prop where
  | intro (x0 : α0) (x1 : α1) (h0 : A0 x0 x1) (h1 : A1 x0 x1) : Ex2_2 A0 A1
inductive Ex2_3 {α0 : Type} {α1 : Type} (A0 A1 A2 : α0 → α1 → Prop) : Prop where
  | intro (x0 : α0) (x1 : α1) (h0 : A0 x0 x1) (h1 : A1 x0 x1) (h2 : A2 x0 x1) : Ex2_3 A0 A1 A2
inductive Ex2_4 {α0 : Type} {α1 : Type} (A0 A1 A2 A3 : α0 → α1 → Prop) : Prop where
  | intro (x0 : α0) (x1 : α1) (h0 : A0 x0 x1) (h1 : A1 x0 x1) (h2 : A2 x0 x1) (h3 : A3 x0 x1) : Ex2_4 A0 A1 A2 A3
inductive Ex2_5 {α0 : Type} {α1 : Type} (A0 A1 A2 A3 A4 : α0 → α1 → Prop) : Prop where
  | intro (x0 : α0) (x1 : α1) (h0 : A0 x0 x1) (h1 : A1 x0 x1) (h2 : A2 x0 x1) (h3 : A3 x0 x1) (h4 : A4 x0 x1) : Ex2_5 A0 A1 A2 A3 A4
inductive Ex3_3 {α0 : Type} {α1 : Type} {α2 : Type} (A0 A1 A2 : α0 → α1 → α2 → Prop) : Prop where
  | intro (x0 : α0) (x1 : α1) (x2 : α2) (h0 : A0 x0 x1 x2) (h1 : A1 x0 x1 x2) (h2 : A2 x0 x1 x2) : Ex3_3 A0 A1 A2
inductive Ex3_4 {α0 : Type} {α1 : Type} {α2 : Type} (A0 A1 A2 A3 : α0 → α1 → α2 → Prop) : Prop where
  | intro (x0 : α0) (x1 : α1) (x2 : α2) (h0 : A0 x0 x1 x2) (h1 : A1 x0 x1 x2) (h2 : A2 x0 x1 x2) (h3 : A3 x0 x1 x2) : Ex3_4 A0 A1 A2 A3
inductive Ex3_5 {α0 : Type} {α1 : Type} {α2 : Type} (A0 A1 A2 A3 A4 : α0 → α1 → α2 → Prop) : Prop where
  | intro (x0 : α0) (x1 : α1) (x2 : α2) (h0 : A0 x0 x1 x2) (h1 : A1 x0 x1 x2) (h2 : A2 x0 x1 x2) (h3 : A3 x0 x1 x2) (h4 : A4 x0 x1 x2) : Ex3_5 A0 A1 A2 A3 A4
inductive Ex3_6 {α0 : Type} {α1 : Type} {α2 : Type} (A0 A1 A2 A3 A4 A5 : α0 → α1 → α2 → Prop) : Prop where
  | intro (x0 : α0) (x1 : α1) (x2 : α2) (h0 : A0 x0 x1 x2) (h1 : A1 x0 x1 x2) (h2 : A2 x0 x1 x2) (h3 : A3 x0 x1 x2) (h4 : A4 x0 x1 x2) (h5 : A5 x0 x1 x2) : Ex3_6 A0 A1 A2 A3 A4 A5
inductive Ex4_4 {α0 : Type} {α1 : Type} {α2 : Type} {α3 : Type} (A0 A1 A2 A3 : α0 → α1 → α2 → α3 → Prop) : Prop where
  | intro (x0 : α0) (x1 : α1) (x2 : α2) (x3 : α3) (h0 : A0 x0 x1 x2 x3) (h1 : A1 x0 x1 x2 x3) (h2 : A2 x0 x1 x2 x3) (h3 : A3 x0 x1 x2 x3) : Ex4_4 A0 A1 A2 A3
inductive Ex4_5 {α0 : Type} {α1 : Type} {α2 : Type} {α3 : Type} (A0 A1 A2 A3 A4 : α0 → α1 → α2 → α3 → Prop) : Prop where
  | intro (x0 : α0) (x1 : α1) (x2 : α2) (x3 : α3) (h0 : A0 x0 x1 x2 x3) (h1 : A1 x0 x1 x2 x3) (h2 : A2 x0 x1 x2 x3) (h3 : A3 x0 x1 x2 x3) (h4 : A4 x0 x1 x2 x3) : Ex4_5 A0 A1 A2 A3 A4
inductive Ex4_6 {α0 : Type} {α1 : Type} {α2 : Type} {α3 : Type} (A0 A1 A2 A3 A4 A5 : α0 → α1 → α2 → α3 → Prop) : Prop where
  | intro (x0 : α0) (x1 : α1) (x2 : α2) (x3 : α3) (h0 : A0 x0 x1 x2 x3) (h1 : A1 x0 x1 x2 x3) (h2 : A2 x0 x1 x2 x3) (h3 : A3 x0 x1 x2 x3) (h4 : A4 x0 x1 x2 x3) (h5 : A5 x0 x1 x2 x3) : Ex4_6 A0 A1 A2 A3 A4 A5
inductive Ex5_6 {α0 : Type} {α1 : Type} {α2 : Type} {α3 : Type} {α4 : Type} (A0 A1 A2 A3 A4 A5 : α0 → α1 → α2 → α3 → α4 → Prop) : Prop where
  | intro (x0 : α0) (x1 : α1) (x2 : α2) (x3 : α3) (x4 : α4) (h0 : A0 x0 x1 x2 x3 x4) (h1 : A1 x0 x1 x2 x3 x4) (h2 : A2 x0 x1 x2 x3 x4) (h3 : A3 x0 x1 x2 x3 x4) (h4 : A4 x0 x1 x2 x3 x4) (h5 : A5 x0 x1 x2 x3 x4) : Ex5_6 A0 A1 A2 A3 A4 A5
inductive Ex5_7 {α0 : Type} {α1 : Type} {α2 : Type} {α3 : Type} {α4 : Type} (A0 A1 A2 A3 A4 A5 A6 : α0 → α1 → α2 → α3 → α4 → Prop) : Prop where
  | intro (x0 : α0) (x1 : α1) (x2 : α2) (x3 : α3) (x4 : α4) (h0 : A0 x0 x1 x2 x3 x4) (h1 : A1 x0 x1 x2 x3 x4) (h2 : A2 x0 x1 x2 x3 x4) (h3 : A3 x0 x1 x2 x3 x4) (h4 : A4 x0 x1 x2 x3 x4) (h5 : A5 x0 x1 x2 x3 x4) (h6 : A6 x0 x1 x2 x3 x4) : Ex5_7 A0 A1 A2 A3 A4 A5 A6
inductive Ex6_6 {α0 : Type} {α1 : Type} {α2 : Type} {α3 : Type} {α4 : Type} {α5 : Type} (A0 A1 A2 A3 A4 A5 : α0 → α1 → α2 → α3 → α4 → α5 → Prop) : Prop where
  | intro (x0 : α0) (x1 : α1) (x2 : α2) (x3 : α3) (x4 : α4) (x5 : α5) (h0 : A0 x0 x1 x2 x3 x4 x5) (h1 : A1 x0 x1 x2 x3 x4 x5) (h2 : A2 x0 x1 x2 x3 x4 x5) (h3 : A3 x0 x1 x2 x3 x4 x5) (h4 : A4 x0 x1 x2 x3 x4 x5) (h5 : A5 x0 x1 x2 x3 x4 x5) : Ex6_6 A0 A1 A2 A3 A4 A5
end L2
namespace L2
open PySem PySem.Spec PyProof.Rows
noncomputable abbrev Key := Sum Int Str
noncomputable def keyIs : Key → Value → Bool
  | .inl k, v => Value.isInt k v
  | .inr x, v => Value.isStrOf x v
noncomputable def keyH (w : World) : Key → Int
  | .inl k => hashInt k
  | .inr x => hashStr w x
theorem keyIs_shape : ∀ {k : Key} {v : Value}, keyIs k v = true → (∃ i t, k = Sum.inl i ∧ v = Value.int i t) ∨ (∃ x t, k = Sum.inr x ∧ v = Value.str x t)
  | .inl i, v, h => by
    obtain ⟨t, e⟩ := Value.isInt_shape (k := i) (v := v) h
    exact .inl ⟨i, t, rfl, e⟩
  | .inr x, v, h => by
    obtain ⟨t, e⟩ := Value.isStrOf_shape (x := x) (v := v) h
    exact .inr ⟨x, t, rfl, e⟩
theorem keyIs_int (i : Int) (t : Tok) : keyIs (.inl i) (.int i t) = true := by simp [keyIs, Value.isInt]
theorem keyIs_str (x : Str) (t : Tok) : keyIs (.inr x) (.str x t) = true := by simp [keyIs, Value.isStrOf]
theorem key_ll (a b : Int) : decide ((Sum.inl a : Key) = Sum.inl b) = (a == b) := by
  by_cases e : a = b
  · subst e; simp
  · have h : ¬ (Sum.inl a : Key) = Sum.inl b := fun q => e (Sum.inl.inj q)
    rw [decide_eq_false h]
    exact (beq_eq_false_iff_ne.mpr e).symm
theorem key_rr (a b : Str) : decide ((Sum.inr a : Key) = Sum.inr b) = decide (a = b) := by
  by_cases e : a = b
  · subst e; simp
  · have h : ¬ (Sum.inr a : Key) = Sum.inr b := fun q => e (Sum.inr.inj q)
    rw [decide_eq_false h, decide_eq_false e]
theorem key_lr (a : Int) (b : Str) : decide ((Sum.inl a : Key) = Sum.inr b) = false := decide_eq_false (fun q => nomatch q)
theorem key_rl (a : Str) (b : Int) : decide ((Sum.inr a : Key) = Sum.inl b) = false := decide_eq_false (fun q => nomatch q)

noncomputable def mixKind (prog : Program) (w : World) : PySem.KeyKind prog w Key where
  is := keyIs
  hash := keyH w
  inj := fun v a b ha hb => by
    rcases keyIs_shape ha with ⟨i, t, rfl, rfl⟩ | ⟨x, t, rfl, rfl⟩
    · rcases keyIs_shape hb with ⟨j, u, rfl, e⟩ | ⟨y, u, rfl, e⟩
      · injection e with e1 _; rw [e1]
      · exact nomatch e
    · rcases keyIs_shape hb with ⟨j, u, rfl, e⟩ | ⟨y, u, rfl, e⟩
      · exact nomatch e
      · injection e with e1 _; rw [e1]
  byValue := fun k v h => by
    rcases keyIs_shape h with ⟨i, t, rfl, rfl⟩ | ⟨x, t, rfl, rfl⟩ <;> rfl
  pyHash := fun hv h => by
    rcases keyIs_shape hv with ⟨i, t, rfl, rfl⟩ | ⟨x, t, rfl, rfl⟩
    · exact wpAny_pyHash_int h
    · exact wpAny_pyHash_str h
  eqBool := fun hu hv h => by
    rcases keyIs_shape hu with ⟨i, t, rfl, rfl⟩ | ⟨x, t, rfl, rfl⟩
    · rcases keyIs_shape hv with ⟨j, u, rfl, rfl⟩ | ⟨y, u, rfl, rfl⟩
      · rw [key_ll] at h; exact wpAny_eqBool_int h
      · rw [key_lr] at h; exact SeqAt.EqAt.int_str i t y u _ _ _ _ h
    · rcases keyIs_shape hv with ⟨j, u, rfl, rfl⟩ | ⟨y, u, rfl, rfl⟩
      · rw [key_rl] at h; exact SeqAt.EqAt.str_int x t j u _ _ _ _ h
      · rw [key_rr] at h; exact wpAny_eqBool_str h
  «strs» := fun k x t v h => by
    rcases keyIs_shape h with ⟨i, u, rfl, e⟩ | ⟨y, u, rfl, e⟩
    · exact nomatch e
    · injection e with e1 _
      subst e1
      cases v <;> rfl

theorem mixKind_int (prog : Program) (w : World) (i : Int) (t : Tok) : (mixKind prog w).is (.inl i) (.int i t) = true := keyIs_int i t
theorem mixKind_str (prog : Program) (w : World) (x : Str) (t : Tok) : (mixKind prog w).is (.inr x) (.str x t) = true := keyIs_str x t
end L2

namespace L2
open PySem PySem.Spec PyProof.Rows
inductive V where
  | non | bl (b : Bool) | int (i : Int) | str (x : Str) | byt (b : Array UInt8) | flt (b : UInt64) | ref (a : Addr) | ty (n : String)
  deriving DecidableEq

noncomputable def RelV : V → Value → Prop
  | .non, u => u = Value.none
  | .bl b, u => u = Value.bool b
  | .int i, u => ∃ t, u = Value.int i t
  | .str x, u => ∃ t, u = Value.str x t
  | .byt b, u => ∃ t, u = Value.bytes b t
  | .flt b, u => ∃ t, u = Value.float b t
  | .ref a, u => u = Value.ref a
  | .ty n, u => u = Value.type n

noncomputable abbrev Vals : List V → List Value → Prop := Paired RelV
theorem Vals.length {xs : List V} {us : List Value} (r : Vals xs us) : xs.length = us.length := Paired.length r
theorem Vals.get {xs : List V} {us : List Value} {i : Nat} {x : V} (h : Vals xs us) (e : xs[i]? = some x) : ∃ u, us[i]? = some u ∧ RelV x u := by
  induction h generalizing i with
  | nil => rw [List.getElem?_nil] at e; cases e
  | cons r _ ih =>
    cases i with
    | zero =>
      obtain rfl := Option.some.inj e
      exact ⟨_, rfl, r⟩
    | succ i => exact ih e
theorem Vals.set {x : V} {u : Value} (r : RelV x u) {xs : List V} {us : List Value} (i : Nat) (h : Vals xs us) : Vals (xs.set i x) (us.set i u) := by
  induction h generalizing i with
  | nil => exact .nil
  | cons q t ih =>
    cases i with
    | zero => exact .cons r t
    | succ i => exact .cons q (ih i)
theorem Vals.append {xs ys : List V} {us ws : List Value} (h : Vals xs us) (s : Vals ys ws) : Vals (xs ++ ys) (us ++ ws) := by
  induction h with
  | nil => exact s
  | cons r _ ih => exact .cons r ih
theorem Vals.take {xs : List V} {us : List Value} (n : Nat) (h : Vals xs us) : Vals (xs.take n) (us.take n) := by
  induction h generalizing n with
  | nil => rw [List.take_nil, List.take_nil]; exact .nil
  | cons r _ ih =>
    cases n with
    | zero => exact .nil
    | succ n => exact .cons r (ih n)
theorem Vals.drop {xs : List V} {us : List Value} (n : Nat) (h : Vals xs us) : Vals (xs.drop n) (us.drop n) := by
  induction h generalizing n with
  | nil => rw [List.drop_nil, List.drop_nil]; exact .nil
  | cons r t ih =>
    cases n with
    | zero => exact .cons r t
    | succ n => exact ih n
noncomputable def RelO : Option V → Option Value → Prop
  | some v, some u => RelV v u
  | none, none => True
  | _, _ => False
noncomputable def KV {κ : Type} : List (κ × V) → List (κ × Value) → Prop := Paired fun (p : κ × V) (q : κ × Value) => p.1 = q.1 ∧ RelV p.2 q.2
noncomputable def kV : Key → V
  | .inl i => .int i
  | .inr x => .str x
inductive HO where
  | lst (xs : List V)
  | tup (xs : List V)
  | dK (kvs : List (Key × V)) | dT (kvs : List (List Key × V))
  | set (S : Int → Bool) (n : Nat)
  | ins (C dx : Addr) (fs : List (Str × V))
  | own (x : Addr)
  | xd (fs : List (Str × V))
  | met (f x : Addr)
  | rng (lo hi : Int)
  | frz (o : Obj) (u : HO)
  | tbl (ps : Array Value)
  | ext (φ : Heap → Prop)

noncomputable abbrev Hp := Addr → Option HO
noncomputable def upd (H : Hp) (a : Addr) (o : HO) : Hp := fun b => if b = a then some o else H b
theorem upd_same {H : Hp} {a : Addr} {o : HO} : upd H a o a = some o := by unfold upd; rw [if_pos rfl]
theorem upd_ne {H : Hp} {a b : Addr} {o : HO} (h : b ≠ a) : upd H a o b = H b := by unfold upd; rw [if_neg h]
theorem ne_of {H : Hp} {a b : Addr} {o u : HO} (h : H a = some o) (h' : H b = some u) (d : o ≠ u) : a ≠ b := by
  intro e; subst e; rw [h] at h'; exact d (Option.some.inj h')
theorem ne_of_none {H : Hp} {a b : Addr} {o : HO} (h : H a = some o) (h' : H b = none) : a ≠ b := by
  intro e; subst e; rw [h] at h'; cases h'

section
variable (P : Program) (w : World)
noncomputable def ObjOk (H : Hp) (h : Heap) (a : Addr) : HO → Prop
  | .lst xs => xs.length ≤ sizeLine ∧ ∃ (its : List Value) (n : Nat), Vals xs its ∧ h.get? a = some { cls := .type "list", data := .seq its.toArray n }
  | .tup xs => xs.length ≤ sizeLine ∧ ∃ its : List Value, Vals xs its ∧ IsTup h a its.toArray
  | .dK kvs => kvs.length ≤ sizeLine ∧ (a == sysModules) = false ∧ ∃ vs, KV kvs vs ∧ h.DictOf (mixKind P w) a vs
  | .dT kvs => kvs.length ≤ sizeLine ∧ (a == sysModules) = false ∧ ∃ xs : List (List Key × Addr × Value),
      Paired (fun (p : List Key × V) (q : List Key × Addr × Value) => p.1 = q.1 ∧ H q.2.1 = some (.tup (p.1.map kV)) ∧ RelV p.2 q.2.2) kvs xs ∧
      ∃ o es ep, h.get? a = some o ∧ o.ExactDict ∧ o.data = .dict es ep ∧ es.toList = xs.map (entryOfKey (tupleKind (mixKind P w))) ∧ (xs.map (·.1)).Nodup
  | .set S n => h.SetOf (intKind P w) a S n
  | .ins C dx fs => H dx = some (.own a) ∧ fs.length ≤ 1000 ∧ dx ≠ a ∧ h.get? a = some (PySem.W.instObj C dx) ∧
      ∃ mA, h.Ns1 dx mA ∧ (∀ f, RelO (fs.lookup f) (mA f)) ∧ PySem.Within mA (fs.map (·.1))
  | .own _ => ∃ o, h.get? a = some o
  | .xd fs => ∃ mA, h.Ns1 a mA ∧ ∀ f, RelO (fs.lookup f) (mA f)
  | .rng lo hi => ∃ t u v, h.get? a = some { cls := .type "range", data := .fields #[.int lo t, .int hi u, .int 1 v] }
  | .frz o u => h.get? a = some o ∧ ObjOk H h a u
  | .tbl ps => h.get? a = some { cls := .none, data := .fields ps }
  | .met f x => h.get? a = some (PySem.W.methodObj (.ref f) (.ref x))
  | .ext φ => φ h ∧ (∃ o, h.get? a = some o) ∧ ∀ h1 h2 : Heap, φ h1 → (∀ o, h1.get? a = some o → h2.get? a = some o) → φ h2
noncomputable def HOk (H : Hp) (h : Heap) : Prop := ∀ a o, H a = some o → ObjOk P w H h a o
end

section
variable {P : Program} {w : World} {H H' : Hp} {h h' : Heap} {a : Addr} {o : HO}
theorem ObjOk.lt (x : ObjOk P w H h a o) : a < h.objs.size := by
  cases o with
  | lst xs => obtain ⟨_, _, _, _, e⟩ := x; exact Heap.lt_size e
  | tup xs => obtain ⟨_, _, _, p⟩ := x; exact p.lt
  | dK kvs => obtain ⟨_, _, _, _, o, _, _, e, _⟩ := x; exact Heap.lt_size e
  | dT kvs => obtain ⟨_, _, _, _, o, _, _, e, _⟩ := x; exact Heap.lt_size e
  | set S n => obtain ⟨o, _, _, _, e, _⟩ := x; exact Heap.lt_size e
  | ins C dx fs => obtain ⟨_, _, _, e, _⟩ := x; exact Heap.lt_size e
  | own y => obtain ⟨_, e⟩ := x; exact Heap.lt_size e
  | xd fs => obtain ⟨_, ⟨_, _, _, e, _⟩, _⟩ := x; exact Heap.lt_size e
  | rng lo hi => obtain ⟨_, _, _, e⟩ := x; exact Heap.lt_size e
  | frz ob u => obtain ⟨e, _⟩ := x; exact Heap.lt_size e
  | tbl ps => exact Heap.lt_size (show h.get? a = some _ from x)
  | met f y => exact Heap.lt_size (show h.get? a = some _ from x)
  | ext φ => obtain ⟨_, ⟨_, e⟩, _⟩ := x; exact Heap.lt_size e
theorem Paired.mapP {α β : Type} {F G : α → β → Prop} {l₁ : List α} {l₂ : List β} (p : Paired F l₁ l₂) (f : ∀ a b, F a b → G a b) : Paired G l₁ l₂ := by
  induction p with
  | nil => exact .nil
  | cons r _ ih => exact .cons (f _ _ r) ih
theorem ObjOk.stay (x : ObjOk P w H h a o) (k : ∀ b u, (b = a ∨ H b = some (.own a)) → h.get? b = some u → h'.get? b = some u)
    (ho : ∀ b, H b = some (.own a) → H' b = some (.own a)) (ht : ∀ b xs, H b = some (.tup xs) → H' b = some (.tup xs)) : ObjOk P w H' h' a o := by
  induction o with
  | lst xs => obtain ⟨z, its, n, r, e⟩ := x; exact ⟨z, its, n, r, k _ _ (.inl rfl) e⟩
  | tup xs => obtain ⟨z, its, r, ob, e, c⟩ := x; exact ⟨z, its, r, ob, k _ _ (.inl rfl) e, c⟩
  | dK kvs => obtain ⟨z, y, vs, r, ob, es, ep, e, c⟩ := x; exact ⟨z, y, vs, r, ob, es, ep, k _ _ (.inl rfl) e, c⟩
  | dT kvs =>
    obtain ⟨z, y, xs, r, ob, es, ep, e, c⟩ := x
    exact ⟨z, y, xs, Paired.mapP r fun p q z => ⟨z.1, ht _ _ z.2.1, z.2.2⟩, ob, es, ep, k _ _ (.inl rfl) e, c⟩
  | set S n => obtain ⟨ob, es, ep, t, e, c⟩ := x; exact ⟨ob, es, ep, t, k _ _ (.inl rfl) e, c⟩
  | ins C dx fs =>
    obtain ⟨d, z, ne, e, mA, ⟨od, es, ep, e2, c⟩, r⟩ := x
    exact ⟨ho _ d, z, ne, k _ _ (.inl rfl) e, mA, ⟨od, es, ep, k _ _ (.inr d) e2, c⟩, r⟩
  | own y => obtain ⟨ob, e⟩ := x; exact ⟨ob, k _ _ (.inl rfl) e⟩
  | xd fs => obtain ⟨mA, ⟨od, es, ep, e, c⟩, r⟩ := x; exact ⟨mA, ⟨od, es, ep, k _ _ (.inl rfl) e, c⟩, r⟩
  | rng lo hi => obtain ⟨t, u, v, e⟩ := x; exact ⟨t, u, v, k _ _ (.inl rfl) e⟩
  | frz ob u ih => obtain ⟨e, q⟩ := x; exact ⟨k _ _ (.inl rfl) e, ih q⟩
  | tbl ps =>
    have e : h.get? a = some { cls := .none, data := .fields ps } := x
    show h'.get? a = some { cls := .none, data := .fields ps }
    exact k a _ (.inl rfl) e
  | met f y =>
    have e : h.get? a = some (PySem.W.methodObj (.ref f) (.ref y)) := x
    show h'.get? a = some (PySem.W.methodObj (.ref f) (.ref y))
    exact k a _ (.inl rfl) e
  | ext φ => obtain ⟨p, ⟨o, e⟩, st⟩ := x; exact ⟨st _ _ p fun o q => k _ _ (.inl rfl) q, ⟨o, k _ _ (.inl rfl) e⟩, st⟩
theorem HOk.lt (x : HOk P w H h) (e : H a = some o) : a < h.objs.size := (x a o e).lt
theorem HOk.fresh (x : HOk P w H h) (e : h.objs.size ≤ a) : H a = none := by
  cases q : H a with
  | none => rfl
  | some u => exact absurd (Nat.lt_of_lt_of_le (x.lt q) e) (Nat.lt_irrefl _)
theorem HOk.kept (x : HOk P w H h) (k : ∀ b u, h.get? b = some u → h'.get? b = some u) : HOk P w H h' := fun a o e =>
  (x a o e).stay (fun b u _ q => k b u q) (fun _ q => q) fun _ _ q => q
theorem HOk.laid (x : HOk P w H h) (k : ∀ b u, h.get? b = some u → h'.get? b = some u) (hp : h.objs.size ≤ a) (new : ObjOk P w (upd H a o) h' a o) : HOk P w (upd H a o) h' := fun b u e => by
  have hn := x.fresh hp
  by_cases hb : b = a
  · subst hb; rw [upd_same] at e; cases e; exact new
  · rw [upd_ne hb] at e
    exact (x b u e).stay (fun c v _ q => k c v q) (fun c q => by rw [upd_ne (ne_of_none q hn)]; exact q) fun c xs q => by rw [upd_ne (ne_of_none q hn)]; exact q
end
noncomputable def Rd (H : Hp) (a : Addr) (u : HO) : Prop := H a = some u ∨ ∃ o, H a = some (.frz o u)
theorem Rd.ok {P : Program} {w : World} {H : Hp} {h : Heap} {a : Addr} {u : HO} (r : Rd H a u) (x : HOk P w H h) : ObjOk P w H h a u := by
  rcases r with r | ⟨o, r⟩
  · exact x a u r
  · obtain ⟨_, q⟩ := x a _ r
    exact q
noncomputable def Mut : Option HO → Prop
  | some (.lst _) => True
  | some (.dK _) => True
  | some (.dT _) => True
  | some (.set _ _) => True
  | some (.ins _ _ _) => True
  | some (.ext _) => True
  | _ => False
section
variable {P : Program} {w : World} {H : Hp} {h h' : Heap} {x e : Addr} {o' : HO}
theorem HOk.write (ok : HOk P w H h) (mu : Mut (H x)) (he : e = x ∨ H e = some (.own x)) (k : ∀ b u, b ≠ e → h.get? b = some u → h'.get? b = some u) (heo : ∃ u, h'.get? e = some u)
    (new : ObjOk P w (upd H x o') h' x o') : HOk P w (upd H x o') h' := fun b u q => by
  have nown : ∀ c y, H c = some (.own y) → c ≠ x := fun c y r z => by subst z; rw [r] at mu; exact mu
  have ntup : ∀ c xs, H c = some (.tup xs) → c ≠ x := fun c xs r z => by subst z; rw [r] at mu; exact mu
  by_cases hb : b = x
  · subst hb; rw [upd_same] at q; cases q; exact new
  · rw [upd_ne hb] at q
    by_cases hbe : b = e
    · have q' : H b = some (.own x) := by
        rcases he with z | z
        · exact absurd (hbe.trans z) hb
        · rw [hbe]; exact z
      rw [q] at q'; cases q'
      obtain ⟨v, hv⟩ := heo
      exact ⟨v, by rw [hbe]; exact hv⟩
    · refine (ok b u q).stay (fun c v hc r => k c v ?_ r) (fun c r => by rw [upd_ne (nown c b r)]; exact r) fun c xs r => by rw [upd_ne (ntup c xs r)]; exact r
      rcases hc with rfl | hc
      · exact hbe
      · rintro rfl
        rcases he with z | z
        · exact nown c b hc z
        · rw [hc] at z; cases z; exact hb rfl
end

structure Un (fs ex : List Addr) (H H' : Hp) (h h' : Heap) : Prop where
  keep : ∀ b o, h.get? b = some o → H b = none → b ∉ fs → b ∉ ex → h'.get? b = some o
  slot : ∀ b o, h.get? b = some o → H b = none → b ∈ fs → b ∉ ex → ∃ sl, h'.get? b = some { o with slots := sl }
  free : ∀ b o, h.get? b = some o → H b = none → b ∉ ex → H' b = none
  there : ∀ b o, h.get? b = some o → b ∉ ex → ∃ o', h'.get? b = some o'
  tups : ∀ b xs, H b = some (.tup xs) → H' b = some (.tup xs)
  frzs : ∀ b o u, H b = some (.frz o u) → H' b = some (.frz o u)
  tbls : ∀ b ps, H b = some (.tbl ps) → ∃ more, H' b = some (.tbl (ps ++ more))
section
variable {fs fs' ex ex' : List Addr} {H H1 H2 : Hp} {h h1 h2 h' : Heap} {a x e : Addr} {o : HO}
theorem Un.any (u : Un fs ex H H1 h h1) {b : Addr} {ob : Obj} (q : h.get? b = some ob) (n : H b = none) (hx : b ∉ ex) : ∃ sl, h1.get? b = some { ob with slots := sl } := by
  by_cases hb : b ∈ fs
  · exact u.slot b ob q n hb hx
  · exact ⟨ob.slots, u.keep b ob q n hb hx⟩
theorem Un.kept (k : ∀ b u, h.get? b = some u → h'.get? b = some u) : Un fs ex H H h h' :=
  ⟨fun b ob q _ _ _ => k b ob q, fun b ob q _ _ _ => ⟨ob.slots, k b ob q⟩, fun _ _ _ n _ => n, fun b ob q _ => ⟨ob, k b ob q⟩, fun _ _ q => q, fun _ _ _ q => q, fun _ ps q => ⟨#[], by rw [q]; simp⟩⟩
theorem Un.refl : Un fs ex H H h h := Un.kept fun _ _ q => q
theorem Un.laid (k : ∀ b u, h.get? b = some u → h'.get? b = some u) (hp : h.objs.size ≤ a) (hn : H a = none) : Un fs ex H (upd H a o) h h' where
  keep := fun b u q _ _ _ => k b u q
  slot := fun b u q _ _ _ => ⟨u.slots, k b u q⟩
  free := fun b u q n _ => by rw [upd_ne (Nat.ne_of_lt (Nat.lt_of_lt_of_le (Heap.lt_size q) hp))]; exact n
  there := fun b u q _ => ⟨u, k b u q⟩
  tups := fun b xs q => by rw [upd_ne (ne_of_none q hn)]; exact q
  frzs := fun b u xs q => by rw [upd_ne (ne_of_none q hn)]; exact q
  tbls := fun b ps q => ⟨#[], by rw [upd_ne (ne_of_none q hn), q]; simp⟩
theorem Un.write (mu : Mut (H x)) (he : e = x ∨ H e = some (.own x)) (k : ∀ b u, b ≠ e → h.get? b = some u → h'.get? b = some u) (heo : ∃ u, h'.get? e = some u) : Un fs ex H (upd H x o) h h' := by
  have hx : ∀ b, H b = none → b ≠ x := fun b n z => by subst z; rw [n] at mu; exact mu
  have hb : ∀ b, H b = none → b ≠ e := fun b n z => by
    subst z
    rcases he with r | r
    · exact hx b n r
    · rw [n] at r; cases r
  have hm : ∀ b u, H b = some u → ¬ Mut (some u) → b ≠ x := fun b u q nm z => by subst z; rw [q] at mu; exact nm mu
  refine ⟨fun b u q n _ _ => k b u (hb b n) q, fun b u q n _ _ => ⟨u.slots, k b u (hb b n) q⟩, fun b u q n _ => by rw [upd_ne (hx b n)]; exact n, fun b u q _ => ?_,
    fun b xs q => by rw [upd_ne (hm b _ q fun z => z)]; exact q, fun b u xs q => by rw [upd_ne (hm b _ q fun z => z)]; exact q, fun b ps q => ⟨#[], by rw [upd_ne (hm b _ q fun z => z), q]; simp⟩⟩
  by_cases hbe : b = e
  · subst hbe; exact heo
  · exact ⟨u, k b u hbe q⟩
end

noncomputable def trk (h : Heap) (H : Hp) : List Addr := (List.range h.objs.size).filter fun a => (H a).isSome
noncomputable def hidT (h : Heap) (H : Hp) : Heap := PySem.W.hideAll h (trk h H)
theorem hidT_size (h : Heap) (H : Hp) : (hidT h H).objs.size = h.objs.size := PySem.W.hideAll_size _ _
theorem hidT_get {h : Heap} {H : Hp} {b : Addr} {o : Obj} (e : h.get? b = some o) (n : H b = none) : (hidT h H).get? b = some o :=
  PySem.W.hideAll_get _ e fun hm => by
    have q : (H b).isSome = true := (List.mem_filter.mp hm).2
    rw [n] at q; simp at q
theorem of_hidT {h : Heap} {H : Hp} {b : Addr} {o : Obj} (e : (hidT h H).get? b = some o) : h.get? b = some o ∧ H b = none := by
  have e' : h.get? b = some o := PySem.W.of_hideAll (trk h H) e
  refine ⟨e', ?_⟩
  cases q : H b with
  | none => rfl
  | some x =>
    have hm : b ∈ trk h H := List.mem_filter.mpr ⟨List.mem_range.mpr (Heap.lt_size e'), by simp [q]⟩
    have z : (hidT h H).get? b = none := PySem.W.hideAll_none (trk h H) hm
    rw [z] at e; cases e

noncomputable def allNews (g h : Heap) (L : Addr) : List (Addr × Obj) := (List.range h.objs.size).filterMap fun a => if a = L ∨ (g.get? a).isSome = true then none else (h.get? a).map fun o => (a, o)
noncomputable def rest (g h : Heap) (L d : Addr) : List (Addr × Obj) := (allNews g h L).filter fun p => decide (p.1 ≠ d)
end L2

namespace L2
open PySem PySem.Spec PyProof.Rows
structure Mod (K : PySem.W.Frag) (mg : Str → Option Value) (base : Heap) : Prop where
  kin : K.In base
  glob : base.Ns mainGlobals mg
  blt : ∃ mb, base.Ns builtinsNs mb ∧ ∀ x : Str, x ≠ "__name__" → mb x = bootBuiltins x
  nolimit : base.NoLimit
structure Cx where
  prog : Program
  w : World
  K : PySem.W.Frag
  mg : Str → Option Value
  base : Heap
  A : Around
  N : List Str
  s₀ : Shared
  H₀ : Hp
  env : Env
  outer : List Env
  stack : List Env
  ex : List Addr
  fn : Str → Bool
  calm : Bool
  pn : List (Addr × Obj)
  xe : Value → Shared → Prop
noncomputable def frs (l : List Env) : List Addr := l.filterMap (·.frame)
noncomputable abbrev Cx.fs (X : Cx) : List Addr := frs X.outer

noncomputable def Vis (sc : Scope) (x : Str) : Prop := sc.names.lookup x = some .local ∨ sc.names.lookup x = some .cell ∨ sc.names.lookup x = some .free
noncomputable def Loc (sc : Scope) (x : Str) : Prop := sc.names.lookup x = some .local ∨ sc.names.lookup x = some .cell
noncomputable def Look (env : Env) (h : Heap) (m : Str → Option Value) (x : Str) (u : Value) : Prop :=
  (env.kindOf x = some .local ∧ m x = some u) ∨ ((env.kindOf x = some .cell ∨ env.kindOf x = some .free) ∧ ∃ c, env.cells.lookup x = some c ∧ h.IsCell c (some u))

structure Cx.Ok (X : Cx) : Prop where
  mod : Mod X.K X.mg X.base
  kind : X.env.scope.kind = .function
  glob : X.env.globals = mainGlobals
  blt : X.env.builtins = builtinsNs
  above : X.s₀.heap.objs.size ≤ X.env.locals
  inj : ∀ x y c, X.env.cells.lookup x = some c → X.env.cells.lookup y = some c → x = y
  has : ∀ x, (X.env.kindOf x = some .cell ∨ X.env.kindOf x = some .free) → ∃ c, X.env.cells.lookup x = some c
  cab : ∀ x c, X.fn x = true → X.env.cells.lookup x = some c → X.s₀.heap.objs.size ≤ c
  hd : X.calm = true → X.A.handled = none
  frames : X.A.frames = some X.stack
  stk : X.stack = X.outer ∨ (X.stack = X.env :: X.outer ∧ X.env.frame = some X.env.locals)
  exf : ∀ b ∈ X.ex, b ≠ X.env.locals ∧ ∀ x c, X.env.cells.lookup x = some c → c ≠ b
  bs : ∀ b o, X.base.get? b = some o → X.s₀.heap.get? b = some o ∧ X.H₀ b = none
  bsz : X.base.objs.size ≤ X.s₀.heap.objs.size
  noex : ∀ b o, X.base.get? b = some o → b ∉ X.ex
  exfs : ∀ b ∈ X.ex, b ∉ X.fs
  funs : X.s₀.heap.FunFrames X.base X.outer
  frf : ∀ b ∈ X.fs, X.H₀ b = none

structure Inv (X : Cx) (pins : List (Addr × Obj)) (σ : List (Option V)) (H : Hp) (s : Shared) : Prop where
  ok : X.Ok
  os : s.os = X.s₀.os
  bare : AllBare s.gens
  base : Un X.fs X.ex X.H₀ H X.s₀.heap s.heap
  loc : ∃ m, s.heap.Ns X.env.locals m ∧ ∀ (i : Nat) (x : Str) (v : V), X.N[i]? = some x → σ[i]? = some (some v) → Vis X.env.scope x → ∃ u, RelV v u ∧ Look X.env s.heap m x u
  cell : ∀ x c, X.env.cells.lookup x = some c → ∃ v, s.heap.IsCell c v
  free : H X.env.locals = none
  freeC : ∀ x c, X.env.cells.lookup x = some c → H c = none
  pin : ∀ p ∈ X.pn ++ pins, s.heap.get? p.1 = some p.2 ∧ H p.1 = none ∧ p.1 ≠ X.env.locals ∧ p.1 ∉ X.fs ∧ ∀ v, p.2.data ≠ .cell v
  hok : HOk X.prog X.w H s.heap
  len : σ.length = X.N.length

section
variable {X : Cx} {pins : List (Addr × Obj)} {σ : List (Option V)} {H H' : Hp} {s : Shared} {h' : Heap}

theorem Cx.Ok.nofr (ok : X.Ok) {b : Addr} {o : Obj} (e : X.base.get? b = some o) : b ∉ X.fs := fun hb => by
  have := (ok.funs.mem hb).1
  rw [e] at this; cases this
theorem Inv.bs (I : Inv X pins σ H s) : ∀ b o, X.base.get? b = some o → s.heap.get? b = some o ∧ H b = none := fun b o e =>
  ⟨I.base.keep b o (I.ok.bs b o e).1 (I.ok.bs b o e).2 (I.ok.nofr e) (I.ok.noex b o e), I.base.free b o (I.ok.bs b o e).1 (I.ok.bs b o e).2 (I.ok.noex b o e)⟩
theorem Inv.bk (I : Inv X pins σ H s) : ∀ b o, X.base.get? b = some o → s.heap.get? b = some o := fun b o e => (I.bs b o e).1
theorem Inv.mod (I : Inv X pins σ H s) : Mod X.K X.mg X.base := I.ok.mod
theorem Inv.kIn (I : Inv X pins σ H s) : X.K.In s.heap := I.ok.mod.kin.keeps I.bk
theorem Inv.lt (I : Inv X pins σ H s) : X.env.locals < s.heap.objs.size := let ⟨_, hn, _⟩ := I.loc; hn.lt
theorem Inv.sz (I : Inv X pins σ H s) : X.s₀.heap.objs.size ≤ s.heap.objs.size := Nat.le_trans I.ok.above (Nat.le_of_lt I.lt)
theorem Inv.nofs (I : Inv X pins σ H s) {a : Addr} (h : s.heap.objs.size ≤ a) : a ∉ X.fs := fun hb => by
  obtain ⟨_, o, ho, _⟩ := I.ok.funs.mem hb
  exact absurd (Nat.lt_of_lt_of_le (Heap.lt_size ho) (Nat.le_trans I.sz h)) (Nat.lt_irrefl _)
theorem Inv.cne (I : Inv X pins σ H s) : ∀ x c, X.env.cells.lookup x = some c → c ≠ X.env.locals := fun x c e z => by
  obtain ⟨v, o, ho, hd⟩ := I.cell x c e
  obtain ⟨m, ⟨o', es, ep, ho', hd', _⟩, _⟩ := I.loc
  rw [z, ho'] at ho; cases ho; rw [hd'] at hd; cases hd
theorem Inv.funs (I : Inv X pins σ H s) : s.heap.FunFrames X.base X.outer := by
  have all : ∀ (l : List Env), (∀ b ∈ frs l, b ∈ X.fs) → X.s₀.heap.FunFrames X.base l → s.heap.FunFrames X.base l := by
    intro l
    induction l with
    | nil => intro _ _; trivial
    | cons env r ih =>
      intro hs hl
      obtain ⟨hk, ⟨L, o, hf, hn, ho, hd⟩, hr⟩ := hl
      have hL : L ∈ X.fs := hs L (by unfold frs; rw [List.filterMap_cons, hf]; exact List.mem_cons_self)
      obtain ⟨sl, e⟩ := I.base.slot L o ho (I.ok.frf L hL) hL fun z => I.ok.exfs L z hL
      exact ⟨hk, ⟨L, _, hf, hn, e, hd⟩, ih (fun b hb => hs b (by unfold frs; rw [List.filterMap_cons, hf]; exact List.mem_cons_of_mem _ hb)) hr⟩
  exact all X.outer (fun _ hb => hb) I.ok.funs
theorem Inv.stack (I : Inv X pins σ H s) : s.heap.FunFrames X.base X.stack := by
  rcases I.ok.stk with e | ⟨e, hf⟩
  · rw [e]; exact I.funs
  · rw [e]
    obtain ⟨m, hn, _⟩ := I.loc
    refine .cons (by rw [I.ok.kind]; decide) hf hn ?_ I.funs
    exact Heap.get?_none_of_le (Nat.le_trans I.ok.bsz I.ok.above)
theorem Inv.stkSub (I : Inv X pins σ H s) : ∀ b ∈ frs X.stack, b ∈ X.env.locals :: X.fs := fun b hb => by
  rcases I.ok.stk with e | ⟨e, hf⟩
  · rw [e] at hb; exact List.mem_cons_of_mem _ hb
  · rw [e] at hb
    unfold frs at hb
    rw [List.filterMap_cons, hf] at hb
    exact hb
theorem Inv.stkFree (I : Inv X pins σ H s) : ∀ b ∈ frs X.stack, H b = none := fun b hb => by
  rcases List.mem_cons.mp (I.stkSub b hb) with e | hb
  · rw [e]; exact I.free
  · obtain ⟨_, o, ho, _⟩ := I.ok.funs.mem hb
    exact I.base.free b o ho (I.ok.frf b hb) fun z => I.ok.exfs b z hb
theorem Inv.step {g' : Array GenState} {t' : Nat} {d' : Drawn} {ch : List Addr} (I : Inv X pins σ H s)
    (hch : ∀ b ∈ ch, (b ∈ X.ex ∨ X.s₀.heap.objs.size ≤ b) ∧ b ≠ X.env.locals ∧ (∀ x c, X.env.cells.lookup x = some c → c ≠ b) ∧ ∀ p ∈ X.pn ++ pins, p.1 ≠ b)
    (keep : ∀ b o, b ≠ X.env.locals → b ∉ X.fs → b ∉ ch → s.heap.get? b = some o → H b = none → h'.get? b = some o)
    (slot : ∀ b o, b ≠ X.env.locals → b ∈ X.fs → b ∉ ch → s.heap.get? b = some o → H b = none → ∃ sl, h'.get? b = some { o with slots := sl }) (free : ∀ b o, b ∉ ch → s.heap.get? b = some o → H b = none → H' b = none)
    (there : ∀ b o, b ∉ ch → s.heap.get? b = some o → ∃ o', h'.get? b = some o')
    (tups : ∀ b xs, H b = some (.tup xs) → H' b = some (.tup xs)) (frzs : ∀ b o u, H b = some (.frz o u) → H' b = some (.frz o u)) (tbls : ∀ b ps, H b = some (.tbl ps) → ∃ more, H' b = some (.tbl (ps ++ more)))
    (ns : ∀ m, s.heap.Ns X.env.locals m → h'.Ns X.env.locals m) (hok : HOk X.prog X.w H' h') (hg : AllBare g') :
    Inv X pins σ H' { s with heap := h', gens := g', drawn := d', toks := t' } := by
  have neL : ∀ b o, X.s₀.heap.get? b = some o → b ≠ X.env.locals := fun b o e => Nat.ne_of_lt (Nat.lt_of_lt_of_le (Heap.lt_size e) I.ok.above)
  have neC : ∀ b o, X.s₀.heap.get? b = some o → b ∉ X.ex → b ∉ ch := fun b o e hx hb => by
    rcases (hch b hb).1 with z | z
    · exact hx z
    · exact absurd (Nat.lt_of_lt_of_le (Heap.lt_size e) z) (Nat.lt_irrefl _)
  have cellK : ∀ x c, X.env.cells.lookup x = some c → ∀ v, s.heap.IsCell c v → h'.IsCell c v := fun x c e v ⟨o, ho, hd⟩ => by
    have nch : c ∉ ch := fun z => (hch c z).2.2.1 x c e rfl
    by_cases hc : c ∈ X.fs
    · obtain ⟨sl, q⟩ := slot c o (I.cne x c e) hc nch ho (I.freeC x c e)
      exact ⟨_, q, hd⟩
    · exact ⟨o, keep c o (I.cne x c e) hc nch ho (I.freeC x c e), hd⟩
  refine ⟨I.ok, I.os, hg, ⟨fun b o e n hb hx => ?_, fun b o e n hb hx => ?_, fun b o e n hx => ?_, fun b o e hx => ?_, fun b xs e => tups b xs (I.base.tups b xs e), fun b o xs e => frzs b o xs (I.base.frzs b o xs e), fun b ps e => ?_⟩, ?_, fun x c e => ?_, ?_, fun x c e => ?_, fun p hp => ?_, hok, I.len⟩
  · exact keep b o (neL b o e) hb (neC b o e hx) (I.base.keep b o e n hb hx) (I.base.free b o e n hx)
  · obtain ⟨sl, e1⟩ := I.base.slot b o e n hb hx
    obtain ⟨sl', e2⟩ := slot b _ (neL b o e) hb (neC b o e hx) e1 (I.base.free b o e n hx)
    exact ⟨sl', e2⟩
  · obtain ⟨o', e1⟩ := I.base.there b o e hx
    exact free b o' (neC b o e hx) e1 (I.base.free b o e n hx)
  · obtain ⟨o', e1⟩ := I.base.there b o e hx
    exact there b o' (neC b o e hx) e1
  · obtain ⟨m1, e1⟩ := I.base.tbls b ps e
    obtain ⟨m2, e2⟩ := tbls b _ e1
    exact ⟨m1 ++ m2, by rw [e2, Array.append_assoc]⟩
  · obtain ⟨m, hn, hl⟩ := I.loc
    refine ⟨m, ns m hn, fun i x v e1 e2 e3 => ?_⟩
    obtain ⟨u, r, l⟩ := hl i x v e1 e2 e3
    refine ⟨u, r, ?_⟩
    rcases l with l | ⟨k, c, e, z⟩
    · exact .inl l
    · exact .inr ⟨k, c, e, cellK x c e _ z⟩
  · obtain ⟨v, z⟩ := I.cell x c e
    exact ⟨v, cellK x c e v z⟩
  · obtain ⟨m, ⟨o, _, _, ho, _⟩, _⟩ := I.loc
    exact free _ o (fun z => (hch _ z).2.1 rfl) ho I.free
  · obtain ⟨v, o, ho, hd⟩ := I.cell x c e
    exact free c o (fun z => (hch c z).2.2.1 x c e rfl) ho (I.freeC x c e)
  · obtain ⟨e, n, ne, nf, d⟩ := I.pin p hp
    have nch : p.1 ∉ ch := fun z => (hch p.1 z).2.2.2 p hp rfl
    exact ⟨keep p.1 p.2 ne nf nch e n, free p.1 p.2 nch e n, ne, nf, d⟩
theorem Inv.un {t' : Nat} (I : Inv X pins σ H s) (u : Un X.fs [] H H' s.heap h') (hok : HOk X.prog X.w H' h') : Inv X pins σ H' { s with heap := h', toks := t' } := by
  obtain ⟨m, ⟨o, es, ep, ho, r⟩, _⟩ := id I.loc
  obtain ⟨sl, hL⟩ := u.any ho I.free (by simp)
  exact I.step (g' := s.gens) (d' := s.drawn) (ch := []) (fun _ z => nomatch z) (fun b o _ hb _ e n => u.keep b o e n hb (by simp)) (fun b o _ hb _ e n => u.slot b o e n hb (by simp)) (fun b o _ e n => u.free b o e n (by simp)) (fun b o _ e => u.there b o e (by simp)) u.tups u.frzs u.tbls (fun m' hm => by
    obtain ⟨o', es', ep', ho', r'⟩ := hm
    rw [ho] at ho'; cases ho'
    exact ⟨_, es', ep', hL, r'⟩) hok I.bare
theorem Inv.call {g' : Array GenState} {t' : Nat} {d' : Drawn} {ch : List Addr} (I : Inv X pins σ H s) (u : Un (frs X.stack) ch H H' s.heap h') (hok : HOk X.prog X.w H' h') (hg : AllBare g')
    (hch : ∀ b ∈ ch, (b ∈ X.ex ∨ X.s₀.heap.objs.size ≤ b) ∧ b ≠ X.env.locals ∧ (∀ x c, X.env.cells.lookup x = some c → c ≠ b) ∧ ∀ p ∈ X.pn ++ pins, p.1 ≠ b) :
    Inv X pins σ H' { s with heap := h', gens := g', drawn := d', toks := t' } := by
  obtain ⟨m, ⟨o, es, ep, ho, r⟩, _⟩ := id I.loc
  obtain ⟨sl, hL⟩ := u.any ho I.free fun z => (hch _ z).2.1 rfl
  exact I.step (ch := ch) hch (fun b o hL hb hc e n => u.keep b o e n (fun z => (List.mem_cons.mp (I.stkSub b z)).elim hL hb) hc) (fun b o _ _ hc e n => u.any e n hc) (fun b o hc e n => u.free b o e n hc) (fun b o hc e => u.there b o e hc) u.tups u.frzs u.tbls (fun m' hm => by
    obtain ⟨o', es', ep', ho', r'⟩ := hm
    rw [ho] at ho'; cases ho'
    exact ⟨_, es', ep', hL, r'⟩) hok hg
theorem Inv.turned {t' : Nat} {it : Addr} (I : Inv X pins σ H s) (k : ∀ b o, b ≠ it → s.heap.get? b = some o → h'.get? b = some o) (hn : H it = none) (hL : it ≠ X.env.locals)
    (h1 : it ∈ X.ex ∨ X.s₀.heap.objs.size ≤ it) (h2 : ∀ x c, X.env.cells.lookup x = some c → c ≠ it) (h3 : ∀ p ∈ X.pn ++ pins, p.1 ≠ it) : Inv X pins σ H { s with heap := h', toks := t' } := by
  have nit : ∀ b u, H b = some u → b ≠ it := fun b u e z => by rw [z, hn] at e; cases e
  refine I.step (g' := s.gens) (d' := s.drawn) (ch := [it]) (fun b hb => ?_) (fun b o _ _ hc e _ => k b o (fun z => hc (by simp [z])) e) (fun b o _ _ hc e _ => ⟨o.slots, k b o (fun z => hc (by simp [z])) e⟩) (fun _ _ _ _ n => n)
    (fun b o hc e => ⟨o, k b o (fun z => hc (by simp [z])) e⟩) (fun _ _ e => e) (fun _ _ _ e => e) (fun b ps e => ⟨#[], by rw [e]; simp⟩) (fun m hm => ?_) (fun b u e => ?_) I.bare
  · have e : b = it := by simpa using hb
    subst e
    exact ⟨h1, hL, h2, h3⟩
  · obtain ⟨o, es, ep, ho, r⟩ := hm
    exact ⟨o, es, ep, k _ o (Ne.symm hL) ho, r⟩
  · refine (I.hok b u e).stay (fun c v hc q => k c v ?_ q) (fun _ q => q) fun _ _ q => q
    rcases hc with z | z
    · rw [z]; exact nit b u e
    · exact nit c _ z
theorem Inv.tok (I : Inv X pins σ H s) (t : Nat) : Inv X pins σ H { s with toks := t } := I.un (h' := s.heap) (t' := t) Un.refl I.hok
theorem Inv.kept {t' : Nat} (I : Inv X pins σ H s) (k : ∀ b u, s.heap.get? b = some u → h'.get? b = some u) : Inv X pins σ H { s with heap := h', toks := t' } := I.un (Un.kept k) (I.hok.kept k)
theorem Inv.laid {a : Addr} {o : HO} {t' : Nat} (I : Inv X pins σ H s) (k : ∀ b u, s.heap.get? b = some u → h'.get? b = some u) (hp : s.heap.objs.size ≤ a) (new : ObjOk X.prog X.w (upd H a o) h' a o) :
    Inv X pins σ (upd H a o) { s with heap := h', toks := t' } := I.un (Un.laid k hp (I.hok.fresh hp)) (I.hok.laid k hp new)
theorem Inv.write {x e : Addr} {o : HO} {t' : Nat} (I : Inv X pins σ H s) (mu : Mut (H x)) (he : e = x ∨ H e = some (.own x)) (k : ∀ b u, b ≠ e → s.heap.get? b = some u → h'.get? b = some u) (heo : ∃ u, h'.get? e = some u)
    (new : ObjOk X.prog X.w (upd H x o) h' x o) : Inv X pins σ (upd H x o) { s with heap := h', toks := t' } := I.un (Un.write mu he k heo) (I.hok.write mu he k heo new)
theorem Inv.pins_of {pins' : List (Addr × Obj)} (I : Inv X pins σ H s) (h : ∀ p ∈ pins', s.heap.get? p.1 = some p.2 ∧ H p.1 = none ∧ p.1 ≠ X.env.locals ∧ p.1 ∉ X.fs ∧ ∀ v, p.2.data ≠ .cell v) : Inv X pins' σ H s :=
  ⟨I.ok, I.os, I.bare, I.base, I.loc, I.cell, I.free, I.freeC, fun p hp => (List.mem_append.mp hp).elim (fun z => I.pin p (List.mem_append_left _ z)) (h p), I.hok, I.len⟩

theorem nodup_ix {N : List Str} (hN : N.Nodup) {i j : Nat} {x : Str} (a : N[i]? = some x) (b : N[j]? = some x) : i = j := by
  obtain ⟨h1, e1⟩ := List.getElem?_eq_some_iff.mp a
  obtain ⟨h2, e2⟩ := List.getElem?_eq_some_iff.mp b
  exact (List.getElem_inj hN).mp (e1.trans e2.symm)
theorem store_ok2 {M : Model} {A : Around} {E : Value → Shared → Prop} {i : Nat} {x : Str} {v : V} {u : Value} {Q : Unit → Shared → Prop} (I : Inv X pins σ H s) (hN : X.N.Nodup) (hi : X.N[i]? = some x) (hx : Loc X.env.scope x) (r : RelV v u)
    (h : ∀ s', Inv X pins (σ.set i (some v)) H s' → (∃ a, Heap.SameBut a s.heap s'.heap ∧ (a = X.env.locals ∨ X.env.cells.lookup x = some a)) → Q () s') (hf : X.fn x = true ∨ X.env.scope.names.lookup x = some .local := by first | exact .inl rfl | exact .inr rfl | assumption) : wpAny M A (storeName X.env x u) Q E s := by
  obtain ⟨m, hn, hl⟩ := id I.loc
  have hcls : (X.env.scope.kind == .class || (X.env.scope.kind == .module && X.env.locals != X.env.globals)) = false := by rw [I.ok.kind]; rfl
  have hiσ : i < σ.length := by rw [I.len]; exact (List.getElem?_eq_some_iff.mp hi).1
  have cne := I.cne
  have tracked : ∀ {a : Addr} {h' : Heap}, (∃ o, s.heap.get? a = some o ∧ H a = none) → Heap.SameBut a s.heap h' → HOk X.prog X.w H h' := fun {a h'} ha hs b ob e => by
    obtain ⟨_, _, hfree⟩ := ha
    refine (I.hok b ob e).stay (fun c w' hc q => (hs.2 c ?_).trans q) (fun _ q => q) fun _ _ q => q
    rintro rfl
    rcases hc with rfl | hc
    · rw [hfree] at e; cases e
    · rw [hfree] at hc; cases hc
  rcases hx with hk | hk
  · refine wpAny_storeName_local hk hn (fun h' hn' hs => ?_) hcls
    obtain ⟨oL, _, _, hoL, _⟩ := id hn
    refine h _ ⟨I.ok, I.os, I.bare, ⟨fun b o e n hb hx => ?_, fun b o e n hb hx => ?_, I.base.free, fun b o e hx => ?_, I.base.tups, I.base.frzs, I.base.tbls⟩, ⟨_, hn', fun j y v' e1 e2 e3 => ?_⟩, fun y c e => ?_, I.free, I.freeC, fun p hp => ?_, tracked ⟨oL, hoL, I.free⟩ hs, by simpa using I.len⟩ ⟨_, hs, .inl rfl⟩
    · exact (hs.2 b (Nat.ne_of_lt (Nat.lt_of_lt_of_le (Heap.lt_size e) I.ok.above))).trans (I.base.keep b o e n hb hx)
    · obtain ⟨sl, e1⟩ := I.base.slot b o e n hb hx
      exact ⟨sl, (hs.2 b (Nat.ne_of_lt (Nat.lt_of_lt_of_le (Heap.lt_size e) I.ok.above))).trans e1⟩
    · obtain ⟨o', e1⟩ := I.base.there b o e hx
      exact ⟨o', (hs.2 b (Nat.ne_of_lt (Nat.lt_of_lt_of_le (Heap.lt_size e) I.ok.above))).trans e1⟩
    · by_cases hj : j = i
      · subst hj
        rw [hi] at e1; cases e1
        rw [List.getElem?_set_self hiσ] at e2
        cases e2
        exact ⟨u, r, .inl ⟨hk, by simp⟩⟩
      · rw [List.getElem?_set_ne (Ne.symm hj)] at e2
        obtain ⟨u', r', q⟩ := hl j y v' e1 e2 e3
        refine ⟨u', r', ?_⟩
        rcases q with ⟨k, e⟩ | ⟨k, c, e, z⟩
        · refine .inl ⟨k, ?_⟩
          have : y ≠ x := fun e => hj (nodup_ix hN e1 (e ▸ hi))
          simp [this, e]
        · exact .inr ⟨k, c, e, z.sameBut hs (cne y c e)⟩
    · obtain ⟨w', z⟩ := I.cell y c e
      exact ⟨w', z.sameBut hs (cne y c e)⟩
    · obtain ⟨e, n, ne, nf, d⟩ := I.pin p hp
      exact ⟨(hs.2 p.1 ne).trans e, n, ne, nf, d⟩
  · have hfn : X.fn x = true := by
      rcases hf with z | z
      · exact z
      · rw [z] at hk; cases hk
    obtain ⟨c, hc⟩ := I.ok.has x (.inl hk)
    obtain ⟨w', z⟩ := I.cell x c hc
    refine wpAny_storeName_cell I.ok.kind hk hc z (fun h' hc' hs => ?_)
    obtain ⟨oc, hoc, hocd⟩ := id z
    refine h { s with heap := h' } ⟨I.ok, I.os, I.bare, ⟨fun b o e n hb hx => ?_, fun b o e n hb hx => ?_, I.base.free, fun b o e hx => ?_, I.base.tups, I.base.frzs, I.base.tbls⟩, ⟨m, hn.sameBut hs (Ne.symm (cne x c hc)), fun j y v' e1 e2 e3 => ?_⟩, fun y c' e => ?_, I.free, I.freeC, fun p hp => ?_, tracked ⟨oc, hoc, I.freeC x c hc⟩ hs, by simpa using I.len⟩ ⟨c, hs, .inr hc⟩
    · exact (hs.2 b (Nat.ne_of_lt (Nat.lt_of_lt_of_le (Heap.lt_size e) (I.ok.cab x c hfn hc)))).trans (I.base.keep b o e n hb hx)
    · obtain ⟨sl, e1⟩ := I.base.slot b o e n hb hx
      exact ⟨sl, (hs.2 b (Nat.ne_of_lt (Nat.lt_of_lt_of_le (Heap.lt_size e) (I.ok.cab x c hfn hc)))).trans e1⟩
    · obtain ⟨o', e1⟩ := I.base.there b o e hx
      exact ⟨o', (hs.2 b (Nat.ne_of_lt (Nat.lt_of_lt_of_le (Heap.lt_size e) (I.ok.cab x c hfn hc)))).trans e1⟩
    · by_cases hj : j = i
      · subst hj
        rw [hi] at e1; cases e1
        rw [List.getElem?_set_self hiσ] at e2
        cases e2
        exact ⟨u, r, .inr ⟨.inl hk, c, hc, hc'⟩⟩
      · rw [List.getElem?_set_ne (Ne.symm hj)] at e2
        obtain ⟨u', r', q⟩ := hl j y v' e1 e2 e3
        refine ⟨u', r', ?_⟩
        rcases q with q | ⟨k, c', e, z'⟩
        · exact .inl q
        · refine .inr ⟨k, c', e, z'.sameBut hs ?_⟩
          rintro rfl
          exact hj (nodup_ix hN e1 (I.ok.inj _ _ _ e hc ▸ hi))
    · by_cases hcc : c' = c
      · subst hcc; exact ⟨_, hc'⟩
      · obtain ⟨w2, z2⟩ := I.cell y c' e
        exact ⟨w2, z2.sameBut hs hcc⟩
    · obtain ⟨e, n, ne, nf, d⟩ := I.pin p hp
      refine ⟨(hs.2 p.1 ?_).trans e, n, ne, nf, d⟩
      intro q
      rw [q, hoc] at e
      have q' : oc = p.2 := Option.some.inj e
      exact d w' (by rw [← q']; exact hocd)
theorem store_ok {M : Model} {A : Around} {E : Value → Shared → Prop} {i : Nat} {x : Str} {v : V} {u : Value} {Q : Unit → Shared → Prop} (I : Inv X pins σ H s) (hN : X.N.Nodup) (hi : X.N[i]? = some x) (hx : Loc X.env.scope x) (r : RelV v u)
    (h : ∀ s', Inv X pins (σ.set i (some v)) H s' → Q () s') (hf : X.fn x = true ∨ X.env.scope.names.lookup x = some .local := by first | exact .inl rfl | exact .inr rfl | assumption) : wpAny M A (storeName X.env x u) Q E s :=
  store_ok2 I hN hi hx r (fun s' I' _ => h s' I') hf
theorem Inv.call' {s' : Shared} {ch : List Addr} (I : Inv X pins σ H s) (ho : s'.os = s.os) (u : Un (frs X.stack) ch H H' s.heap s'.heap) (hok : HOk X.prog X.w H' s'.heap) (hg : AllBare s'.gens)
    (hch : ∀ b ∈ ch, (b ∈ X.ex ∨ X.s₀.heap.objs.size ≤ b) ∧ b ≠ X.env.locals ∧ (∀ x c, X.env.cells.lookup x = some c → c ≠ b) ∧ ∀ p ∈ X.pn ++ pins, p.1 ≠ b) : Inv X pins σ H' s' := by
  obtain ⟨h', g', d', t', o'⟩ := s'
  have e : o' = s.os := ho
  subst e
  exact I.call (g' := g') (t' := t') (d' := d') u hok hg hch
end

noncomputable abbrev XK := Value → Option Addr → Hp → Prop
noncomputable abbrev St := List (Option V)
noncomputable abbrev VK := V → Hp → Prop
noncomputable abbrev TE := St → Hp → VK → Prop
noncomputable abbrev TT := St → Hp → (Bool → Hp → Prop) → Prop
noncomputable abbrev TA := St → Hp → (List V → Hp → Prop) → Prop
structure Ends where
  nx : St → Hp → Prop
  rt : VK
  bk : St → Hp → Prop := fun _ _ => False
  ct : St → Hp → Prop := fun _ _ => False
noncomputable abbrev TS := Ends → St → Hp → Prop

noncomputable def EP (X : Cx) (pins : List (Addr × Obj)) (σ : St) (Q : VK) (u : Value) (s' : Shared) : Prop := ∃ v H', Inv X pins σ H' s' ∧ RelV v u ∧ Q v H'
noncomputable def TP (X : Cx) (pins : List (Addr × Obj)) (σ : St) (Q : Bool → Hp → Prop) (b : Bool) (s' : Shared) : Prop := ∃ H', Inv X pins σ H' s' ∧ Q b H'
noncomputable def AP (X : Cx) (pins : List (Addr × Obj)) (σ : St) (Q : List V → Hp → Prop) (us : List Value) (s' : Shared) : Prop := ∃ vs H', Inv X pins σ H' s' ∧ Vals vs us ∧ Q vs H'
noncomputable def SP (X : Cx) (pins : List (Addr × Obj)) (D : Ends) (f : Flow) (s' : Shared) : Prop :=
  match f with
  | .next => ∃ σ' H', Inv X pins σ' H' s' ∧ D.nx σ' H'
  | .brk => ∃ σ' H', Inv X pins σ' H' s' ∧ D.bk σ' H'
  | .cont => ∃ σ' H', Inv X pins σ' H' s' ∧ D.ct σ' H'
  | .ret u => ∃ v σ' H', Inv X pins σ' H' s' ∧ RelV v u ∧ D.rt v H'

noncomputable def PE (X : Cx) (e : Expr) (t : TE) : Prop :=
  ∀ (pins : List (Addr × Obj)) (s : Shared) (σ : St) (H : Hp) (Q : VK), Inv X pins σ H s → t σ H Q → wpAny (model X.prog X.w) X.A (eval e X.env) (EP X pins σ Q) X.xe s
noncomputable def PT (X : Cx) (e : Expr) (t : TT) : Prop :=
  ∀ (pins : List (Addr × Obj)) (s : Shared) (σ : St) (H : Hp) (Q : Bool → Hp → Prop), Inv X pins σ H s → t σ H Q → wpAny (model X.prog X.w) X.A (isTrue e X.env (eval e X.env)) (TP X pins σ Q) X.xe s
noncomputable def PW (X : Cx) (e : Expr) (t : TT) : Prop :=
  ∀ (whole : Sem Value) (pins : List (Addr × Obj)) (s : Shared) (σ : St) (H : Hp) (Q : Bool → Hp → Prop), Inv X pins σ H s → t σ H Q → wpAny (model X.prog X.w) X.A (isTrue e X.env whole) (TP X pins σ Q) X.xe s
theorem PW.pt {X : Cx} {e : Expr} {t : TT} (h : PW X e t) : PT X e t := h _
noncomputable def PA (X : Cx) (es : List Expr) (t : TA) : Prop :=
  ∀ (pos : Pos) (pins : List (Addr × Obj)) (s : Shared) (σ : St) (H : Hp) (Q : List V → Hp → Prop), Inv X pins σ H s → t σ H Q → wpAny (model X.prog X.w) X.A (spliced (backTo pos (starEach es X.env))) (AP X pins σ Q) X.xe s
noncomputable def PS (X : Cx) (st : Stmt) (t : TS) : Prop :=
  ∀ (pins : List (Addr × Obj)) (s : Shared) (σ : St) (H : Hp) (D : Ends), Inv X pins σ H s → t D σ H → wpAny (model X.prog X.w) X.A (exec st X.env) (SP X pins D) X.xe s
noncomputable def PSs (X : Cx) (st : List Stmt) (t : TS) : Prop :=
  ∀ (pins : List (Addr × Obj)) (s : Shared) (σ : St) (H : Hp) (D : Ends), Inv X pins σ H s → t D σ H → wpAny (model X.prog X.w) X.A (execs st X.env) (SP X pins D) X.xe s
theorem thn {α : Type} {t : Sem α} {Q Q' : α → Shared → Prop} {M : Model} {A : Around} {E : Value → Shared → Prop} {s : Shared} (h : wpAny M A t Q E s) (hQ : ∀ a s, Q a s → Q' a s) : wpAny M A t Q' E s := wpAny_mono h hQ fun _ _ x => x
end L2

namespace L2
open PySem PySem.Spec PyProof.Rows
section
variable {X : Cx}
theorem bin {a b : Expr} {ta tb : TE} (ha : PE X a ta) (hb : PE X b tb) {pins : List (Addr × Obj)} {s : Shared} {σ : St} {H : Hp} {R : V → V → Hp → Prop} (I : Inv X pins σ H s) (h : ta σ H fun x H1 => tb σ H1 fun y H2 => R x y H2)
    {α : Type} {Q : α → Shared → Prop} {f : Value → Value → Sem α}
    (hf : ∀ v u s2 x y H2, Inv X pins σ H2 s2 → RelV x v → RelV y u → R x y H2 → wpAny (model X.prog X.w) X.A (f v u) Q X.xe s2) :
    wpAny (model X.prog X.w) X.A (eval a X.env) (fun v s₁ => wpAny (model X.prog X.w) X.A (eval b X.env) (fun u s₂ => wpAny (model X.prog X.w) X.A (f v u) Q X.xe s₂) X.xe s₁) X.xe s := by
  refine thn (ha pins s σ H _ I h) fun v s1 ⟨x, H1, I1, r1, q1⟩ => ?_
  refine thn (hb pins s1 σ H1 _ I1 q1) fun u s2 ⟨y, H2, I2, r2, q2⟩ => ?_
  exact hf v u s2 x y H2 I2 r1 r2 q2

noncomputable def tVar (i : Nat) : TE := fun σ H Q => Ex1_2 (fun v => σ[i]? = some (some v)) (fun v => Q v H)
noncomputable def tC (v : V) : TE := fun _ H Q => Q v H
theorem pe_var {i : Nat} {x : Str} {pos : Pos} (hN : X.N[i]? = some x) (hv : Vis X.env.scope x) (hd : (x == ("__debug__" : Str)) = false := by decide) (hcd : (x == ("__classdict__" : Str)) = false := by decide) : PE X (.Name x pos) (tVar i) := by
  intro pins s σ H Q I h
  obtain ⟨v, e, h⟩ := h
  obtain ⟨m, hn, hl⟩ := I.loc
  obtain ⟨u, r, l⟩ := hl i x v hN e hv
  have fin : EP X pins σ Q u s := ⟨v, H, I, r, h⟩
  rcases l with ⟨hk, hm⟩ | ⟨hk, c, hc, hcell⟩
  · exact wpAny_Name (wpAny_loadName_local I.ok.kind hk hn hm fin) hd
  · rcases hk with hk | hk
    · exact wpAny_Name (wpAny_loadName_cell I.ok.kind hk hc hcell fin) hd
    · exact wpAny_Name (wpAny_loadName_free I.ok.kind hk hc hcell fin hcd) hd
theorem pe_int {i j pos} : PE X (.Constant (.int i) j pos) (tC (.int i)) := fun _ _ _ H _ I h => wpAny_Constant_int ⟨.int i, H, I.tok _, ⟨_, rfl⟩, h⟩
theorem pe_bl {b j pos} : PE X (.Constant (.bool b) j pos) (tC (.bl b)) := fun _ _ _ H _ I h => Constant_bool ⟨.bl b, H, I, rfl, h⟩
theorem pe_non {j pos} : PE X (.Constant .none j pos) (tC .non) := fun _ _ _ H _ I h => Constant_none ⟨.non, H, I, rfl, h⟩
theorem pe_str {x j pos} : PE X (.Constant (.str x) j pos) (tC (.str x)) := fun _ _ _ H _ I h => Calls.Constant_str ⟨.str x, H, I.tok _, ⟨_, rfl⟩, h⟩
noncomputable def Gl (X : Cx) (x : Str) : Prop := X.env.kindOf x = some .globalImplicit
theorem ld_glob {E : Value → Shared → Prop} {pins : List (Addr × Obj)} {s : Shared} {σ : St} {H : Hp} {x : Str} {u : Value} {pos : Pos} {Q : Value → Shared → Prop} (I : Inv X pins σ H s) (hg : Gl X x) (hm : X.mg x = some u) (h : Q u s)
    (hd : (x == ("__debug__" : Str)) = false := by decide) : wpAny (model X.prog X.w) X.A (eval (.Name x pos) X.env) Q E s :=
  Calls.Name_function_global I.ok.kind hg (Calls.loadGlobal_global (by rw [I.ok.glob]; exact I.mod.glob.keeps I.bk) hm h) hd
theorem ld_blt {E : Value → Shared → Prop} {pins : List (Addr × Obj)} {s : Shared} {σ : St} {H : Hp} {x : Str} {u : Value} {pos : Pos} {Q : Value → Shared → Prop} (I : Inv X pins σ H s) (hg : Gl X x) (hm : X.mg x = none) (hv : bootBuiltins x = some u) (h : Q u s)
    (hn : x ≠ "__name__" := by decide) (hd : (x == ("__debug__" : Str)) = false := by decide) : wpAny (model X.prog X.w) X.A (eval (.Name x pos) X.env) Q E s := by
  obtain ⟨mb, h1, h2⟩ := I.mod.blt
  exact Calls.Name_function_global I.ok.kind hg (Calls.loadGlobal_builtin (by rw [I.ok.glob]; exact I.mod.glob.keeps I.bk) hm (by rw [I.ok.blt]; exact h1.keeps I.bk) ((h2 x hn).trans hv) h) hd
theorem pe_glob {x : Str} {v : V} {u : Value} {pos : Pos} (hg : Gl X x) (hm : X.mg x = some u) (r : RelV v u) (hd : (x == ("__debug__" : Str)) = false := by decide) : PE X (.Name x pos) (tC v) :=
  fun _ _ _ H _ I h => ld_glob I hg hm ⟨v, H, I, r, h⟩ hd
theorem pe_bltn {x : Str} {v : V} {u : Value} {pos : Pos} (hg : Gl X x) (hm : X.mg x = none) (hv : bootBuiltins x = some u) (r : RelV v u) (hn : x ≠ "__name__" := by decide) (hd : (x == ("__debug__" : Str)) = false := by decide) : PE X (.Name x pos) (tC v) :=
  fun _ _ _ H _ I h => ld_blt I hg hm hv ⟨v, H, I, r, h⟩ hn hd

variable {a b : Expr} {ta tb : TE} {pos : Pos}
noncomputable def PC (X : Cx) (op : CmpOp) (a b : Expr) (t : TE) : Prop :=
  ∀ (pins : List (Addr × Obj)) (s : Shared) (σ : St) (H : Hp) (Q : VK), Inv X pins σ H s → t σ H Q →
    wpAny (model X.prog X.w) X.A (eval a X.env) (fun v s₁ => wpAny (model X.prog X.w) X.A (eval b X.env) (fun u s₂ => wpAny (model X.prog X.w) X.A (compareOp op v u) (EP X pins σ Q) X.xe s₂) X.xe s₁) X.xe s
theorem nobehind (b : Expr) {op : CmpOp} (h : op ≠ .In) (h2 : op ≠ .NotIn) : behindInMarks op b = false := by
  have e1 : (op == CmpOp.In) = false := by cases op <;> first | rfl | exact absurd rfl h
  have e2 : (op == CmpOp.NotIn) = false := by cases op <;> first | rfl | exact absurd rfl h2
  cases b <;> simp [behindInMarks, e1, e2]
noncomputable def tIsN (ta : TE) : TE := fun σ H Q => ta σ H fun x H1 => Q (.bl (decide (x = .non))) H1
theorem RelV.none_iff {x : V} {v : Value} (r : RelV x v) : (v == Value.none) = decide (x = .non) := by
  cases x with
  | non => cases r; rfl
  | bl _ => cases r; rfl
  | int _ => obtain ⟨t, rfl⟩ := r; rfl
  | str _ => obtain ⟨t, rfl⟩ := r; rfl
  | byt _ => obtain ⟨t, rfl⟩ := r; rfl
  | flt _ => obtain ⟨t, rfl⟩ := r; rfl
  | ref _ => cases r; rfl
  | ty _ => cases r; rfl
theorem pc_isN {j pos'} (ha : PE X a ta) : PC X .Is a (.Constant .none j pos') (tIsN ta) := by
  intro pins s σ H Q I h
  refine thn (ha pins s σ H _ I h) fun v s1 ⟨x, H1, I1, r1, q1⟩ => ?_
  exact Constant_none (is_none_gen ⟨.bl _, H1, I1, by rw [r1.none_iff]; rfl, q1⟩)
noncomputable def tB (t : TE) : TT := fun σ H Q => t σ H fun x H1 => Ex1_2 (fun c => x = .bl c) (fun c => Q c H1)
theorem pe_cmp {op : CmpOp} {t : TE} (h : PC X op a b t) (h1 : behindInMarks op b = false := by first | exact nobehind _ (by decide) (by decide) | rfl) : PE X (.Compare a [op] [b] pos) t := fun pins s σ H Q I hw => wpAny_Compare1 (h pins s σ H Q I hw) h1
theorem pt_cmp {op : CmpOp} {t : TE} (h : PC X op a b t) (h1 : behindInMarks op b = false := by first | exact nobehind _ (by decide) (by decide) | rfl) : PT X (.Compare a [op] [b] pos) (tB t) := by
  intro pins s σ H Q I hw
  refine wpAny_isTrue_Compare1 (thn (h pins s σ H _ I hw) fun v s1 h1 => thn h1 fun u s2 h2 => thn h2 fun c s3 ⟨x, H1, I1, r1, q1⟩ => ?_) h1
  obtain ⟨d, rfl, q⟩ := q1
  cases r1
  exact wpAny_truthy_bool ⟨H1, I1, q⟩
theorem pt_val {e : Expr} {t : TE} (h : PE X e t) (he : ∀ whole, isTrue e X.env whole = (do let v ← whole; standAt e.pos; holding [v] (truthy v)) := by intro _; rfl) : PT X e (tB t) := by
  intro pins s σ H Q I hw
  refine isTrue_plain (thn (h pins s σ H _ I hw) fun v s1 ⟨x, H1, I1, r1, q1⟩ => ?_) (he _)
  obtain ⟨d, rfl, q⟩ := q1
  cases r1
  exact wpAny_truthy_bool ⟨H1, I1, q⟩

variable {tA tB' : TT} {rest : List Expr}
noncomputable def tAnd (t u : TT) : TT := fun σ H Q => t σ H fun c H1 => if c = true then u σ H1 Q else Q false H1
noncomputable def tOr (t u : TT) : TT := fun σ H Q => t σ H fun c H1 => if c = true then Q true H1 else u σ H1 Q
noncomputable def tNot (t : TT) : TT := fun σ H Q => t σ H fun c H1 => Q (!c) H1
theorem pw_and1 (ha : PT X a tA) : PW X (.BoolOp .And [a] pos) tA := by
  intro wh pins s σ H Q I h
  refine isTrue_and (thn (ha pins s σ H Q I h) fun c s1 e => ?_)
  cases c with
  | true => exact isTrue_and_nil e
  | false => exact e
theorem pw_or1 (ha : PT X a tA) : PW X (.BoolOp .Or [a] pos) tA := by
  intro wh pins s σ H Q I h
  refine isTrue_or (thn (ha pins s σ H Q I h) fun c s1 e => ?_)
  cases c with
  | false => exact isTrue_or_nil e
  | true => exact e
theorem pw_and (ha : PT X a tA) (hb : PW X (.BoolOp .And (b :: rest) pos) tB') : PW X (.BoolOp .And (a :: b :: rest) pos) (tAnd tA tB') := by
  intro wh pins s σ H Q I h
  refine isTrue_and (thn (ha pins s σ H _ I h) fun c s1 ⟨H1, I1, q1⟩ => ?_)
  cases c with
  | true => exact hb wh pins s1 σ H1 Q I1 q1
  | false => exact ⟨H1, I1, q1⟩
theorem pw_or (ha : PT X a tA) (hb : PW X (.BoolOp .Or (b :: rest) pos) tB') : PW X (.BoolOp .Or (a :: b :: rest) pos) (tOr tA tB') := by
  intro wh pins s σ H Q I h
  refine isTrue_or (thn (ha pins s σ H _ I h) fun c s1 ⟨H1, I1, q1⟩ => ?_)
  cases c with
  | true => exact ⟨H1, I1, q1⟩
  | false => exact hb wh pins s1 σ H1 Q I1 q1
theorem pt_not (ha : PT X a tA) : PT X (.UnaryOp .Not a pos) (tNot tA) := by
  intro pins s σ H Q I h
  exact isTrue_not (ha pins s σ H (fun c H1 => Q (!c) H1) I h)
noncomputable def tAndV (ta tb : TE) : TE := fun σ H Q => ta σ H fun x H1 => Ex1_2 (fun c => x = .bl c) (fun c => if c = true then tb σ H1 Q else Q (.bl false) H1)
noncomputable def tOrV (ta tb : TE) : TE := fun σ H Q => ta σ H fun x H1 => Ex1_2 (fun c => x = .bl c) (fun c => if c = true then Q (.bl true) H1 else tb σ H1 Q)
theorem pe_one {op} {t : TE} (h : PE X a t) : PE X (.BoolOp op [a] pos) t := fun pins s σ H Q I hw => BoolOp_one (h pins s σ H Q I hw)
theorem pe_and (ha : PE X a ta) (hb : PE X (.BoolOp .And (b :: rest) pos) tb) : PE X (.BoolOp .And (a :: b :: rest) pos) (tAndV ta tb) := by
  intro pins s σ H Q I h
  refine BoolOp_and (thn (ha pins s σ H _ I h) fun v s1 ⟨x, H1, I1, r1, q1⟩ => ?_)
  obtain ⟨c, rfl, q1⟩ := q1
  cases r1
  refine wpAny_truthy_bool ?_
  cases c with
  | true => exact hb pins s1 σ H1 Q I1 q1
  | false => exact ⟨.bl false, H1, I1, rfl, q1⟩
theorem pe_or (ha : PE X a ta) (hb : PE X (.BoolOp .Or (b :: rest) pos) tb) : PE X (.BoolOp .Or (a :: b :: rest) pos) (tOrV ta tb) := by
  intro pins s σ H Q I h
  refine BoolOp_or (thn (ha pins s σ H _ I h) fun v s1 ⟨x, H1, I1, r1, q1⟩ => ?_)
  obtain ⟨c, rfl, q1⟩ := q1
  cases r1
  refine wpAny_truthy_bool ?_
  cases c with
  | false => exact hb pins s1 σ H1 Q I1 q1
  | true => exact ⟨.bl true, H1, I1, rfl, q1⟩
noncomputable def tIf (t : TT) (ta tb : TE) : TE := fun σ H Q => t σ H fun c H1 => if c = true then ta σ H1 Q else tb σ H1 Q
theorem pe_ifExp {c : Expr} (hc : PT X c tA) (ha : PE X a ta) (hb : PE X b tb) : PE X (.IfExp c a b pos) (tIf tA ta tb) := by
  intro pins s σ H Q I h
  refine wpAny_IfExp (thn (hc pins s σ H _ I h) fun d s1 ⟨H1, I1, q1⟩ => ?_)
  cases d with
  | true => exact ha pins s1 σ H1 Q I1 q1
  | false => exact hb pins s1 σ H1 Q I1 q1
end
end L2

namespace L2
open PySem PySem.Spec PyProof.Rows

noncomputable def SqL (K : PySem.W.Frag) (H : Hp) (a : Addr) (xs : List V) : Prop :=
  Rd H a (.lst xs) ∨
    ∃ (o : Obj) (its : Array Value) (n : Nat), K.lookup a = some o ∧ o.cls = .type "list" ∧ o.dict = none ∧ o.data = .seq its n ∧ its.size ≤ sizeLine ∧ Vals xs its.toList
noncomputable def SqT (K : PySem.W.Frag) (H : Hp) (a : Addr) (xs : List V) : Prop :=
  Rd H a (.tup xs) ∨
    ∃ (o : Obj) (its : Array Value) (n : Nat), K.lookup a = some o ∧ o.cls = .type "tuple" ∧ o.data = .seq its n ∧ its.size ≤ sizeLine ∧ Vals xs its.toList
noncomputable def absV : Value → Option V
  | .none => some .non
  | .bool b => some (.bl b)
  | .int i _ => some (.int i)
  | .str x _ => some (.str x)
  | .bytes b _ => some (.byt b)
  | .float b _ => some (.flt b)
  | .ref a => some (.ref a)
  | .type n => some (.ty n)
  | _ => none
theorem RelV.abs {x : V} {u : Value} (r : RelV x u) : absV u = some x := by
  cases x with
  | non => cases r; rfl
  | bl _ => cases r; rfl
  | int _ => obtain ⟨t, rfl⟩ := r; rfl
  | str _ => obtain ⟨t, rfl⟩ := r; rfl
  | byt _ => obtain ⟨t, rfl⟩ := r; rfl
  | flt _ => obtain ⟨t, rfl⟩ := r; rfl
  | ref _ => cases r; rfl
  | ty _ => cases r; rfl
theorem RelV.inj {x y : V} {u : Value} (r : RelV x u) (q : RelV y u) : x = y := Option.some.inj (r.abs.symm.trans q.abs)
theorem Vals.inj : ∀ {xs ys : List V} {us : List Value}, Vals xs us → Vals ys us → xs = ys
  | _, _, _, .nil, .nil => rfl
  | _, _, _, .cons r t, .cons r' t' => by rw [r.inj r', Vals.inj t t']
section
variable {X : Cx} {pins : List (Addr × Obj)} {σ : St} {H : Hp} {s : Shared} {a : Addr} {xs ys : List V}
theorem SqL.of {K : PySem.W.Frag} (h : H a = some (.lst xs)) : SqL K H a xs := .inl (.inl h)
theorem SqT.of {K : PySem.W.Frag} (h : H a = some (.tup xs)) : SqT K H a xs := .inl (.inl h)
theorem Inv.list (I : Inv X pins σ H s) (h : SqL X.K H a xs) : ∃ its : List Value, Vals xs its ∧ PlainL s.heap a its.toArray ∧ xs.length ≤ sizeLine := by
  rcases h with h | ⟨o, its, n, hk, hc, hd, hs, hz, r⟩
  · obtain ⟨z, its, n, r, e⟩ := h.ok I.hok
    exact ⟨its, r, ⟨_, n, e, rfl, rfl, rfl⟩, z⟩
  · refine ⟨its.toList, r, ⟨o, n, I.kIn a o hk, hc, hd, by simpa using hs⟩, ?_⟩
    have e := r.length
    simp only [Array.length_toList] at e
    omega
theorem Inv.tuple (I : Inv X pins σ H s) (h : SqT X.K H a xs) : ∃ its : List Value, Vals xs its ∧ IsTup s.heap a its.toArray ∧ xs.length ≤ sizeLine := by
  rcases h with h | ⟨o, its, n, hk, hc, hs, hz, r⟩
  · obtain ⟨z, its, r, p⟩ := h.ok I.hok
    exact ⟨its, r, p, z⟩
  · refine ⟨its.toList, r, ⟨o, I.kIn a o hk, hc, n, by simpa using hs⟩, ?_⟩
    have e := r.length
    simp only [Array.length_toList] at e
    omega
theorem Inv.list_inj (I : Inv X pins σ H s) (h : SqL X.K H a xs) (h' : SqL X.K H a ys) : xs = ys := by
  obtain ⟨its, r, ⟨o, n, e, _, _, d⟩, _⟩ := I.list h
  obtain ⟨its', r', ⟨o', n', e', _, _, d'⟩, _⟩ := I.list h'
  rw [e] at e'; cases e'
  rw [d] at d'
  injection d' with d1 _
  have : its = its' := by simpa using congrArg Array.toList d1
  subst this
  exact r.inj r'
end

noncomputable abbrev Cx.wish (X : Cx) (E : Value → Shared → Prop) : Cx := { X with xe := E }
noncomputable abbrev Cx.nox (X : Cx) : Cx := X.wish fun _ _ => False
theorem Cx.Ok.wish {X : Cx} (ok : X.Ok) (E : Value → Shared → Prop) : (X.wish E).Ok :=
  ⟨ok.mod, ok.kind, ok.glob, ok.blt, ok.above, ok.inj, ok.has, ok.cab, ok.hd, ok.frames, ok.stk, ok.exf, ok.bs, ok.bsz, ok.noex, ok.exfs, ok.funs, ok.frf⟩
theorem Cx.Ok.unwish {X : Cx} {E : Value → Shared → Prop} (ok : (X.wish E).Ok) : X.Ok :=
  ⟨ok.mod, ok.kind, ok.glob, ok.blt, ok.above, ok.inj, ok.has, ok.cab, ok.hd, ok.frames, ok.stk, ok.exf, ok.bs, ok.bsz, ok.noex, ok.exfs, ok.funs, ok.frf⟩
section
variable {X : Cx} {pins : List (Addr × Obj)} {σ : St} {H : Hp} {s : Shared} {E : Value → Shared → Prop}
theorem Inv.wish (I : Inv X pins σ H s) (E : Value → Shared → Prop) : Inv (X.wish E) pins σ H s := ⟨I.ok.wish E, I.os, I.bare, I.base, I.loc, I.cell, I.free, I.freeC, I.pin, I.hok, I.len⟩
theorem Inv.unwish (I : Inv (X.wish E) pins σ H s) : Inv X pins σ H s := ⟨I.ok.unwish, I.os, I.bare, I.base, I.loc, I.cell, I.free, I.freeC, I.pin, I.hok, I.len⟩
theorem SP.unwish {D : Ends} {f : Flow} {s' : Shared} (h : SP (X.wish E) pins D f s') : SP X pins D f s' := by
  cases f with
  | next => obtain ⟨σ', H', I, q⟩ := h; exact ⟨σ', H', I.unwish, q⟩
  | brk => obtain ⟨σ', H', I, q⟩ := h; exact ⟨σ', H', I.unwish, q⟩
  | cont => obtain ⟨σ', H', I, q⟩ := h; exact ⟨σ', H', I.unwish, q⟩
  | ret u => obtain ⟨v, σ', H', I, r, q⟩ := h; exact ⟨v, σ', H', I.unwish, r, q⟩
theorem PSs.nox {st : List Stmt} {t : TS} (h : PSs X.nox st t) : PSs X st t := fun pins s σ H D I hw =>
  wpAny_mono (h pins s σ H D (I.wish _) hw) (fun _ _ q => q.unwish) fun _ _ z => False.elim z
end

section
variable {X : Cx} {st : Stmt} {rest : List Stmt} {t u : TS} {e : Expr} {te : TE} {pos : Pos}
noncomputable def tNext : TS := fun D σ H => D.nx σ H
noncomputable def tSeq (t u : TS) : TS := fun D σ H => t { D with nx := u D } σ H
theorem pss_nil : PSs X [] tNext := fun _ _ σ H _ I h => wpAny_execs_nil ⟨σ, H, I, h⟩
theorem pss_cons (h1 : PS X st t) (h2 : PSs X rest u) : PSs X (st :: rest) (tSeq t u) := by
  intro pins s σ H D I h
  refine wpAny_execs_cons (thn (h1 pins s σ H { D with nx := u D } I h) fun f s1 q => ?_)
  cases f with
  | next =>
    obtain ⟨σ', H', I', q⟩ := q
    exact h2 pins s1 σ' H' D I' q
  | ret v => exact q
  | brk => exact q
  | cont => exact q
theorem pss_one (h1 : PS X st t) : PSs X [st] t := by
  intro pins s σ H D I h
  refine wpAny_execs_cons (thn (h1 pins s σ H D I h) fun f s1 q => ?_)
  cases f with
  | next => exact wpAny_execs_nil q
  | ret v => exact q
  | brk => exact q
  | cont => exact q
theorem Inv.quiet {pins : List (Addr × Obj)} {σ : St} {H : Hp} {s : Shared} (I : Inv X pins σ H s) : interactive X.env = false := by simp [interactive, I.ok.kind]
noncomputable def tDrop (te : TE) : TS := fun D σ H => te σ H fun _ H1 => D.nx σ H1
theorem ps_expr (he : PE X e te) (hs : swapsWith e none pos.line X.env = pure false := by rfl) : PS X (.Expr e pos) (tDrop te) := by
  intro pins s σ H D I h
  exact wpAny_Expr_any (thn (he pins s σ H _ I h) fun v s1 ⟨x, H1, I1, r1, q1⟩ => ⟨σ, H1, I1, q1⟩) I.quiet hs
noncomputable def tRet (te : TE) : TS := fun D σ H => te σ H D.rt
theorem ps_ret (he : PE X e te) : PS X (.Return (some e) pos) (tRet te) := by
  intro pins s σ H D I h
  exact wpAny_Return_some (thn (he pins s σ H _ I h) fun v s1 ⟨x, H1, I1, r1, q1⟩ => ⟨x, σ, H1, I1, r1, q1⟩)
noncomputable def tIfS (c : TT) (t u : TS) : TS := fun D σ H => c σ H fun b H1 => if b = true then t D σ H1 else u D σ H1
theorem ps_if {c : Expr} {a b : List Stmt} {tc : TT} (hc : PT X c tc) (ha : PSs X a t) (hb : PSs X b u) : PS X (.If c a b pos) (tIfS tc t u) := by
  intro pins s σ H D I h
  refine wpAny_If (thn (hc pins s σ H _ I h) fun d s1 ⟨H1, I1, q1⟩ => ?_)
  cases d with
  | true => exact ha pins s1 σ H1 D I1 q1
  | false => exact hb pins s1 σ H1 D I1 q1
noncomputable def tNever : TS := fun _ _ _ => False
theorem ps_never : PS X st tNever := fun _ _ _ _ _ _ h => h.elim
end

noncomputable abbrev TG := V → St → Hp → (St → Hp → Prop) → Prop
noncomputable abbrev TGs := List V → St → Hp → (St → Hp → Prop) → Prop
noncomputable def PG (X : Cx) (target : Expr) (t : TG) : Prop :=
  ∀ (pins : List (Addr × Obj)) (s : Shared) (σ : St) (H : Hp) (v : V) (u : Value) (Q : St → Hp → Prop), Inv X pins σ H s → RelV v u → t v σ H Q →
    wpAny (model X.prog X.w) X.A (assign target X.env u) (fun _ s' => ∃ σ' H', Inv X pins σ' H' s' ∧ Q σ' H') X.xe s
noncomputable def PGs (X : Cx) (ts : List Expr) (t : TGs) : Prop :=
  ∀ (pins : List (Addr × Obj)) (s : Shared) (σ : St) (H : Hp) (vs : List V) (us : List Value) (Q : St → Hp → Prop), Inv X pins σ H s → Vals vs us → t vs σ H Q →
    wpAny (model X.prog X.w) X.A (assignInOrder ((assignEach ts X.env).map (·.2)) us) (fun _ s' => ∃ σ' H', Inv X pins σ' H' s' ∧ Q σ' H') X.xe s
noncomputable abbrev TSet := V → V → V → Hp → (Hp → Prop) → Prop
noncomputable def PSet (X : Cx) (t : TSet) : Prop :=
  ∀ (pins : List (Addr × Obj)) (s : Shared) (σ : St) (H : Hp) (o i v : V) (ov iv u : Value) (Q : Hp → Prop), Inv X pins σ H s → RelV o ov → RelV i iv → RelV v u → t o i v H Q →
    wpAny (model X.prog X.w) X.A (setItem ov iv u) (fun _ s' => ∃ H', Inv X pins σ H' s' ∧ Q H') X.xe s
section
variable {X : Cx} {pos : Pos}
noncomputable def gName (i : Nat) : TG := fun v σ H Q => Q (σ.set i (some v)) H
theorem pg_name {i : Nat} {x : Str} (hN : X.N.Nodup) (hi : X.N[i]? = some x) (hx : Loc X.env.scope x) (hf : X.fn x = true ∨ X.env.scope.names.lookup x = some .local := by first | exact .inl rfl | exact .inr rfl | assumption) : PG X (.Name x pos) (gName i) := by
  intro pins s σ H v u Q I r h
  exact wpAny_assign_Name (store_ok I hN hi hx r (fun s' I' => ⟨_, H, I', h⟩) hf)
noncomputable def gNil : TGs := fun vs σ H Q => vs = [] ∧ Q σ H
noncomputable def gCons (t : TG) (u : TGs) : TGs := fun vs σ H Q => Ex2_2 (fun v r => vs = v :: r) (fun v r => t v σ H fun σ' H' => u r σ' H' Q)
theorem pgs_nil : PGs X [] gNil := by
  intro pins s σ H vs us Q I r h
  obtain ⟨e, h⟩ := h
  subst e
  cases r
  exact assignInOrder_nil ⟨σ, H, I, h⟩
theorem pgs_cons {e : Expr} {es : List Expr} {t : TG} {u : TGs} (h1 : PG X e t) (h2 : PGs X es u)
    (hs : (assignEach (e :: es) X.env).map (·.2) = assign e X.env :: (assignEach es X.env).map (·.2) := by rfl) : PGs X (e :: es) (gCons t u) := by
  intro pins s σ H vs us Q I r h
  obtain ⟨v, vr, e1, h⟩ := h
  subst e1
  cases r with
  | cons r rr =>
    rw [hs]
    refine assignInOrder_cons (thn (h1 pins s σ H _ _ _ I r h) fun _ s1 ⟨σ1, H1, I1, q1⟩ => ?_)
    exact h2 pins s1 σ1 H1 _ _ Q I1 rr q1
noncomputable def gTup (K : PySem.W.Frag) (n : Nat) (t : TGs) : TG := fun v σ H Q => Ex2_4 (fun a xs => v = .ref a) (fun a xs => SqT K H a xs) (fun a xs => xs.length = n) (fun a xs => t xs σ H Q)
theorem pg_tup {es : List Expr} {k : Nat} {t : TGs} {n : Nat} (hc : X.calm = true) (h : PGs X es t)
    (hn : (assignEach es X.env).length = n := by rfl) (hst : (assignEach es X.env).findIdx? (·.1) = none := by rfl) : PG X (.Tuple es k pos) (gTup X.K n t) := by
  intro pins s σ H v u Q I r hw
  obtain ⟨a, xs, e1, hq, hl, hw⟩ := hw
  subst e1
  cases r
  obtain ⟨its, rv, ht, hz⟩ := I.tuple hq
  refine assign_Tuple_tuple (I.ok.hd hc) ht (by simp [hn, ← hl, rv.length]) hst fun h' hx => ?_
  have I1 : Inv X pins σ H { s with heap := h' } := I.kept (t' := s.toks) fun b o e => hx b o (Nat.ne_of_lt (Heap.lt_size e)) e
  exact h pins _ σ H xs _ Q I1 (by simpa using rv) hw
noncomputable def gSub (to ti : TE) (t : TSet) : TG := fun v σ H Q => to σ H fun o H1 => ti σ H1 fun i H2 => t o i v H2 fun H3 => Q σ H3
theorem pg_sub {o i : Expr} {to ti : TE} {t : TSet} (ho : PE X o to) (hi : PE X i ti) (hs : PSet X t)
    (ha : ∀ v, assign (.Subscript o i pos) X.env v = (do
      let ov ← holding [v] (eval o X.env)
      let iv ← holding [v, ov] (eval i X.env)
      standAt pos
      holding [v, ov, iv] (setItem ov iv v)
      release [v, ov, iv] []) := by intro _; rfl) : PG X (.Subscript o i pos) (gSub to ti t) := by
  intro pins s σ H v u Q I r h
  rw [ha]
  refine wpAny_bind (wpAny_holding (thn (ho pins s σ H _ I h) fun ov s1 ⟨x, H1, I1, r1, q1⟩ => ?_))
  refine wpAny_bind (wpAny_holding (thn (hi pins s1 σ H1 _ I1 q1) fun iv s2 ⟨y, H2, I2, r2, q2⟩ => ?_))
  refine wpAny_bind (wpAny_standAt (wpAny_bind (wpAny_holding (thn (hs pins s2 σ H2 x y v ov iv u _ I2 r1 r2 r q2) fun _ s3 ⟨H3, I3, q3⟩ => ?_))))
  exact wpAny_release ⟨σ, H3, I3, q3⟩
noncomputable def tAsg (te : TE) (g : TG) : TS := fun D σ H => te σ H fun x H1 => g x σ H1 D.nx
theorem ps_asg {tg e : Expr} {te : TE} {g : TG} (he : PE X e te) (hg : PG X tg g) (hs : swapsWithSole [tg] e pos.line X.env = pure false := by rfl) (hw : swappedStores [tg] e X.env = pure none := by rfl)
    (h1 : (assignEach [tg] X.env).map (·.2) = [assign tg X.env] := by rfl) : PS X (.Assign [tg] e pos) (tAsg te g) := by
  intro pins s σ H D I h
  refine wpAny_Assign_stores (thn (he pins s σ H _ I h) fun v s1 ⟨x, H1, I1, r1, q1⟩ => ?_) hs hw
  rw [h1]
  exact thn (hg pins s1 σ H1 x v _ I1 r1 q1) fun _ s2 q => q
theorem ps_set {i : Nat} {x : Str} {e : Expr} {te : TE} {pos' : Pos} (hN : X.N.Nodup) (hi : X.N[i]? = some x) (hx : Loc X.env.scope x) (he : PE X e te) (hs : swapsWith e (some (.Name x pos')) pos.line X.env = pure false := by rfl) (hf : X.fn x = true ∨ X.env.scope.names.lookup x = some .local := by first | exact .inl rfl | exact .inr rfl | assumption) :
    PS X (.Assign [.Name x pos'] e pos) (tAsg te (gName i)) := by
  intro pins s σ H D I h
  refine wpAny_Assign_Name (thn (he pins s σ H _ I h) fun v s1 ⟨y, H1, I1, r1, q1⟩ => ?_) hs
  exact store_ok I1 hN hi hx r1 (fun s2 I2 => ⟨_, H1, I2, q1⟩) hf
end

section
variable {X : Cx} {pos : Pos}
noncomputable def tWhile (c : TT) (tb : TS) : TS := fun D σ H => ∃ W : Nat → St → Hp → Prop, (∃ m, W m σ H) ∧ ∀ m σ H, W m σ H →
  c σ H fun b H1 => if b = true then ∃ N : St → Hp → Prop, (∀ σ' H', N σ' H' → ∃ m', m' < m ∧ W m' σ' H') ∧ tb { D with nx := N, ct := N, bk := D.nx } σ H1 else D.nx σ H1
theorem ps_while {c : Expr} {body : List Stmt} {tc : TT} {tb : TS} (hp : PassesOwn (model X.prog X.w) X.A X.env X.xe) (hc : PT X c tc) (hb : PSs X body tb) : PS X (.While c body [] pos) (tWhile tc tb) := by
  intro pins s σ H D I h
  obtain ⟨W, ⟨m0, w0⟩, turn⟩ := h
  refine wpAny_While (codeAny_whileLoop (fun n s' => ∃ σ' H', Inv X pins σ' H' s' ∧ W n σ' H') ?_ m0 ⟨σ, H, I, w0⟩)
  rintro n s1 ⟨σ1, H1, I1, w1⟩
  refine wpAny_passesOwn hp (thn (hc pins s1 σ1 H1 _ I1 (turn n σ1 H1 w1)) fun b s2 ⟨H2, I2, q2⟩ => ?_)
  cases b with
  | true =>
    obtain ⟨N, hN, q2⟩ := q2
    rw [if_pos rfl]
    refine wpAny_passesOwn hp (thn (hb pins s2 σ1 H2 _ I2 q2) fun f s3 q3 => ?_)
    cases f with
    | next =>
      obtain ⟨σ3, H3, I3, n3⟩ := q3
      obtain ⟨m', hm, w3⟩ := hN σ3 H3 n3
      exact ⟨m', hm, σ3, H3, I3, w3⟩
    | cont =>
      obtain ⟨σ3, H3, I3, n3⟩ := q3
      obtain ⟨m', hm, w3⟩ := hN σ3 H3 n3
      exact ⟨m', hm, σ3, H3, I3, w3⟩
    | brk => exact q3
    | ret v => exact q3
  | false =>
    rw [if_neg Bool.false_ne_true]
    exact wpAny_execs_nil ⟨σ1, H2, I2, q2⟩
end

structure It where
  go : Nat → Hp → Prop
  yld : Nat → Hp → V → Hp → Prop
  stop : Nat → Hp → Prop
noncomputable def FpOk (X : Cx) (pins : List (Addr × Obj)) (H : Hp) (b : Addr) : Prop :=
  H b = none ∧ b ≠ X.env.locals ∧ b ∉ X.fs ∧ (b ∈ X.ex ∨ X.s₀.heap.objs.size ≤ b) ∧ (∀ x c, X.env.cells.lookup x = some c → c ≠ b) ∧ ∀ p ∈ X.pn ++ pins, p.1 ≠ b
theorem Inv.fpOk {X : Cx} {pins : List (Addr × Obj)} {σ : St} {H H' : Hp} {s : Shared} {b : Addr} (I : Inv X pins σ H s) (hb : s.heap.objs.size ≤ b) (hn : H' b = none) : FpOk X pins H' b := by
  refine ⟨hn, Nat.ne_of_gt (Nat.lt_of_lt_of_le I.lt hb), I.nofs hb, .inr (Nat.le_trans I.sz hb), fun x c e z => ?_, fun p hp z => ?_⟩
  · obtain ⟨v, q⟩ := I.cell x c e
    exact absurd (Nat.lt_of_lt_of_le q.lt (by rw [z]; exact hb)) (Nat.lt_irrefl _)
  · exact absurd (Nat.lt_of_lt_of_le (Heap.lt_size (I.pin p hp).1) (by rw [z]; exact hb)) (Nat.lt_irrefl _)
structure Turn (P : Program) (w : World) (K : PySem.W.Frag) (tg : Expr) (J : It) (fp : List Addr) (it : Addr) (tn : Nat → Heap → Prop) : Prop where
  mem : it ∈ fp
  obj : ∀ i h, tn i h → ∀ b ∈ fp, ∃ o, h.get? b = some o ∧ ∀ v, o.data ≠ .cell v
  keep : ∀ i h h', tn i h → (∀ b ∈ fp, ∀ o, h.get? b = some o → h'.get? b = some o) → tn i h'
  item : ∀ (X : Cx), X.prog = P → X.w = w → X.K = K → X.calm = true → ∀ (i : Nat) (pins : List (Addr × Obj)) (s : Shared) (σ : St) (H : Hp) (E : Value → Shared → Prop), Inv X pins σ H s → (∀ b ∈ fp, FpOk X pins H b) → tn i s.heap → J.go i H →
    wpAny (model P w) X.A (pyNext (.ref it)) (fun r s1 => ∃ u, r = some u ∧
      wpAny (model P w) X.A (letOwnedTupleGo tg (.ref it) u) (fun _ s2 => ∃ x H', Inv X pins σ H' s2 ∧ RelV x u ∧ J.yld i H x H' ∧ tn (i + 1) s2.heap ∧ ∀ b ∈ fp, H' b = none) E s1) E s
  done : ∀ (X : Cx), X.prog = P → X.w = w → X.K = K → X.calm = true → ∀ (i : Nat) (pins : List (Addr × Obj)) (s : Shared) (σ : St) (H : Hp) (E : Value → Shared → Prop), Inv X pins σ H s → (∀ b ∈ fp, FpOk X pins H b) → tn i s.heap → J.stop i H →
    wpAny (model P w) X.A (pyNext (.ref it)) (fun r s1 => r = none ∧ Inv X pins σ H s1) E s
  self : ∀ (A : Around) (i : Nat) (s : Shared) (Q : Value → Shared → Prop) (E : Value → Shared → Prop), tn i s.heap → Q (.ref it) s → wpAny (model P w) A (pyIter (.ref it)) Q E s
noncomputable abbrev TI := St → Hp → (It → Hp → Prop) → Prop
noncomputable def PIE (X : Cx) (pins : List (Addr × Obj)) (σ : St) (tg : Expr) (R : It → Hp → Prop) (itv : Value) (s2 : Shared) : Prop :=
  ∃ (it : Addr) (fp : List Addr) (tn : Nat → Heap → Prop) (J : It) (H' : Hp), itv = .ref it ∧ Inv X pins σ H' s2 ∧ Turn X.prog X.w X.K tg J fp it tn ∧ tn 0 s2.heap ∧ (∀ b ∈ fp, FpOk X pins H' b) ∧ R J H'
noncomputable def PI (X : Cx) (tg iter : Expr) (wi : TI) : Prop :=
  ∀ (pins : List (Addr × Obj)) (s : Shared) (σ : St) (H : Hp) (R : It → Hp → Prop), Inv X pins σ H s → wi σ H R →
    wpAny (model X.prog X.w) X.A (eval iter X.env) (fun v s1 => wpAny (model X.prog X.w) X.A (pyIter v) (PIE X pins σ tg R) X.xe s1) X.xe s
theorem go_of {M : Model} {A : Around} {E : Value → Shared → Prop} {s : Shared} {tg : Expr} {it : Addr} {u : Value} {o : Obj} {n : String} {vs : Array Value} {Q : Unit → Shared → Prop} (ho : s.heap.get? it = some o) (hc : o.cls = .type n) (hd : o.data = .fields vs)
    (hn : ["enumerate", "zip", "dict_itemiterator", "dict_reverseitemiterator", "odict_iterator", "itertools.zip_longest", "itertools.pairwise"].contains n = false) (hQ : Q () s) : wpAny M A (letOwnedTupleGo tg (.ref it) u) Q E s := by
  unfold letOwnedTupleGo
  cases tg <;> first
    | exact wpAny_pure hQ
    | (cases u <;> first
        | exact wpAny_pure hQ
        | (refine wpAny_bind (wpAny_load ho ?_)
           rw [hc, hd]
           show wpAny M A (if (["enumerate", "zip", "dict_itemiterator", "dict_reverseitemiterator", "odict_iterator", "itertools.zip_longest", "itertools.pairwise"].contains n && vs[0]? == some (rawInt _)) = true then _ else _) Q E s
           rw [if_neg (by intro h; rw [hn, Bool.false_and] at h; cases h)]
           exact wpAny_pure hQ))
noncomputable def Itl (K : PySem.W.Frag) (a : Addr) : It :=
  ⟨fun i H => ∃ xs x, SqL K H a xs ∧ xs[i]? = some x, fun i H x H' => H' = H ∧ ∀ xs, SqL K H a xs → xs[i]? = some x, fun i H => ∃ xs, SqL K H a xs ∧ xs.length ≤ i⟩
noncomputable def Itr (lo : Int) (n : Nat) : It := ⟨fun i _ => i < n, fun i H x H' => H' = H ∧ x = .int (lo + i), fun i _ => n ≤ i⟩
theorem turn_list {P : Program} {w : World} {K : PySem.W.Frag} {tg : Expr} (a it : Addr) : Turn P w K tg (Itl K a) [it] it (fun i h => h.IsListIter it a i) where
  mem := by simp
  obj := fun i h st b hb => by
    have e : b = it := by simpa using hb
    subst e
    obtain ⟨o, e, c, d⟩ := st
    exact ⟨o, e, fun v z => by rw [d] at z; cases z⟩
  keep := fun i h h' st k => st.at fun o e => k it (by simp) o e
  item := by
    intro X hP hw hK hc i pins s σ H E I hf st hg
    subst hP hw hK
    obtain ⟨xs, x, hq, hx⟩ := hg
    obtain ⟨its, rv, p, hz⟩ := I.list hq
    obtain ⟨u, hu, ru⟩ := rv.get hx
    obtain ⟨f0, f1, f2, f3, f4, f5⟩ := hf it (by simp)
    refine wpAny_pyNext_list_item st p.isList (x := u) (by simpa using hu) fun h' st' sb => ?_
    have I1 : Inv X pins σ H { s with heap := h' } := I.turned (t' := s.toks) (fun b o hb e => (sb.2 b hb).trans e) f0 f1 f3 f4 f5
    obtain ⟨o, e, c, d⟩ := id st'
    exact ⟨u, rfl, go_of (s := { s with heap := h' }) e c d (by decide) ⟨x, H, I1, ru, ⟨rfl, fun ys hy => by rw [I.list_inj hy hq]; exact hx⟩, st', fun b hb => (hf b hb).1⟩⟩
  done := by
    intro X hP hw hK hc i pins s σ H E I hf st hg
    subst hP hw hK
    obtain ⟨xs, hq, hx⟩ := hg
    obtain ⟨its, rv, p, hz⟩ := I.list hq
    obtain ⟨f0, f1, f2, f3, f4, f5⟩ := hf it (by simp)
    have hl := rv.length
    exact wpAny_pyNext_list_end (I.ok.hd hc) st p.isList (by simp; omega) fun h' eb => ⟨rfl, I.turned (t' := s.toks) (fun b o hb e => eb b o hb e) f0 f1 f3 f4 f5⟩
  self := fun _ _ _ _ _ st h => wpAny_pyIter_listiter st h
theorem turn_range {P : Program} {w : World} {K : PySem.W.Frag} {tg : Expr} (it : Addr) (lo : Int) (n : Nat) : Turn P w K tg (Itr lo n) [it] it (fun i h => IsRangeIter h it (lo + (i : Nat) * 1) ((n : Int) - (i : Nat)) 1) where
  mem := by simp
  obj := fun i h st b hb => by
    have e : b = it := by simpa using hb
    subst e
    exact ⟨_, st, fun v z => by
      have z' : Data.fields _ = Data.cell v := z
      cases z'⟩
  keep := fun i h h' st k => k it (by simp) _ st
  item := by
    intro X hP hw hK hc i pins s σ H E I hf st hg
    subst hP hw hK
    obtain ⟨f0, f1, f2, f3, f4, f5⟩ := hf it (by simp)
    have W := Walks.range (prog := X.prog) (w := X.w) (I.ok.hd hc) it lo 1 n
    refine W.item i s _ _ hg st fun v h' tk hv st' kk => ?_
    obtain ⟨t, rfl⟩ := hv
    have I1 : Inv X pins σ H { s with heap := h', toks := tk } := I.turned (fun b o hb e => kk b o (by simpa using hb) e) f0 f1 f3 f4 f5
    refine ⟨_, rfl, go_of (s := { s with heap := h', toks := tk }) (n := "range_iterator") st' rfl rfl (by decide) ⟨.int (lo + i), H, I1, ⟨t, ?_⟩, ⟨rfl, rfl⟩, st', fun b hb => (hf b hb).1⟩⟩
    rw [Int.mul_one]
  done := by
    intro X hP hw hK hc i pins s σ H E I hf st hg
    subst hP hw hK
    obtain ⟨f0, f1, f2, f3, f4, f5⟩ := hf it (by simp)
    exact wpAny_pyNext_range_end (I.ok.hd hc) st (by have : n ≤ i := hg; omega) fun h' eb => ⟨rfl, I.turned (t' := s.toks) (fun b o hb e => eb b o hb e) f0 f1 f3 f4 f5⟩
  self := fun _ _ _ _ _ st h => wpAny_pyIter_rangeiter st h
end L2

namespace L2
open PySem PySem.Spec PyProof.Rows
section
variable {X : Cx} {tg : Expr}
noncomputable def iList (K : PySem.W.Frag) (tl : TE) : TI := fun σ H R => tl σ H fun x H1 => ∃ a, x = .ref a ∧ (∃ xs, SqL K H1 a xs) ∧ R (Itl K a) H1
theorem pi_list {l : Expr} {tl : TE} (hl : PE X l tl) : PI X tg l (iList X.K tl) := by
  intro pins s σ H R I h
  refine thn (hl pins s σ H _ I h) fun v s1 ⟨x, H1, I1, r1, q1⟩ => ?_
  obtain ⟨a, e, ⟨xs, hq⟩, q⟩ := q1
  subst e
  cases r1
  obtain ⟨its, rv, p, hz⟩ := I1.list hq
  refine wpAny_pyIter_list p.isList ?_
  refine ⟨s1.heap.objs.size, [s1.heap.objs.size], _, _, H1, rfl, I1.kept (t' := s1.toks) fun b o e => Heap.get?_push_of_some _ e, turn_list a _, ⟨_, Heap.get?_push_size _ rfl, rfl, rfl⟩, fun b hb => ?_, q⟩
  have e : b = s1.heap.objs.size := by simpa using hb
  subst e
  exact I1.fpOk (Nat.le_refl _) (I1.hok.fresh (Nat.le_refl _))
theorem range_it {pins : List (Addr × Obj)} {σ : St} {H : Hp} {s : Shared} {R : It → Hp → Prop} {E : Value → Shared → Prop} {lo hi : Int} {t u v : Tok} {tk : Nat} (I : Inv X pins σ H s) (h1 : -(2 ^ 62) ≤ lo) (h2 : lo < 2 ^ 62) (h3 : -(2 ^ 62) ≤ hi) (h4 : hi < 2 ^ 62)
    (q : R (Itr lo (hi - lo).toNat) H) : wpAny (model X.prog X.w) X.A (pyIter (.ref s.heap.objs.size)) (PIE X pins σ tg R) E { s with heap := s.heap.push { cls := .type "range", data := .fields #[.int lo t, .int hi u, .int 1 v] }, toks := tk } := by
  refine wpAny_pyIter_range (IsRange.new ..) (small_one h1 h2 h3 h4) ?_
  have I1 : Inv X pins σ H { s with heap := s.heap.push { cls := .type "range", data := .fields #[.int lo t, .int hi u, .int 1 v] }, toks := tk } := I.kept fun b o e => Heap.get?_push_of_some _ e
  refine ⟨(s.heap.push { cls := .type "range", data := .fields #[.int lo t, .int hi u, .int 1 v] }).objs.size, [(s.heap.push { cls := .type "range", data := .fields #[.int lo t, .int hi u, .int 1 v] }).objs.size], _, _, H, rfl,
    I1.kept (t' := tk) fun b o e => Heap.get?_push_of_some _ e, turn_range _ lo (hi - lo).toNat, ?_, fun b hb => ?_, q⟩
  · have e1 : lo + ((0 : Nat) : Int) * 1 = lo := by simp
    have e2 : (((hi - lo).toNat : Nat) : Int) - ((0 : Nat) : Int) = Builtin.Range.rangeSize lo hi 1 := by rw [rangeSize_one]; split <;> omega
    show IsRangeIter _ _ (lo + ((0 : Nat) : Int) * 1) ((((hi - lo).toNat : Nat) : Int) - ((0 : Nat) : Int)) 1
    rw [e1, e2]
    exact Heap.get?_push_size _ rfl
  · have e : b = (s.heap.push { cls := .type "range", data := .fields #[.int lo t, .int hi u, .int 1 v] }).objs.size := by simpa using hb
    subst e
    exact I1.fpOk (Nat.le_refl _) (I1.hok.fresh (Nat.le_refl _))
noncomputable def iRng1 (ta : TA) : TI := fun σ H R => ta σ H fun vs H1 => ∃ j : Int, vs = [.int j] ∧ -(2 ^ 62) ≤ j ∧ j < 2 ^ 62 ∧ R (Itr 0 j.toNat) H1
noncomputable def iRng2 (ta : TA) : TI := fun σ H R => ta σ H fun vs H1 => ∃ i j : Int, vs = [.int i, .int j] ∧ (-(2 ^ 62) ≤ i ∧ i < 2 ^ 62 ∧ -(2 ^ 62) ≤ j ∧ j < 2 ^ 62) ∧ R (Itr i (j - i).toNat) H1
theorem pi_range1 {a : Expr} {ta : TA} {p pos : Pos} (hg : Gl X "range") (hm : X.mg "range" = none) (ha : PA X [a] ta) (hs : starEach [a] X.env = [(false, eval a X.env)] := by rfl) : PI X tg (.Call (.Name "range" p) [a] [] pos) (iRng1 ta) := by
  intro pins s σ H R I h
  refine Call_ (ld_blt I hg hm boot_range (PyProof.Rows.callWith_type1 (thn (ha pos pins s σ H _ I h) fun us s1 ⟨vs, H1, I1, r1, q1⟩ => ?_) hs rfl))
  obtain ⟨j, e, q1, q2, q⟩ := q1
  subst e
  cases r1 with
  | cons r rr =>
    cases rr
    obtain ⟨t, rfl⟩ := r
    exact call_range_1 (range_it I1 (by omega) (by omega) q1 q2 (by simpa using q))
theorem pi_range2 {a b : Expr} {ta : TA} {p pos : Pos} (hg : Gl X "range") (hm : X.mg "range" = none) (ha : PA X [a, b] ta) (hs : starEach [a, b] X.env = [(false, eval a X.env), (false, eval b X.env)] := by rfl) (hs2 : starEach [b] X.env = [(false, eval b X.env)] := by rfl) :
    PI X tg (.Call (.Name "range" p) [a, b] [] pos) (iRng2 ta) := by
  intro pins s σ H R I h
  refine Call_ (ld_blt I hg hm boot_range (PyProof.Rows.callWith_type1 (thn (ha pos pins s σ H _ I h) fun us s1 ⟨vs, H1, I1, r1, q1⟩ => ?_) (by rw [hs, hs2]) (by rw [hs2]; rfl)))
  obtain ⟨i, j, e, ⟨q1, q2, q3, q4⟩, q⟩ := q1
  subst e
  cases r1 with
  | cons r rr =>
    cases rr with
    | cons r' rr =>
      cases rr
      obtain ⟨t, rfl⟩ := r
      obtain ⟨t', rfl⟩ := r'
      exact call_range_2 (range_it I1 q1 q2 q3 q4 q)

noncomputable def tFor (wi : TI) (g : TG) (tb : TS) : TS := fun D σ H => wi σ H fun J H1 => ∃ W : Nat → Nat → St → Hp → Prop, (∃ m, W 0 m σ H1) ∧ ∀ i m σ H, W i m σ H →
  (J.stop i H ∧ D.nx σ H) ∨ (J.go i H ∧ ∃ N : St → Hp → Prop, (∀ σ' H', N σ' H' → ∃ m', m' < m ∧ W (i + 1) m' σ' H') ∧ ∀ x H', J.yld i H x H' → g x σ H' fun σ2 H2 => tb { D with nx := N, ct := N, bk := D.nx } σ2 H2)
noncomputable def pinsAt (fp : List Addr) (h : Heap) : List (Addr × Obj) := fp.filterMap fun b => (h.get? b).map fun o => (b, o)
theorem mem_pinsAt {fp : List Addr} {h : Heap} {b : Addr} {o : Obj} (hb : b ∈ fp) (e : h.get? b = some o) : (b, o) ∈ pinsAt fp h := List.mem_filterMap.mpr ⟨b, hb, by rw [e]; rfl⟩
theorem of_pinsAt {fp : List Addr} {h : Heap} {p : Addr × Obj} (hp : p ∈ pinsAt fp h) : p.1 ∈ fp ∧ h.get? p.1 = some p.2 := by
  obtain ⟨b, hb, e⟩ := List.mem_filterMap.mp hp
  cases q : h.get? b with
  | none => rw [q] at e; cases e
  | some o =>
    rw [q] at e
    have e' : (b, o) = p := Option.some.inj e
    subst e'
    exact ⟨hb, q⟩
theorem Inv.pinned {pins : List (Addr × Obj)} {σ : St} {H : Hp} {s : Shared} {fp : List Addr} (I : Inv X pins σ H s) (hf : ∀ b ∈ fp, FpOk X pins H b) (ho : ∀ b ∈ fp, ∃ o, s.heap.get? b = some o ∧ ∀ v, o.data ≠ .cell v) : Inv X (pins ++ pinsAt fp s.heap) σ H s :=
  I.pins_of fun p hp => (List.mem_append.mp hp).elim (fun z => I.pin p (List.mem_append_right _ z)) fun z => by
    obtain ⟨hb, e⟩ := of_pinsAt z
    obtain ⟨f0, f1, f2, _⟩ := hf p.1 hb
    obtain ⟨o, e', d⟩ := ho p.1 hb
    rw [e] at e'; cases e'
    exact ⟨e, f0, f1, f2, d⟩
theorem Inv.unpinned {pins pl : List (Addr × Obj)} {σ : St} {H : Hp} {s : Shared} (I : Inv X (pins ++ pl) σ H s) : Inv X pins σ H s := I.pins_of fun p hp => I.pin p (List.mem_append_right _ (List.mem_append_left _ hp))
theorem ps_for {iter : Expr} {body : List Stmt} {wi : TI} {g : TG} {tb : TS} {pos : Pos} (hp : PassesOwn (model X.prog X.w) X.A X.env X.xe) (hc : X.calm = true) (hi : PI X tg iter wi) (hg : PG X tg g) (hb : PSs X body tb)
    (hs : ∀ x, foldedSetIterable iter X.env x = pure x := by intro _; rfl) : PS X (.For tg iter body [] pos) (tFor wi g tb) := by
  intro pins s σ H D I h
  refine wpAny_For (thn (hi pins s σ H _ I h) fun v s1 h1 => thn h1 fun itv s2 h2 => ?_) hs
  obtain ⟨it, fp, tn, J, H2, e, I2, T, st2, f2, W, ⟨m0, w0⟩, turn⟩ := h2
  subst e
  -- what stays true of the iterator's objects through the loop
  have stat : ∀ {H' : Hp}, (∀ b ∈ fp, H' b = none) → ∀ b ∈ fp, FpOk X pins H' b := fun hn b hb => ⟨hn b hb, (f2 b hb).2⟩
  refine codeAny_forLoop_any (fun n s' => ∃ i σ' H', Inv X pins σ' H' s' ∧ tn i s'.heap ∧ (∀ b ∈ fp, H' b = none) ∧ W i n σ' H') ?_ m0 ⟨0, σ, H2, I2, st2, fun b hb => (f2 b hb).1, w0⟩
  rintro n s3 ⟨i, σ3, H3, I3, st3, fr3, w3⟩
  rcases turn i n σ3 H3 w3 with ⟨stop, qn⟩ | ⟨go, N, hN, step⟩
  · refine wpAny_passesOwn hp (thn (T.done X rfl rfl rfl hc i pins s3 σ3 H3 X.xe I3 (stat fr3) st3 stop) fun r s4 ⟨hr, I4⟩ => ?_)
    subst hr
    exact wpAny_execs_nil ⟨σ3, H3, I4, qn⟩
  · refine wpAny_passesOwn hp (thn (T.item X rfl rfl rfl hc i pins s3 σ3 H3 X.xe I3 (stat fr3) st3 go) fun r s4 ⟨u, hr, h4⟩ => ?_)
    subst hr
    refine wpAny_passesOwn hp (thn h4 fun _ s5 ⟨x, H5, I5, r5, y5, st5, fr5⟩ => ?_)
    have I5' := I5.pinned (stat fr5) (T.obj _ _ st5)
    refine wpAny_passesOwn hp (thn (hg _ s5 σ3 H5 x u _ I5' r5 (step x H5 y5)) fun _ s6 ⟨σ6, H6, I6, q6⟩ => ?_)
    refine wpAny_passesOwn hp (thn (hb _ s6 σ6 H6 _ I6 q6) fun f s7 q7 => ?_)
    have again : ∀ {σ7 : St} {H7 : Hp}, Inv X (pins ++ pinsAt fp s5.heap) σ7 H7 s7 → N σ7 H7 → ∃ m, m < n ∧ ∃ i σ' H', Inv X pins σ' H' s7 ∧ tn i s7.heap ∧ (∀ b ∈ fp, H' b = none) ∧ W i m σ' H' := fun {σ7 H7} I7 n7 => by
      obtain ⟨m', hm, w7⟩ := hN σ7 H7 n7
      refine ⟨m', hm, i + 1, σ7, H7, I7.unpinned, T.keep _ _ _ st5 fun b hb o e => (I7.pin (b, o) (List.mem_append_right _ (List.mem_append_right _ (mem_pinsAt hb e)))).1, fun b hb => ?_, w7⟩
      obtain ⟨o, e, d⟩ := T.obj _ _ st5 b hb
      exact (I7.pin (b, o) (List.mem_append_right _ (List.mem_append_right _ (mem_pinsAt hb e)))).2.1
    cases f with
    | next => obtain ⟨σ7, H7, I7, n7⟩ := q7; exact again I7 n7
    | cont => obtain ⟨σ7, H7, I7, n7⟩ := q7; exact again I7 n7
    | brk => obtain ⟨σ7, H7, I7, q7⟩ := q7; exact ⟨σ7, H7, I7.unpinned, q7⟩
    | ret v => obtain ⟨x7, σ7, H7, I7, r7, q7⟩ := q7; exact ⟨x7, σ7, H7, I7.unpinned, r7, q7⟩
end

theorem for_list {K : PySem.W.Frag} {a : Addr} {xs : List V} {g : TG} {tb : TS} {D : Ends} {σ : St} {H : Hp} (Pv : Nat → St → Hp → Prop) (h0 : Pv 0 σ H) (hl : ∀ i σ H, i ≤ xs.length → Pv i σ H → SqL K H a xs)
    (hs : ∀ i x σ H, xs[i]? = some x → Pv i σ H → g x σ H fun σ2 H2 => tb { D with nx := Pv (i + 1), ct := Pv (i + 1), bk := D.nx } σ2 H2) (hd : ∀ σ H, Pv xs.length σ H → D.nx σ H) :
    ∃ W : Nat → Nat → St → Hp → Prop, (∃ m, W 0 m σ H) ∧ ∀ i m σ H, W i m σ H →
      ((Itl K a).stop i H ∧ D.nx σ H) ∨ ((Itl K a).go i H ∧ ∃ N : St → Hp → Prop, (∀ σ' H', N σ' H' → ∃ m', m' < m ∧ W (i + 1) m' σ' H') ∧ ∀ x H', (Itl K a).yld i H x H' → g x σ H' fun σ2 H2 => tb { D with nx := N, ct := N, bk := D.nx } σ2 H2) := by
  refine ⟨fun i m σ H => m = xs.length - i ∧ i ≤ xs.length ∧ Pv i σ H, ⟨xs.length, by simp, Nat.zero_le _, h0⟩, ?_⟩
  rintro i m σ H ⟨rfl, hi, p⟩
  have q := hl i σ H hi p
  by_cases hlt : i < xs.length
  · refine .inr ⟨⟨xs, xs[i], q, by simp [hlt]⟩, Pv (i + 1), fun σ' H' p' => ⟨xs.length - (i + 1), by omega, rfl, hlt, p'⟩, fun x H' y => ?_⟩
    obtain ⟨e, y⟩ := y
    subst e
    exact hs i x σ _ (y xs q) p
  · have e : i = xs.length := by omega
    subst e
    exact .inl ⟨⟨xs, q, Nat.le_refl _⟩, hd σ H p⟩
theorem for_range {lo : Int} {n : Nat} {g : TG} {tb : TS} {D : Ends} {σ : St} {H : Hp} (Pv : Nat → St → Hp → Prop) (h0 : Pv 0 σ H)
    (hs : ∀ i σ H, i < n → Pv i σ H → g (.int (lo + i)) σ H fun σ2 H2 => tb { D with nx := Pv (i + 1), ct := Pv (i + 1), bk := D.nx } σ2 H2) (hd : ∀ σ H, Pv n σ H → D.nx σ H) :
    ∃ W : Nat → Nat → St → Hp → Prop, (∃ m, W 0 m σ H) ∧ ∀ i m σ H, W i m σ H →
      ((Itr lo n).stop i H ∧ D.nx σ H) ∨ ((Itr lo n).go i H ∧ ∃ N : St → Hp → Prop, (∀ σ' H', N σ' H' → ∃ m', m' < m ∧ W (i + 1) m' σ' H') ∧ ∀ x H', (Itr lo n).yld i H x H' → g x σ H' fun σ2 H2 => tb { D with nx := N, ct := N, bk := D.nx } σ2 H2) := by
  refine ⟨fun i m σ H => m = n - i ∧ i ≤ n ∧ Pv i σ H, ⟨n, by simp, Nat.zero_le _, h0⟩, ?_⟩
  rintro i m σ H ⟨rfl, hi, p⟩
  by_cases hlt : i < n
  · refine .inr ⟨hlt, Pv (i + 1), fun σ' H' p' => ⟨n - (i + 1), by omega, rfl, hlt, p'⟩, fun x H' y => ?_⟩
    obtain ⟨e, y⟩ := y
    subst e y
    exact hs i σ _ hlt p
  · have e : i = n := by omega
    subst e
    exact .inl ⟨Nat.le_refl _, hd σ H p⟩
end L2

namespace L2
open PySem PySem.Spec PyProof.Rows

noncomputable abbrev R2 := V → V → Hp → VK → Prop
noncomputable def OpR (X : Cx) (f : Value → Value → Sem Value) (r : R2) : Prop :=
  ∀ (pins : List (Addr × Obj)) (s : Shared) (σ : St) (H : Hp) (x y : V) (v u : Value) (Q : VK), Inv X pins σ H s → RelV x v → RelV y u → r x y H Q →
    wpAny (model X.prog X.w) X.A (f v u) (EP X pins σ Q) X.xe s
noncomputable def UnR (X : Cx) (f : Value → Sem Value) (r : V → Hp → VK → Prop) : Prop :=
  ∀ (pins : List (Addr × Obj)) (s : Shared) (σ : St) (H : Hp) (x : V) (v : Value) (Q : VK), Inv X pins σ H s → RelV x v → r x H Q →
    wpAny (model X.prog X.w) X.A (f v) (EP X pins σ Q) X.xe s
noncomputable def CallR (X : Cx) (f : Value) (r : List V → Hp → VK → Prop) : Prop :=
  ∀ (pins : List (Addr × Obj)) (s : Shared) (σ : St) (H : Hp) (xs : List V) (us : List Value) (Q : VK), Inv X pins σ H s → Vals xs us → r xs H Q →
    wpAny (model X.prog X.w) X.A (call f us) (EP X pins σ Q) X.xe s
noncomputable def tOp (r : R2) (ta tb : TE) : TE := fun σ H Q => ta σ H fun x H1 => tb σ H1 fun y H2 => r x y H2 Q
noncomputable def tUn (r : V → Hp → VK → Prop) (ta : TE) : TE := fun σ H Q => ta σ H fun x H1 => r x H1 Q
noncomputable def rI (C : Int → Int → Prop) (g : Int → Int → V) : R2 := fun x y H Q => Ex2_4 (fun i j => x = .int i) (fun i j => y = .int j) (fun i j => C i j) (fun i j => Q (g i j) H)
noncomputable def rI0 (g : Int → Int → V) : R2 := fun x y H Q => Ex2_3 (fun i j => x = .int i) (fun i j => y = .int j) (fun i j => Q (g i j) H)
noncomputable def rU (g : Int → V) : V → Hp → VK → Prop := fun x H Q => Ex1_2 (fun i => x = .int i) (fun i => Q (g i) H)

section
variable {X : Cx} {a b c : Expr} {ta tb tc : TE} {pos : Pos}

theorem binT (ha : PE X a ta) (hb : PE X b tb) {pins : List (Addr × Obj)} {s : Shared} {σ : St} {H : Hp} {R : V → V → Hp → Prop} (I : Inv X pins σ H s)
    (h : ta σ H fun x H1 => tb σ H1 fun y H2 => R x y H2) {Q : Value → Shared → Prop} {f : Value → Value → Sem Value}
    (hf : ∀ v u s2 x y H2, Inv X pins σ H2 s2 → RelV x v → RelV y u → R x y H2 → wpAny (model X.prog X.w) X.A (f v u) Q X.xe s2) :
    wpAny (model X.prog X.w) X.A (eval a X.env) (fun v s₁ => wpAny (model X.prog X.w) X.A (eval b X.env) (fun u s₂ => wpAny (model X.prog X.w) X.A (f v u) Q X.xe s₂) X.xe s₁) X.xe s := by
  refine thn (ha pins s σ H _ I h) fun v s1 ⟨x, H1, I1, r1, q1⟩ => ?_
  refine thn (hb pins s1 σ H1 _ I1 q1) fun u s2 ⟨y, H2, I2, r2, q2⟩ => ?_
  exact hf v u s2 x y H2 I2 r1 r2 q2

theorem pe_op {op : Operator} {r : R2} (ho : OpR X (binaryOp op) r) (ha : PE X a ta) (hb : PE X b tb) : PE X (.BinOp a op b pos) (tOp r ta tb) := by
  intro pins s σ H Q I h
  exact wpAny_BinOp (binT ha hb I h fun v u s2 x y H2 I2 rx ry q => ho pins s2 σ H2 x y v u Q I2 rx ry q)
theorem pe_un {op : UnaryOp} {r : V → Hp → VK → Prop} (ho : UnR X (unaryOp op) r) (ha : PE X a ta) : PE X (.UnaryOp op a pos) (tUn r ta) := by
  intro pins s σ H Q I h
  exact UnaryOp_ (thn (ha pins s σ H _ I h) fun v s1 ⟨x, H1, I1, r1, q1⟩ => ho pins s1 σ H1 x v Q I1 r1 q1)
theorem opI {f : Value → Value → Sem Value} {C : Int → Int → Prop} {g : Int → Int → Int}
    (rule : ∀ (i j : Int) (t u : Tok) (s : Shared) (Q : Value → Shared → Prop) (E : Value → Shared → Prop), C i j → Q (.int (g i j) s.toks) { s with toks := s.toks + 1 } → wpAny (model X.prog X.w) X.A (f (.int i t) (.int j u)) Q E s) :
    OpR X f (rI C fun i j => .int (g i j)) := by
  intro pins s σ H x y v u Q I rx ry h
  obtain ⟨i, j, rfl, rfl, hc, q⟩ := h
  obtain ⟨t, rfl⟩ := rx
  obtain ⟨t', rfl⟩ := ry
  exact rule i j t t' s _ _ hc ⟨.int (g i j), H, I.tok _, ⟨_, rfl⟩, q⟩
theorem opI0 {f : Value → Value → Sem Value} {g : Int → Int → Int}
    (rule : ∀ (i j : Int) (t u : Tok) (s : Shared) (Q : Value → Shared → Prop) (E : Value → Shared → Prop), Q (.int (g i j) s.toks) { s with toks := s.toks + 1 } → wpAny (model X.prog X.w) X.A (f (.int i t) (.int j u)) Q E s) :
    OpR X f (rI0 fun i j => .int (g i j)) := by
  intro pins s σ H x y v u Q I rx ry h
  obtain ⟨i, j, rfl, rfl, q⟩ := h
  obtain ⟨t, rfl⟩ := rx
  obtain ⟨t', rfl⟩ := ry
  exact rule i j t t' s _ _ ⟨.int (g i j), H, I.tok _, ⟨_, rfl⟩, q⟩
theorem opB0 {f : Value → Value → Sem Value} {g : Int → Int → Bool}
    (rule : ∀ (i j : Int) (t u : Tok) (s : Shared) (Q : Value → Shared → Prop) (E : Value → Shared → Prop), Q (.bool (g i j)) s → wpAny (model X.prog X.w) X.A (f (.int i t) (.int j u)) Q E s) :
    OpR X f (rI0 fun i j => .bl (g i j)) := by
  intro pins s σ H x y v u Q I rx ry h
  obtain ⟨i, j, rfl, rfl, q⟩ := h
  obtain ⟨t, rfl⟩ := rx
  obtain ⟨t', rfl⟩ := ry
  exact rule i j t t' s _ _ ⟨.bl (g i j), H, I, rfl, q⟩

noncomputable def CDiv (i j : Int) : Prop := 0 < j ∧ j < 1073741824
noncomputable def CMul (i j : Int) : Prop := (-(2 ^ 64) < i ∧ i < 2 ^ 64) ∨ (-(2 ^ 64) < j ∧ j < 2 ^ 64)
theorem CMul.ok {i j : Int} (h : CMul i j) : IntMulOk i j := by
  rcases h with ⟨h1, h2⟩ | ⟨h1, h2⟩
  · exact .of_left (intBits_le_64 h1 h2)
  · exact .of_right (intBits_le_64 h1 h2)
theorem op_add : OpR X (binaryOp .Add) (rI0 fun i j => .int (i + j)) := opI0 fun _ _ _ _ _ _ _ q => add_int q
theorem op_sub : OpR X (binaryOp .Sub) (rI0 fun i j => .int (i - j)) := opI0 fun _ _ _ _ _ _ _ q => sub_int q
theorem op_mul : OpR X (binaryOp .Mult) (rI CMul fun i j => .int (i * j)) := opI fun _ _ _ _ _ _ _ hc q => mul_int q hc.ok
theorem op_fdiv : OpR X (binaryOp .FloorDiv) (rI CDiv fun i j => .int (i / j)) := opI fun i j _ _ _ _ _ hc q => by
  have h1 : (0 : Int) < j := hc.1
  have h2 : j < 1073741824 := hc.2
  exact floordiv_int (by omega) (by rw [Int.fdiv_eq_ediv_of_nonneg i (by omega)]; exact q) (.inl (PyProof.noPylong_small (by omega)))
theorem op_mod : OpR X (binaryOp .Mod) (rI (fun _ j => 0 < j) fun i j => .int (i % j)) := opI fun i j _ _ _ _ _ hc q => by
  have h1 : (0 : Int) < j := hc
  exact mod_int' (by omega) (by rw [Int.fmod_eq_emod_of_nonneg i (by omega)]; exact q)
theorem unI {f : Value → Sem Value} {g : Int → Int}
    (rule : ∀ (i : Int) (t : Tok) (s : Shared) (Q : Value → Shared → Prop) (E : Value → Shared → Prop), Q (.int (g i) s.toks) { s with toks := s.toks + 1 } → wpAny (model X.prog X.w) X.A (f (.int i t)) Q E s) :
    UnR X f (rU fun i => .int (g i)) := by
  intro pins s σ H x v Q I rx h
  obtain ⟨i, rfl, q⟩ := h
  obtain ⟨t, rfl⟩ := rx
  exact rule i t s _ _ ⟨.int (g i), H, I.tok _, ⟨_, rfl⟩, q⟩
theorem un_neg : UnR X (unaryOp .USub) (rU fun i => .int (-i)) := unI fun _ _ _ _ _ q => neg_int q
end

noncomputable def scal : V → V → Bool
  | .non, .non => true | .non, .int _ => true | .int _, .non => true | .non, .bl _ => true | .bl _, .non => true | .non, .str _ => true | .str _, .non => true
  | .int _, .int _ => true | .bl _, .bl _ => true | .str _, .str _ => true | .byt _, .byt _ => true
  | .int _, .str _ => true | .str _, .int _ => true | .bl _, .str _ => true | .str _, .bl _ => true
  | _, _ => false
noncomputable def rEq : R2 := fun x y H Q => scal x y = true ∧ Q (.bl (decide (x = y))) H
noncomputable def rNe : R2 := fun x y H Q => scal x y = true ∧ Q (.bl (!decide (x = y))) H

theorem dec_int {i j : Int} : decide (V.int i = V.int j) = (i == j) := by
  rw [Bool.eq_iff_iff]
  simp
theorem dec_bl {i j : Bool} : decide (V.bl i = V.bl j) = (i == j) := by
  rw [Bool.eq_iff_iff]
  simp
theorem dec_str {i j : Str} : decide (V.str i = V.str j) = (i == j) := by
  rw [Bool.eq_iff_iff]
  simp
theorem dec_byt {i j : Array UInt8} : decide (V.byt i = V.byt j) = (i.toList == j.toList) := by
  rw [Bool.eq_iff_iff]
  cases i
  cases j
  simp

section
variable {X : Cx} {a b c : Expr} {ta tb tc : TE} {pos : Pos}
theorem fin_bl {pins : List (Addr × Obj)} {σ : St} {H : Hp} {s : Shared} {Q : VK} {k k' : Bool} (I : Inv X pins σ H s) (q : Q (.bl k) H) (e : k = k') : EP X pins σ Q (.bool k') s := by
  subst e
  exact ⟨.bl k, H, I, rfl, q⟩
theorem op_eq : OpR X (compareOp .Eq) rEq := by
  intro pins s σ H x y v u Q I rx ry h
  obtain ⟨hs, q⟩ := h
  cases x with
  | non =>
    cases rx
    cases y with
    | non => cases ry; exact PySem.EqNone.eq_none_none (fin_bl I q (by simp))
    | bl j => cases ry; exact PySem.EqNone.eq_none_bool (fin_bl I q (by simp))
    | int j => obtain ⟨t', rfl⟩ := ry; exact PySem.EqNone.eq_none_int (fin_bl I q (by simp))
    | str j => obtain ⟨t', rfl⟩ := ry; exact PySem.EqNone.eq_none_str (fin_bl I q (by simp))
    | _ => exact absurd (show false = true from hs) Bool.false_ne_true
  | bl i =>
    cases rx
    cases y with
    | non => cases ry; exact PySem.EqNone.eq_bool_none (fin_bl I q (by simp))
    | bl j => cases ry; exact eq_bool (fin_bl I q dec_bl)
    | str j => obtain ⟨t', rfl⟩ := ry; exact PySem.EqMixed.eq_bool_str (fin_bl I q (by simp))
    | _ => exact absurd (show false = true from hs) Bool.false_ne_true
  | int i =>
    obtain ⟨t, rfl⟩ := rx
    cases y with
    | non => cases ry; exact PySem.EqNone.eq_int_none (fin_bl I q (by simp))
    | int j => obtain ⟨t', rfl⟩ := ry; exact eq_int (fin_bl I q dec_int)
    | str j => obtain ⟨t', rfl⟩ := ry; exact PySem.EqMixed.eq_int_str (fin_bl I q (by simp))
    | _ => exact absurd (show false = true from hs) Bool.false_ne_true
  | str i =>
    obtain ⟨t, rfl⟩ := rx
    cases y with
    | non => cases ry; exact PySem.EqNone.eq_str_none (fin_bl I q (by simp))
    | bl j => cases ry; exact PySem.EqMixed.eq_str_bool (fin_bl I q (by simp))
    | int j => obtain ⟨t', rfl⟩ := ry; exact PySem.EqMixed.eq_str_int (fin_bl I q (by simp))
    | str j => obtain ⟨t', rfl⟩ := ry; exact eq_str (fin_bl I q dec_str)
    | _ => exact absurd (show false = true from hs) Bool.false_ne_true
  | byt i =>
    obtain ⟨t, rfl⟩ := rx
    cases y with
    | byt j => obtain ⟨t', rfl⟩ := ry; exact PySem.W.eq_bytes (fin_bl I q dec_byt)
    | _ => exact absurd (show false = true from hs) Bool.false_ne_true
  | _ => cases y <;> exact absurd (show false = true from hs) Bool.false_ne_true
theorem op_ne : OpR X (compareOp .NotEq) rNe := by
  intro pins s σ H x y v u Q I rx ry h
  obtain ⟨hs, q⟩ := h
  cases x with
  | non =>
    cases rx
    cases y with
    | non => cases ry; exact PySem.EqNone.ne_none_none (fin_bl I q (by simp))
    | bl j => cases ry; exact PySem.EqNone.ne_none_bool (fin_bl I q (by simp))
    | int j => obtain ⟨t', rfl⟩ := ry; exact PySem.EqNone.ne_none_int (fin_bl I q (by simp))
    | str j => obtain ⟨t', rfl⟩ := ry; exact PySem.EqNone.ne_none_str (fin_bl I q (by simp))
    | _ => exact absurd (show false = true from hs) Bool.false_ne_true
  | bl i =>
    cases rx
    cases y with
    | non => cases ry; exact PySem.EqNone.ne_bool_none (fin_bl I q (by simp))
    | bl j => cases ry; exact ne_bool (fin_bl I q (congrArg not dec_bl))
    | str j => obtain ⟨t', rfl⟩ := ry; exact PySem.EqMixed.ne_bool_str (fin_bl I q (by simp))
    | _ => exact absurd (show false = true from hs) Bool.false_ne_true
  | int i =>
    obtain ⟨t, rfl⟩ := rx
    cases y with
    | non => cases ry; exact PySem.EqNone.ne_int_none (fin_bl I q (by simp))
    | int j => obtain ⟨t', rfl⟩ := ry; exact ne_int (fin_bl I q (congrArg not dec_int))
    | str j => obtain ⟨t', rfl⟩ := ry; exact PySem.EqMixed.ne_int_str (fin_bl I q (by simp))
    | _ => exact absurd (show false = true from hs) Bool.false_ne_true
  | str i =>
    obtain ⟨t, rfl⟩ := rx
    cases y with
    | non => cases ry; exact PySem.EqNone.ne_str_none (fin_bl I q (by simp))
    | bl j => cases ry; exact PySem.EqMixed.ne_str_bool (fin_bl I q (by simp))
    | int j => obtain ⟨t', rfl⟩ := ry; exact PySem.EqMixed.ne_str_int (fin_bl I q (by simp))
    | str j => obtain ⟨t', rfl⟩ := ry; exact ne_str (fin_bl I q (congrArg not dec_str))
    | _ => exact absurd (show false = true from hs) Bool.false_ne_true
  | byt i =>
    obtain ⟨t, rfl⟩ := rx
    cases y with
    | byt j => obtain ⟨t', rfl⟩ := ry; exact PySem.W.ne_bytes (fin_bl I q (congrArg not dec_byt))
    | _ => exact absurd (show false = true from hs) Bool.false_ne_true
  | _ => cases y <;> exact absurd (show false = true from hs) Bool.false_ne_true

theorem op_lt : OpR X (compareOp .Lt) (rI0 fun i j => .bl (decide (i < j))) := opB0 fun _ _ _ _ _ _ _ q => lt_int q
theorem op_le : OpR X (compareOp .LtE) (rI0 fun i j => .bl (decide (i ≤ j))) := opB0 fun _ _ _ _ _ _ _ q => le_int q
theorem op_gt : OpR X (compareOp .Gt) (rI0 fun i j => .bl (decide (j < i))) := opB0 fun _ _ _ _ _ _ _ q => gt_int q
theorem op_ge : OpR X (compareOp .GtE) (rI0 fun i j => .bl (decide (j ≤ i))) := opB0 fun _ _ _ _ _ _ _ q => ge_int q
theorem op_in_str : OpR X (compareOp .In) (fun x y H Q => ∃ i j, x = .str i ∧ y = .str j ∧ Q (.bl (!(Builtin.Str.occurrences j i 0 j.length 1).isEmpty)) H) := by
  intro pins s σ H x y v u Q I rx ry h
  obtain ⟨i, j, rfl, rfl, q⟩ := h
  obtain ⟨t, rfl⟩ := rx
  obtain ⟨t', rfl⟩ := ry
  exact in_str (fin_bl I q rfl)
theorem op_notin_str : OpR X (compareOp .NotIn) (fun x y H Q => ∃ i j, x = .str i ∧ y = .str j ∧ Q (.bl (!(!(Builtin.Str.occurrences j i 0 j.length 1).isEmpty))) H) := by
  intro pins s σ H x y v u Q I rx ry h
  obtain ⟨i, j, rfl, rfl, q⟩ := h
  obtain ⟨t, rfl⟩ := rx
  obtain ⟨t', rfl⟩ := ry
  exact notIn_str (fin_bl I q rfl)
theorem nomark (b : Expr) {op : CmpOp} (h : op ≠ .In := by decide) (h2 : op ≠ .NotIn := by decide) : behindInMarks op b = false := by
  have e1 : (op == CmpOp.In) = false := by cases op <;> first | rfl | exact absurd rfl h
  have e2 : (op == CmpOp.NotIn) = false := by cases op <;> first | rfl | exact absurd rfl h2
  cases b <;> simp [behindInMarks, e1, e2]
theorem pe_cmpR {op : CmpOp} {r : R2} (ho : OpR X (compareOp op) r) (ha : PE X a ta) (hb : PE X b tb) (hm : behindInMarks op b = false) : PE X (.Compare a [op] [b] pos) (tOp r ta tb) := by
  intro pins s σ H Q I h
  exact wpAny_Compare1 (binT ha hb I h fun v u s2 x y H2 I2 rx ry q => ho pins s2 σ H2 x y v u Q I2 rx ry q) hm
noncomputable def tTest (t : TE) : TT := fun σ H Q => t σ H fun x H' => Ex1_2 (fun k => x = .bl k) (fun k => Q k H')
theorem pt_cmpR {op : CmpOp} {r : R2} (ho : OpR X (compareOp op) r) (ha : PE X a ta) (hb : PE X b tb) (hm : behindInMarks op b = false) : PT X (.Compare a [op] [b] pos) (tTest (tOp r ta tb)) := by
  intro pins s σ H Q I h
  refine wpAny_isTrue_Compare1 (thn (ha pins s σ H _ I h) fun v s1 ⟨x, H1, I1, r1, q1⟩ => thn (hb pins s1 σ H1 _ I1 q1) fun u s2 ⟨y, H2, I2, r2, q2⟩ =>
    thn (ho pins s2 σ H2 x y v u _ I2 r1 r2 q2) fun c s3 ⟨z, H3, I3, r3, k, e, q3⟩ => ?_) hm
  subst e
  cases r3
  exact wpAny_truthy_bool ⟨H3, I3, q3⟩
noncomputable def tChain (r r' : R2) (ta tb tc : TE) : TE := fun σ H Q => ta σ H fun x H1 => tb σ H1 fun y H2 => r x y H2 fun z H3 => ∃ k, z = .bl k ∧
  (if k = true then tc σ H3 fun w' H4 => r' y w' H4 Q else Q (.bl false) H3)
theorem pt_chain {op op' : CmpOp} {r r' : R2} (ho : OpR X (compareOp op) r) (ho' : OpR X (compareOp op') r') (ha : PE X a ta) (hb : PE X b tb) (hc : PE X c tc)
    (hm : lastMarks [op, op'] [b, c] = false := by with_unfolding_all rfl) : PT X (.Compare a [op, op'] [b, c] pos) (tTest (tChain r r' ta tb tc)) := by
  intro pins s σ H Q I h
  refine isTrue_chain (thn (ha pins s σ H _ I h) fun v s1 ⟨x, H1, I1, r1, q1⟩ => test_link (thn (hb pins s1 σ H1 _ I1 q1) fun u s2 ⟨y, H2, I2, r2, q2⟩ =>
    thn (ho pins s2 σ H2 x y v u _ I2 r1 r2 q2) fun d s3 ⟨z, H3, I3, r3, k, e, q3⟩ => ?_)) hm
  subst e
  cases r3
  refine wpAny_truthy_bool ?_
  cases k with
  | false =>
    obtain ⟨k', e', q'⟩ := q3
    cases e'
    exact ite_ff ⟨H3, I3, q'⟩
  | true =>
    refine ite_tt (test_last (thn (hc pins s3 σ H3 _ I3 q3) fun w' s4 ⟨z', H4, I4, r4, q4⟩ => thn (ho' pins s4 σ H4 y z' u w' _ I4 r2 r4 q4) fun d' s5 ⟨z2, H5, I5, r5, k2, e2, q5⟩ => ?_))
    subst e2
    cases r5
    exact wpAny_truthy_bool ⟨H5, I5, q5⟩

theorem line63 : (sizeLine : Nat) < 2 ^ 63 := by rw [sizeLine_eq]; decide
theorem op_add_str : OpR X (binaryOp .Add) (fun x y H Q => ∃ i j, x = .str i ∧ y = .str j ∧ i.length + j.length ≤ sizeLine ∧ Q (.str (i ++ j)) H) := by
  intro pins s σ H x y v u Q I rx ry h
  obtain ⟨i, j, rfl, rfl, hz, q⟩ := h
  obtain ⟨t, rfl⟩ := rx
  obtain ⟨t', rfl⟩ := ry
  exact add_str (fun t' tk => ⟨.str (i ++ j), H, I.tok _, ⟨_, rfl⟩, q⟩) hz
theorem vals1 {x : V} {us : List Value} (r : Vals [x] us) : ∃ u, us = [u] ∧ RelV x u := by
  cases r with
  | cons r1 r2 => cases r2; exact ⟨_, rfl, r1⟩
theorem vals2 {x y : V} {us : List Value} (r : Vals [x, y] us) : ∃ u w', us = [u, w'] ∧ RelV x u ∧ RelV y w' := by
  cases r with
  | cons r1 r2 =>
    cases r2 with
    | cons r3 r4 => cases r4; exact ⟨_, _, rfl, r1, r3⟩
theorem call_int1 : CallR X (.type "int") (fun xs H Q => (∃ i, xs = [.int i] ∧ Q (.int i) H) ∨ ∃ k, xs = [.bl k] ∧ Q (.int (if k then 1 else 0)) H) := by
  intro pins s σ H xs us Q I r h
  rcases h with ⟨i, rfl, q⟩ | ⟨k, rfl, q⟩
  · obtain ⟨u, rfl, t, rfl⟩ := vals1 r
    exact call_int_int ⟨.int i, H, I, ⟨_, rfl⟩, q⟩
  · obtain ⟨u, rfl, r1⟩ := vals1 r
    cases r1
    exact call_int_bool ⟨.int (if k then 1 else 0), H, I.tok _, ⟨_, rfl⟩, q⟩
theorem call_str_int : CallR X (.type "str") (fun xs H Q => ∃ i, xs = [.int i] ∧ i.natAbs.log2 < 1920 ∧ Q (.str (toString i)) H) := by
  intro pins s σ H xs us Q I r h
  obtain ⟨i, rfl, hz, q⟩ := h
  obtain ⟨u, rfl, t, rfl⟩ := vals1 r
  exact PySem.P.str_of_int hz ⟨.str _, H, I.tok _, ⟨_, rfl⟩, q⟩
end
end L2

namespace L2
open PySem PySem.Spec PyProof.Rows

structure ObjM (h : Heap) (x dx C : Addr) (mA : Str → Option Value) : Prop where
  obj : h.get? x = some (PySem.W.instObj C dx)
  ns : h.Ns1 dx mA
  ne : dx ≠ x

theorem lookIn_ns {h : Heap} {dx : Addr} {mA : Str → Option Value} (n : h.Ns1 dx mA) : ∃ od, h.get? dx = some od ∧ ∀ name, PySem.W.lookIn name od = some (mA name) := by
  obtain ⟨o, es, ep, ho, hd, hk, _, hm⟩ := n
  refine ⟨o, ho, fun name => ?_⟩
  have e := hm name
  unfold nsFind findBy at e
  rw [← Array.find?_toList] at e
  unfold PySem.W.lookIn
  rw [hd]
  dsimp only
  split
  · rename_i y q
    rw [q] at e
    exact congrArg some e
  · rename_i q
    rw [q] at e
    have a : es.toList.any (·.refKey) = false := by
      rw [List.any_eq_false]
      intro y hy
      obtain ⟨z, t, hkey⟩ := hk y (Array.mem_toList_iff.mp hy)
      simp [DictEntry.refKey, hkey]
    have a' : ¬ es.toList.any (·.refKey) = true := by rw [a]; exact Bool.false_ne_true
    rw [if_neg a']
    exact congrArg some e

theorem ObjM.look {h : Heap} {x dx C : Addr} {mA : Str → Option Value} (I : ObjM h x dx C mA) : ∃ od, PySem.W.InstAt h x (PySem.W.instObj C dx) C (some od) ∧ ∀ name, PySem.W.lookIn name od = some (mA name) :=
  let ⟨od, ho, hl⟩ := lookIn_ns I.ns
  ⟨od, ⟨I.obj, rfl, rfl, ho⟩, hl⟩

section
variable {prog : Program} {w : World} {A : Around} {E : Value → Shared → Prop} {s : Shared} {K : PySem.W.Frag} {x dx C f : Addr} {mA : Str → Option Value} {name : Str} {v : Value}

end

theorem RelO.some_of {v : V} {o : Option Value} (r : RelO (some v) o) : ∃ u, o = some u ∧ RelV v u := by
  cases o with
  | none => exact (show False from r).elim
  | some u => exact ⟨u, rfl, r⟩
section
variable {P : Program} {w : World} {H H' : Hp} {h h' : Heap} {a C dx : Addr} {fs fs' : List (Str × V)}
theorem ins_get (hok : HOk P w H h) (e : H a = some (.ins C dx fs)) : ∃ mA, ObjM h a dx C mA ∧ (∀ f, RelO (fs.lookup f) (mA f)) ∧ PySem.Within mA (fs.map (·.1)) ∧ fs.length ≤ 1000 ∧ H dx = some (.own a) := by
  obtain ⟨d, z, ne, ob, mA, n, r, q⟩ := (show ObjOk P w H h a (.ins C dx fs) from hok a _ e)
  exact ⟨mA, ⟨ob, n, ne⟩, r, q, z, d⟩
end

structure Cls (K : PySem.W.Frag) (C : Addr) : Prop where
  pg : PySem.W.plainGet K C Str.empty = true
  hd : PySem.W.hasDictIn K C = true
  po : PySem.W.plainOver K C = true
  sa : PySem.W.findIn K (.ref C) "__setattr__" = some (some (.builtin "object.__setattr__"))
theorem Cls.get {K : PySem.W.Frag} {C : Addr} (c : Cls K C) (f : Str) : PySem.W.plainGet K C f = true := c.pg
section
variable {X : Cx} {pins : List (Addr × Obj)} {σ : St} {H : Hp} {s : Shared} {a C dx : Addr} {fs : List (Str × V)} {f : Str} {v : V} {A : Around} {E : Value → Shared → Prop}

end

section
variable {X : Cx} {o e value : Expr} {f : Str} {pos pos' tpos : Pos} {ta tv : TE}
end

section
variable {X : Cx} {pins : List (Addr × Obj)} {σ : St} {H : Hp} {s : Shared} {A : Around} {E : Value → Shared → Prop} {Q : Value → Shared → Prop} {c : Value} {b : Bool}
inductive TyOf (K : PySem.W.Frag) (H : Hp) : V → Value → Prop where
  | non : TyOf K H .non (.type "NoneType")
  | bl (x : Bool) : TyOf K H (.bl x) (.type "bool")
  | int (i : Int) : TyOf K H (.int i) (.type "int")
  | str (x : Str) : TyOf K H (.str x) (.type "str")
  | flt (x : UInt64) : TyOf K H (.flt x) (.type "float")
  | lst {a : Addr} {xs : List V} (e : H a = some (.lst xs)) : TyOf K H (.ref a) (.type "list")
  | frz {a : Addr} {o : Obj} {xs : List V} (e : H a = some (.frz o (.lst xs))) : TyOf K H (.ref a) (.type "list")
  | tup {a : Addr} {xs : List V} (e : H a = some (.tup xs)) : TyOf K H (.ref a) (.type "tuple")
  | dK {a : Addr} {kvs : List (Key × V)} (e : H a = some (.dK kvs)) : TyOf K H (.ref a) (.type "dict")
  | dT {a : Addr} {kvs : List (List Key × V)} (e : H a = some (.dT kvs)) : TyOf K H (.ref a) (.type "dict")
  | ins {a C dx : Addr} {fs : List (Str × V)} (e : H a = some (.ins C dx fs)) (cl : Cls K C) (ha : PySem.W.findIn K (.ref C) "__class__" = some (some (.builtin "object.__class__")))
      (hn : PySem.W.specialIn K (.builtin "object.__class__") "__get__" = some (some (.builtin "getset_descriptor.__get__"))) (htk : PySem.W.takesIn K (.builtin "object.__class__") = some true)
      (hm : PySem.W.mroIn K C (.type "object") = some true) : TyOf K H (.ref a) (.ref C)
theorem isinst_ok {x : V} {u t : Value} (I : Inv X pins σ H s) (rx : RelV x u) (ty : TyOf X.K H x t) (e : PySem.W.kitOne X.K t c = some b) (h : ∀ tk, Q (.bool b) { s with toks := tk }) :
    wpAny (model X.prog X.w) A (call (.builtin "isinstance") [u, c]) Q E s := by
  cases ty with
  | non => cases (show u = Value.none from rx); exact PySem.W.kia_one PySem.W.kitx_none I.kIn True.intro e (fun z => nomatch z) h
  | bl y => cases (show u = Value.bool y from rx); exact PySem.W.kia_one PySem.W.kitx_bool I.kIn True.intro e (fun z => nomatch z) h
  | int i => obtain ⟨t, q⟩ := (show ∃ t, u = Value.int i t from rx); cases q; exact PySem.W.kia_one PySem.W.kitx_int I.kIn True.intro e (fun z => nomatch z) h
  | str y => obtain ⟨t, q⟩ := (show ∃ t, u = Value.str y t from rx); cases q; exact PySem.W.kia_one PySem.W.kitx_str I.kIn True.intro e (fun z => nomatch z) h
  | flt y => obtain ⟨t, q⟩ := (show ∃ t, u = Value.float y t from rx); cases q; exact PySem.W.kia_one PySem.W.kitx_float I.kIn True.intro e (fun z => nomatch z) h
  | @lst a xs ea =>
    cases (show u = Value.ref a from rx)
    obtain ⟨_, _, n, _, h1⟩ := (show ObjOk X.prog X.w H s.heap a (.lst xs) from I.hok a _ ea)
    exact PySem.W.kia_one PySem.W.kitx_list I.kIn ⟨_, h1, rfl⟩ e (fun z => nomatch z) h
  | @frz a ob xs ea =>
    cases (show u = Value.ref a from rx)
    obtain ⟨_, _, _, n, _, h1⟩ := (show ObjOk X.prog X.w H s.heap a (.frz ob (.lst xs)) from I.hok a _ ea)
    exact PySem.W.kia_one PySem.W.kitx_list I.kIn ⟨_, h1, rfl⟩ e (fun z => nomatch z) h
  | @tup a xs ea =>
    cases (show u = Value.ref a from rx)
    obtain ⟨_, _, _, p⟩ := (show ObjOk X.prog X.w H s.heap a (.tup xs) from I.hok a _ ea)
    obtain ⟨o, h1, h2, _⟩ := p
    exact PySem.W.kia_one PySem.W.kitx_tuple I.kIn ⟨o, h1, h2⟩ e (fun z => nomatch z) h
  | @dK a kvs ea =>
    cases (show u = Value.ref a from rx)
    obtain ⟨_, _, vs, _, p⟩ := (show ObjOk X.prog X.w H s.heap a (.dK kvs) from I.hok a _ ea)
    obtain ⟨o, es, ep, h1, h2, _⟩ := p
    exact PySem.W.kia_one PySem.W.kitx_dict I.kIn ⟨o, h1, h2.1⟩ e (fun z => nomatch z) h
  | @dT a kvs ea =>
    cases (show u = Value.ref a from rx)
    obtain ⟨_, _, xs, _, o, es, ep, h1, h2, _⟩ := (show ObjOk X.prog X.w H s.heap a (.dT kvs) from I.hok a _ ea)
    exact PySem.W.kia_one PySem.W.kitx_dict I.kIn ⟨o, h1, h2.1⟩ e (fun z => nomatch z) h
  | @ins a C dx fs ea cl ha hn htk hm =>
    cases (show u = Value.ref a from rx)
    obtain ⟨mA, O, _⟩ := ins_get I.hok ea
    obtain ⟨od, J, _⟩ := O.look
    exact PySem.W.kia_one (PySem.W.kitx_own (cl.get _) cl.hd ha hn htk hm) I.kIn J e (fun z => nomatch z) h
end
end L2

namespace L2
open PySem PySem.Spec PyProof.Rows

structure Room (k : Nat) (A : Around) : Prop where
  hd : A.handled = none
  dp : A.depth + 3 * k + 5 < recursionLimit
  un : A.units + 16 * k + 200 < cLine
theorem Room.mono {j k : Nat} {A : Around} (r : Room k A) (h : j ≤ k) : Room j A := ⟨r.hd, by have := r.dp; omega, by have := r.un; omega⟩
theorem Room.deeper {k : Nat} {A : Around} (r : Room (k + 1) A) (env : Env) : Room k (A.deeper env) :=
  ⟨r.hd, by have := r.dp; show A.depth + 1 + 3 * k + 5 < _; omega, by have := r.un; show A.units + 3 + 16 * k + 200 < _; omega⟩
theorem Room.depth {k : Nat} {A : Around} (r : Room k A) : A.depth < recursionLimit := by have := r.dp; omega
theorem Room.units {k : Nat} {A : Around} (r : Room k A) : A.units + 64 < cLine := by have := r.un; omega
noncomputable def tNil : TA := fun _ H Q => Q [] H
noncomputable def tCons (ta : TE) (tr : TA) : TA := fun σ H Q => ta σ H fun x H1 => tr σ H1 fun xs H2 => Q (x :: xs) H2
section
variable {X : Cx} {e : Expr} {es : List Expr} {te : TE} {t : TA} {pos : Pos}
theorem pa_nil : PA X [] tNil := fun _ _ _ _ H Q I h => Calls.spliced_nil ⟨[], H, I, .nil, h⟩
theorem pa_cons (ha : PE X e te) (hr : PA X es t) (hs : starEach (e :: es) X.env = (false, eval e X.env) :: starEach es X.env := by rfl) : PA X (e :: es) (tCons te t) := by
  intro pos pins s σ H Q I h
  rw [hs]
  show wpAny _ _ (spliced ((false, eval e X.env) :: backTo pos (starEach es X.env))) _ _ s
  refine Calls.spliced_cons (thn (ha pins s σ H _ I h) fun u s1 ⟨x, H1, I1, r1, q1⟩ => ?_)
  exact thn (hr pos pins s1 σ H1 _ I1 q1) fun us s2 ⟨xs, H2, I2, r2, q2⟩ => ⟨x :: xs, H2, I2, .cons r1 r2, q2⟩
noncomputable def tTup (t : TA) : TE := fun σ H Q => t σ H fun xs H1 => xs.length ≤ sizeLine ∧ ∀ p, H1 p = none → Q (.ref p) (upd H1 p (.tup xs))
noncomputable def tLst (t : TA) : TE := fun σ H Q => t σ H fun xs H1 => xs.length ≤ sizeLine ∧ ∀ p, H1 p = none → Q (.ref p) (upd H1 p (.lst xs))
theorem pe_tup {x1} (h : PA X es t) : PE X (.Tuple es x1 pos) (tTup t) := by
  intro pins s σ H Q I hq
  refine wpAny_Tuple_spliced (thn (h pos pins s σ H _ I hq) fun us s1 ⟨xs, H1, I1, r, z, q⟩ => ⟨by rw [← r.length]; exact z, ?_⟩)
  have hf : H1 s1.heap.objs.size = none := I1.hok.fresh (Nat.le_refl _)
  refine ⟨.ref s1.heap.objs.size, upd H1 s1.heap.objs.size (.tup xs), I1.laid (t' := s1.toks) (fun b u e => Heap.get?_push_of_some _ e) (Nat.le_refl _) ?_, rfl, q _ hf⟩
  exact ⟨z, us, r, ⟨_, Heap.get?_push_size _ rfl, rfl, _, rfl⟩⟩
theorem pe_lst (h : PA X es t) : PE X (.List es pos) (tLst t) := by
  intro pins s σ H Q I hq
  refine wpAny_List_spliced (thn (h pos pins s σ H _ I hq) fun us s1 ⟨xs, H1, I1, r, z, q⟩ => ⟨by rw [← r.length]; exact z, ?_⟩)
  have hf : H1 s1.heap.objs.size = none := I1.hok.fresh (Nat.le_refl _)
  refine ⟨.ref s1.heap.objs.size, upd H1 s1.heap.objs.size (.lst xs), I1.laid (t' := s1.toks) (fun b u e => Heap.get?_push_of_some _ e) (Nat.le_refl _) ?_, rfl, q _ hf⟩
  exact ⟨z, us, 0, r, Heap.get?_push_size _ rfl⟩
end

noncomputable abbrev Sp := List V → Hp → VK → XK → Prop
noncomputable abbrev CXT := List Env → Hp → Shared → XK → Value → Shared → Prop
structure Env0 (P : Program) (w : World) (K : PySem.W.Frag) (mg : Str → Option Value) (base : Heap) (A : Around) (outer : List Env) (s : Shared) (H : Hp) : Prop where
  frames : A.frames = some outer
  mod : Mod K mg base
  bs : ∀ b o, base.get? b = some o → s.heap.get? b = some o ∧ H b = none
  bsz : base.objs.size ≤ s.heap.objs.size
  funs : s.heap.FunFrames base outer
  frf : ∀ b ∈ frs outer, H b = none
  hok : HOk P w H s.heap
  bare : AllBare s.gens
noncomputable def CE (outer : List Env) (P : Program) (w : World) (H : Hp) (s : Shared) (Q : VK) (u : Value) (s' : Shared) : Prop :=
  ∃ v H', s'.os = s.os ∧ AllBare s'.gens ∧ Un (frs outer) [] H H' s.heap s'.heap ∧ HOk P w H' s'.heap ∧ RelV v u ∧ Q v H'
noncomputable def CR (CX : CXT) (outer : List Env) (P : Program) (w : World) (H : Hp) (s : Shared) (Q : VK) (E : XK) (r : Result) (s' : Shared) : Prop :=
  match r with
  | .ok (.ret u) => CE outer P w H s Q u s'
  | .ok _ => False
  | .error e => CX outer H s E e s'
structure FnOk (P : Program) (w : World) (K : PySem.W.Frag) (mg : Str → Option Value) (base : Heap) (CX : CXT) (k : Nat) (f : Addr) (fd : FuncData) (ps : List Str) (sp : Sp) : Prop where
  len : ∀ vs H Q E, sp vs H Q E → vs.length = ps.length
  run : ∀ (A : Around) (outer : List Env) (s : Shared) (H : Hp) (args : Args) (us : List Value) (vs : List V) (Q : VK) (E : XK), Room k A → Env0 P w K mg base A outer s H → BindsTo s fd args (ps.zip us) → Vals vs us → sp vs H Q E →
    codeAny (model P w) A (.call (.ref f) args) (CR CX outer P w H s Q E) s
section
variable {X : Cx} {pins : List (Addr × Obj)} {σ : St} {H : Hp} {s s' : Shared}
theorem Inv.env0 (I : Inv X pins σ H s) : Env0 X.prog X.w X.K X.mg X.base X.A X.stack s H :=
  ⟨I.ok.frames, I.ok.mod, I.bs, Nat.le_trans I.ok.bsz I.sz, I.stack, I.stkFree, I.hok, I.bare⟩
theorem Inv.after {Q : VK} {u : Value} (I : Inv X pins σ H s) (h : CE X.stack X.prog X.w H s Q u s') : EP X pins σ Q u s' := by
  obtain ⟨v, H', os, bare, un, hok, r, q⟩ := h
  obtain ⟨hh, g, d, t, os'⟩ := s'
  obtain rfl : os' = s.os := os
  exact ⟨v, H', I.call (h' := hh) (g' := g) (d' := d) (t' := t) (ch := []) un hok bare (fun b z => absurd z (by simp)), r, q⟩
end

noncomputable def tCall (sp : Sp) (dvs : List V) (E : XK) (t : TA) : TE := fun σ H Q => t σ H fun vs H1 => sp (vs ++ dvs) H1 Q E
noncomputable def Binds (K : PySem.W.Frag) (fd : FuncData) (ps : List Str) (ds : List Value) : Prop :=
  ∀ (s : Shared) (us : List Value), K.In s.heap → (us ++ ds).length = ps.length → BindsTo s fd ⟨us, []⟩ (ps.zip (us ++ ds))
theorem Binds.all {K : PySem.W.Frag} {fd : FuncData} {ps : List Str} (h : ∀ us : List Value, us.length = ps.length → bindArgs fd ⟨us, []⟩ = pure (ps.zip us)) : Binds K fd ps [] := fun s us _ hl => by
  rw [List.append_nil] at hl ⊢
  exact .of_eq (h us hl)
noncomputable def Passes (CX : CXT) (X : Cx) (E : XK) : Prop := ∀ (pins : List (Addr × Obj)) (σ : St) (H : Hp) (s : Shared) (e : Value) (s' : Shared), Inv X pins σ H s → CX X.stack H s E e s' → X.xe e s'

section
variable {X : Cx} {CX : CXT} {k : Nat} {f C : Addr} {fd : FuncData} {ps : List Str} {sp : Sp} {dvs : List V} {ds : List Value} {E : XK} {x m : Str} {p pos apos : Pos} {e o : Expr} {es : List Expr} {ta : TE} {t : TA}
theorem run_fn {pins : List (Addr × Obj)} {σ : St} {H : Hp} {s : Shared} {Q : VK} {us : List Value} {vs : List V} (F : FnOk X.prog X.w X.K X.mg X.base CX k f fd ps sp) (hr : Room k X.A) (hb : Binds X.K fd ps ds) (hd : Vals dvs ds) (hx : Passes CX X E)
    (I : Inv X pins σ H s) (r : Vals vs us) (h : sp (vs ++ dvs) H Q E) : wpAny (model X.prog X.w) X.A (call (.ref f) us) (EP X pins σ Q) X.xe s := by
  have r2 : Vals (vs ++ dvs) (us ++ ds) := r.append hd
  have hl : (us ++ ds).length = ps.length := by rw [← r2.length]; exact F.len _ _ _ _ h
  refine wpAny_call (codeAny_mono (F.run X.A X.stack s H ⟨us, []⟩ (us ++ ds) (vs ++ dvs) Q E hr I.env0 (hb s us I.kIn hl) r2 h) fun r s' hq => ?_)
  cases r with
  | error e => exact hx pins σ H s e s' I hq
  | ok fl =>
    cases fl with
    | ret u => exact I.after hq
    | next => exact False.elim hq
    | brk => exact False.elim hq
    | cont => exact False.elim hq

theorem pe_call (F : FnOk X.prog X.w X.K X.mg X.base CX k f fd ps sp) (hr : Room k X.A) (hg : Gl X x) (hm : X.mg x = some (.ref f)) (hk : PySem.W.keepIn X.K (.ref f) = true) (hb : Binds X.K fd ps ds) (hd : Vals dvs ds) (hx : Passes CX X E)
    (ha : PA X (e :: es) t) (hdb : (x == ("__debug__" : Str)) = false := by decide) (he : starEach (e :: es) X.env = (false, eval e X.env) :: starEach es X.env := by rfl) (hpl : (backTo pos (starEach es X.env)).any (·.1) = false := by rfl) :
    PE X (.Call (.Name x p) (e :: es) [] pos) (tCall sp dvs E t) := by
  intro pins s σ H Q I h
  refine wpAny_Call_Name_kw (ld_glob I hg hm ?_ hdb)
  refine PySem.W.callWith_K (h₀ := X.base) I.ok.mod.kin hk (thn (ha pos pins s σ H _ I h) fun us s1 ⟨vs, H1, I1, r, q⟩ => ⟨I1.kIn, ?_⟩) he hpl
  exact run_fn F hr hb hd hx I1 r q
end

section
variable {X : Cx} {CX : CXT} {k : Nat} {f C : Addr} {fd : FuncData} {ps ks : List Str} {sp : Sp} {E : XK} {x m : Str} {p pos apos kpos : Pos} {e o : Expr} {es : List Expr} {kws : List Keyword} {te ta : TE} {t tk : TA} {nm : Option Str}
variable {g : List Value → List Value → List Value} {gV : List V → List V → List V}
end

structure FnScope (N P : List Str) (sc : Scope) : Prop where
  kind : sc.kind = .function
  co : sc.isCoroutine = false
  gen : sc.isGenerator = false
  nd : N.Nodup
  pre : N.take P.length = P
  par : ∀ x ∈ P, sc.names.lookup x = some .local ∨ sc.names.lookup x = some .cell
  nofree : ∀ y ∈ sc.names, y.2 ≠ .free

theorem bindL_out {kindOf : Str → Option NameKind} {x : Str} : ∀ {binds : List (Str × Value)} {m : Str → Option Value}, (∀ v, (x, v) ∉ binds) → bindL kindOf binds m x = m x
  | [], _, _ => rfl
  | (n, v) :: r, m, h => by
    unfold bindL
    rw [bindL_out fun w hw => h w (List.mem_cons_of_mem _ hw)]
    split
    · have : x ≠ n := by rintro rfl; exact h v List.mem_cons_self
      simp [this]
    · rfl
theorem bindC_out {kindOf : Str → Option NameKind} {x : Str} : ∀ {binds : List (Str × Value)} {m : Str → Option Value}, (∀ v, (x, v) ∉ binds) → bindC kindOf binds m x = m x
  | [], _, _ => rfl
  | (n, v) :: r, m, h => by
    unfold bindC
    rw [bindC_out fun w hw => h w (List.mem_cons_of_mem _ hw)]
    split
    · rfl
    · have : x ≠ n := by rintro rfl; exact h v List.mem_cons_self
      simp [this]
theorem bindL_get {kindOf : Str → Option NameKind} {x : Str} {v : Value} : ∀ {P : List Str} {vs : List Value} {i : Nat} {m : Str → Option Value}, P.Nodup → P[i]? = some x → vs[i]? = some v → kindOf x = some .local →
    bindL kindOf (P.zip vs) m x = some v
  | [], _, _, _, _, h, _, _ => by simp at h
  | _ :: _, [], _, _, _, _, h, _ => by simp at h
  | p :: P, w :: vs, 0, m, nd, h1, h2, hk => by
    simp at h1 h2; subst h1; subst h2
    show bindL kindOf ((p, w) :: P.zip vs) m p = _
    unfold bindL
    rw [bindL_out fun v hv => (List.nodup_cons.mp nd).1 (List.of_mem_zip hv).1, if_pos hk]
    simp
  | p :: P, w :: vs, i + 1, m, nd, h1, h2, hk => by
    show bindL kindOf ((p, w) :: P.zip vs) m x = _
    unfold bindL
    exact bindL_get (i := i) (List.nodup_cons.mp nd).2 (by simpa using h1) (by simpa using h2) hk
theorem bindC_get {kindOf : Str → Option NameKind} {x : Str} {v : Value} : ∀ {P : List Str} {vs : List Value} {i : Nat} {m : Str → Option Value}, P.Nodup → P[i]? = some x → vs[i]? = some v → kindOf x ≠ some .local →
    bindC kindOf (P.zip vs) m x = some v
  | [], _, _, _, _, h, _, _ => by simp at h
  | _ :: _, [], _, _, _, _, h, _ => by simp at h
  | p :: P, w :: vs, 0, m, nd, h1, h2, hk => by
    simp at h1 h2; subst h1; subst h2
    show bindC kindOf ((p, w) :: P.zip vs) m p = _
    unfold bindC
    rw [bindC_out fun v hv => (List.nodup_cons.mp nd).1 (List.of_mem_zip hv).1, if_neg hk]
    simp
  | p :: P, w :: vs, i + 1, m, nd, h1, h2, hk => by
    show bindC kindOf ((p, w) :: P.zip vs) m x = _
    unfold bindC
    exact bindC_get (i := i) (List.nodup_cons.mp nd).2 (by simpa using h1) (by simpa using h2) hk
noncomputable def start (N : List Str) (vs : List V) : St := vs.map some ++ List.replicate (N.length - vs.length) none
noncomputable def cxOf (CX : CXT) (P : Program) (w : World) (K : PySem.W.Frag) (mg : Str → Option Value) (base : Heap) (N : List Str) (qual : Str) (scope : Scope) (f : Addr) (cd : Value) (A : Around) (outer : List Env) (s : Shared) (H : Hp) (E : XK) : Cx where
  prog := P
  w := w
  K := K
  mg := mg
  base := base
  A := A.deeper (envOfC qual scope s.heap.objs.size f cd)
  N := N
  s₀ := s
  H₀ := H
  env := envOfC qual scope s.heap.objs.size f cd
  outer := outer
  stack := envOfC qual scope s.heap.objs.size f cd :: outer
  ex := []
  calm := true
  fn := fun _ => true
  pn := []
  xe := fun e s' => wpAny (model P w) (A.deeper (envOfC qual scope s.heap.objs.size f cd)) (leaving (envOfC qual scope s.heap.objs.size f cd) e) (fun _ s'' => CX outer H s E e s'') (fun e' s'' => CX outer H s E e' s'') s'

theorem cell_has {sc : Scope} {n : Nat} {x : Str} (h : sc.names.lookup x = some .cell) : ∃ c, (cellsFrom n sc.names []).lookup x = some c := by
  have q := PySem.W.cellsFrom_some sc.names n [] (.inl h)
  exact Option.isSome_iff_exists.mp q

theorem inv_start {CX : CXT} {P : Program} {w : World} {K : PySem.W.Frag} {mg : Str → Option Value} {base : Heap} {N ps : List Str} {qual : Str} {scope : Scope} {f : Addr} {cd : Value} {A : Around} {outer : List Env} {s s1 : Shared} {H : Hp} {E : XK} {us : List Value} {vs : List V}
    (S : FnScope N ps scope) (hd : A.handled = none) (e0 : Env0 P w K mg base A outer s H) (hl : vs.length = ps.length) (r : Vals vs us)
    (x : InCallC s s.heap.objs.size (bindL (envOfC qual scope s.heap.objs.size f cd).kindOf (ps.zip us) fun _ => none) (cellsFrom (s.heap.objs.size + 1) scope.names []) (bindC (envOfC qual scope s.heap.objs.size f cd).kindOf (ps.zip us) fun _ => none) s1) :
    Inv (cxOf CX P w K mg base N qual scope f cd A outer s H E) [] (start N vs) H s1 := by
  have hpl : ps.length ≤ N.length := by have := congrArg List.length S.pre; rw [List.length_take] at this; omega
  obtain ⟨h1, tk, rfl, hk⟩ := x.done
  have noA : ∀ b : Addr, b ∉ (cxOf CX P w K mg base N qual scope f cd A outer s H E).ex := fun b z => absurd (show b ∈ ([] : List Addr) from z) (by simp)
  refine ⟨⟨e0.mod, S.kind, rfl, rfl, Nat.le_refl _, fun y z c h1 h2 => ?_, fun y hy => ?_, fun y c _ h => ?_, fun _ => hd, Around.frames_deeper e0.frames, .inr ⟨rfl, rfl⟩, fun b z => absurd z (noA b), e0.bs, e0.bsz, fun b _ _ => noA b, fun b z => absurd z (noA b), e0.funs, e0.frf⟩,
    rfl, e0.bare, Un.kept hk, ⟨_, x.toInCall.ns, fun i y v h1 h2 h3 => ?_⟩, fun y c h => ⟨_, x.cell y c h⟩, e0.hok.fresh (Nat.le_refl _), fun y c h => ?_, fun p hp => absurd (show p ∈ ([] : List (Addr × Obj)) from hp) (by simp), e0.hok.kept hk, ?_⟩
  · exact name_of_addr x.apart (PySem.mem_of_lookup h1) (PySem.mem_of_lookup h2)
  · have hy : scope.names.lookup y = some .cell ∨ scope.names.lookup y = some .free := hy
    rcases hy with hy | hy
    · exact cell_has hy
    · exact absurd rfl (S.nofree _ (PySem.mem_of_lookup hy))
  · exact Nat.le_of_lt (x.above y c (PySem.mem_of_lookup h))
  · have hi : i < vs.length := by
      unfold start at h2
      by_cases hi : i < vs.length
      · exact hi
      · rw [List.getElem?_append_right (by simpa using hi)] at h2
        rw [List.getElem?_replicate] at h2
        split at h2 <;> cases h2
    have ha : vs[i]? = some v := by
      unfold start at h2
      rw [List.getElem?_append_left (by simpa using hi), List.getElem?_map] at h2
      cases e : vs[i]? with
      | none => rw [e] at h2; cases h2
      | some a => rw [e] at h2; cases h2; rfl
    obtain ⟨u, hu, rv⟩ := r.get ha
    have hp : ps[i]? = some y := by
      rw [← S.pre, List.getElem?_take_of_lt (by omega)]; exact h1
    have ndP : ps.Nodup := by rw [← S.pre]; exact S.nd.sublist (List.take_sublist _ _)
    refine ⟨u, rv, ?_⟩
    rcases S.par y (List.mem_of_getElem? hp) with k | k
    · exact .inl ⟨k, bindL_get ndP hp hu k⟩
    · obtain ⟨c, e⟩ := cell_has (n := s.heap.objs.size + 1) k
      refine .inr ⟨.inl k, c, e, ?_⟩
      have q := x.cell y c e
      rw [bindC_get ndP hp hu (by show scope.names.lookup y ≠ _; rw [k]; decide)] at q
      exact q
  · exact e0.hok.fresh (Nat.le_of_lt (x.above y c (PySem.mem_of_lookup h)))
  · unfold start
    show _ = N.length
    rw [List.length_append, List.length_map, List.length_replicate]
    omega
theorem fn_of {CX : CXT} {P : Program} {w : World} {K : PySem.W.Frag} {mg : Str → Option Value} {base : Heap} {k : Nat} {f : Addr} {name qual : Str} {params : Arguments} {body : List Stmt} {scope : Scope} {dV kV doc pm cdv ct oc : Value} {an od : Option Addr}
    {osl : Array (Option Value)} {N ps : List Str} {sp : Sp} (lk : K.lookup f = some ⟨oc, od, .func (PySem.W.fnOf name qual params body scope dV kV doc pm an cdv ct), osl⟩) (hcd : PySem.W.codeIn K cdv qual = true) (S : FnScope N ps scope)
    (len : ∀ vs H Q E, sp vs H Q E → vs.length = ps.length)
    (hbody : ∀ (A : Around) (outer : List Env) (s : Shared) (H : Hp) (vs : List V) (Q : VK) (E : XK), Room k (A.deeper (envOfC qual scope s.heap.objs.size f cdv)) → sp vs H Q E →
      ∃ t, PSs (cxOf CX P w K mg base N qual scope f cdv A outer s H E) body t ∧ t { nx := fun _ H' => Q .non H', rt := Q } (start N vs) H) :
    FnOk P w K mg base CX (k + 1) f (PySem.W.fnOf name qual params body scope dV kV doc pm an cdv ct) ps sp := by
  refine ⟨len, fun A outer s H args us vs Q E hr e0 hb r hsp => ?_⟩
  have hl := len _ _ _ _ hsp
  have KX : K.In s.heap := e0.mod.kin.keeps fun b o e => (e0.bs b o e).1
  have lim : s.heap.NoLimit := e0.mod.nolimit.keeps fun b o e => (e0.bs b o e).1
  have hkind : ∀ y ∈ ps.zip us, scope.names.lookup y.1 = some .local ∨ (scope.names.lookup y.1 = some .cell ∧ ((cellsFrom (s.heap.objs.size + 1) scope.names []).lookup y.1).isSome = true) := fun ⟨n, v⟩ hy => by
    rcases S.par n (List.of_mem_zip hy).1 with q | q
    · exact .inl q
    · exact .inr ⟨q, PySem.W.cellsFrom_some _ _ _ (.inl q)⟩
  refine codeAny_call_function hr.depth (KX _ _ lk) rfl S.co S.gen rfl (PySem.W.codeRec_of KX hcd) (hb _ _ _ _ ?_)
  refine wpAny_newFunctionEnv_cells S.kind hkind fun env he s1 x => ?_
  subst he
  refine ⟨lim.keeps x.toInCall.keep, codeAny_func ?_⟩
  obtain ⟨t, ht, hq⟩ := hbody A outer s H vs Q E (hr.deeper _) hsp
  have I : Inv (cxOf CX P w K mg base N qual scope f cdv A outer s H E) [] (start N vs) H s1 := inv_start S hr.hd e0 hl r x
  refine wpAny_mono (ht [] s1 (start N vs) H _ I hq) (fun fl s' hs => ?_) fun e s' hs => hs
  have fin : ∀ {σ' : St} {H' : Hp} {v : V} {u : Value}, Inv (cxOf CX P w K mg base N qual scope f cdv A outer s H E) [] σ' H' s' → RelV v u → Q v H' → CE outer P w H s Q u s' :=
    fun {σ' H' v u} J rv q => ⟨v, H', J.os, J.bare, J.base, J.hok, rv, q⟩
  cases fl with
  | ret u =>
    obtain ⟨v, σ', H', J, rv, q⟩ := hs
    exact fin J rv q
  | next =>
    obtain ⟨σ', H', J, q⟩ := hs
    exact fin (v := V.non) (u := Value.none) J rfl q
  | brk =>
    obtain ⟨_, _, _, q⟩ := hs
    exact False.elim q
  | cont =>
    obtain ⟨_, _, _, q⟩ := hs
    exact False.elim q
end L2

namespace L2
open PySem PySem.Spec PyProof.Rows
section
variable {X : Cx} {x : Str} {p pos : Pos} {e : Expr} {es : List Expr} {t : TA} {id T : String} {r : List V → Hp → VK → Prop}

noncomputable def tCB (r : List V → Hp → VK → Prop) (t : TA) : TE := fun σ H Q => t σ H fun vs H1 => r vs H1 Q
theorem pe_callB (hc : CallR X (.builtin id) r) (hg : Gl X x) (hm : X.mg x = none) (hv : bootBuiltins x = some (.builtin id)) (ha : PA X (e :: es) t) (hn : x ≠ "__name__" := by decide) (hdb : (x == ("__debug__" : Str)) = false := by decide)
    (he : starEach (e :: es) X.env = (false, eval e X.env) :: starEach es X.env := by rfl) (hpl : (backTo pos (starEach es X.env)).any (·.1) = false := by rfl) : PE X (.Call (.Name x p) (e :: es) [] pos) (tCB r t) := by
  intro pins s σ H Q I h
  refine wpAny_Call_Name_kw (ld_blt I hg hm hv ?_ hn hdb)
  exact PyProof.Rows.callWith_builtin1 (thn (ha pos pins s σ H _ I h) fun us s1 ⟨vs, H1, I1, r1, q1⟩ => hc pins s1 σ H1 vs us Q I1 r1 q1) he hpl
theorem pe_callTy (hc : CallR X (.type T) r) (hg : Gl X x) (hm : X.mg x = none) (hv : bootBuiltins x = some (.type T)) (ha : PA X (e :: es) t) (hn : x ≠ "__name__" := by decide) (hdb : (x == ("__debug__" : Str)) = false := by decide)
    (he : starEach (e :: es) X.env = (false, eval e X.env) :: starEach es X.env := by rfl) (hpl : (backTo pos (starEach es X.env)).any (·.1) = false := by rfl) : PE X (.Call (.Name x p) (e :: es) [] pos) (tCB r t) := by
  intro pins s σ H Q I h
  refine wpAny_Call_Name_kw (ld_blt I hg hm hv ?_ hn hdb)
  exact PyProof.Rows.callWith_type1 (thn (ha pos pins s σ H _ I h) fun us s1 ⟨vs, H1, I1, r1, q1⟩ => hc pins s1 σ H1 vs us Q I1 r1 q1) he hpl
end
end L2

namespace L2
open PySem PySem.Spec PyProof.Rows

section
variable {κ : Type} [DecidableEq κ]
noncomputable def valV (kvs : List (κ × V)) (k : κ) : Option V := (kvs.find? fun kv => decide (kv.1 = k)).map (·.2)
noncomputable def putK (kvs : List (κ × V)) (k : κ) (v : V) : List (κ × V) :=
  if (kvs.any fun kv => decide (kv.1 = k)) = true then kvs.map (fun kv => if kv.1 = k then (kv.1, v) else kv) else kvs ++ [(k, v)]
theorem valV_pos {p : κ × V} {r : List (κ × V)} {k : κ} (e : p.1 = k) : valV (p :: r) k = some p.2 := by simp [valV, List.find?_cons, e]
theorem valV_neg {p : κ × V} {r : List (κ × V)} {k : κ} (e : ¬ p.1 = k) : valV (p :: r) k = valV r k := by simp [valV, List.find?_cons, e]
theorem valV_any (k : κ) : ∀ kvs : List (κ × V), (kvs.any fun kv => decide (kv.1 = k)) = (valV kvs k).isSome
  | [] => rfl
  | p :: r => by
    rw [List.any_cons]
    by_cases e : p.1 = k
    · simp only [valV_pos e, decide_eq_true e, Bool.true_or, Option.isSome_some]
    · rw [valV_neg e, decide_eq_false e, Bool.false_or]; exact valV_any k r
theorem valV_map (k j : κ) (y : V) : ∀ kvs : List (κ × V), valV (kvs.map fun kv => if kv.1 = k then (kv.1, y) else kv) j = (valV kvs j).map fun x => if j = k then y else x
  | [] => rfl
  | p :: r => by
    have ih := valV_map k j y r
    rw [List.map_cons]
    by_cases h : p.1 = k
    · rw [if_pos h]
      by_cases e : p.1 = j
      · rw [valV_pos (p := (p.1, y)) e, valV_pos e, Option.map_some, if_pos (e.symm.trans h)]
      · rw [valV_neg (p := (p.1, y)) e, valV_neg e, ih]
    · rw [if_neg h]
      by_cases e : p.1 = j
      · rw [valV_pos (p := p) e, valV_pos e, Option.map_some, if_neg (fun z => h (e.trans z))]
      · rw [valV_neg (p := p) e, valV_neg e, ih]
theorem valV_snoc (k j : κ) (y : V) : ∀ kvs : List (κ × V), valV kvs k = none → valV (kvs ++ [(k, y)]) j = if j = k then some y else valV kvs j
  | [], _ => by
    by_cases e : k = j
    · rw [if_pos e.symm]; exact valV_pos (p := (k, y)) e
    · rw [if_neg (fun z => e z.symm)]; exact valV_neg (p := (k, y)) e
  | p :: r, hn => by
    rw [List.cons_append]
    have hk : ¬ p.1 = k := fun z => by rw [valV_pos z] at hn; cases hn
    rw [valV_neg hk] at hn
    have ih := valV_snoc k j y r hn
    by_cases e : p.1 = j
    · rw [valV_pos e, valV_pos e, if_neg (fun z => hk (e.trans z))]
    · rw [valV_neg e, valV_neg e, ih]
theorem valV_put (kvs : List (κ × V)) (k j : κ) (y : V) : valV (putK kvs k y) j = if j = k then some y else valV kvs j := by
  unfold putK
  by_cases a : (kvs.any fun kv => decide (kv.1 = k)) = true
  · rw [if_pos a, valV_map]
    rw [valV_any] at a
    by_cases e : j = k
    · obtain ⟨x, hx⟩ := Option.isSome_iff_exists.mp a
      rw [if_pos e, e, hx, Option.map_some, if_pos rfl]
    · rw [if_neg e]
      cases valV kvs j with
      | none => rfl
      | some x => rw [Option.map_some, if_neg e]
  · rw [if_neg a]
    refine valV_snoc k j y kvs ?_
    rw [valV_any] at a
    cases q : valV kvs k with
    | none => rfl
    | some x => rw [q] at a; exact (a rfl).elim
theorem length_putK (kvs : List (κ × V)) (k : κ) (v : V) : (putK kvs k v).length ≤ kvs.length + 1 := by
  unfold putK
  split
  · rw [List.length_map]; omega
  · rw [List.length_append, List.length_cons, List.length_nil]; omega
theorem RelO.isSome_eq {o : Option V} {u : Option Value} (r : RelO o u) : o.isSome = u.isSome := by
  cases o with
  | none => cases u with
    | none => rfl
    | some _ => exact (show False from r).elim
  | some _ => cases u with
    | none => exact (show False from r).elim
    | some _ => rfl
theorem RelO.getD {o : Option V} {u : Option Value} {d : V} {d' : Value} (r : RelO o u) (rd : RelV d d') : RelV (o.getD d) (u.getD d') := by
  cases o with
  | none => cases u with
    | none => exact rd
    | some _ => exact (show False from r).elim
  | some _ => cases u with
    | none => exact (show False from r).elim
    | some _ => exact r
theorem KV.val {kvs : List (κ × V)} {vs : List (κ × Value)} (r : KV kvs vs) (k : κ) : RelO (valV kvs k) (valueAt vs k) := by
  unfold KV at r
  induction r with
  | nil => exact True.intro
  | @cons p q ps qs h t ih =>
    obtain ⟨h1, h2⟩ := h
    by_cases e : p.1 = k
    · have e' : q.1 = k := h1.symm.trans e
      have b : valueAt (q :: qs) k = some q.2 := by simp [valueAt, List.find?_cons, e']
      rw [valV_pos e, b]; exact h2
    · have e' : ¬ q.1 = k := fun z => e (h1.trans z)
      have b : valueAt (q :: qs) k = valueAt qs k := by simp [valueAt, List.find?_cons, e']
      rw [valV_neg e, b]; exact ih
theorem KV.any {kvs : List (κ × V)} {vs : List (κ × Value)} (r : KV kvs vs) (k : κ) : (kvs.any fun kv => decide (kv.1 = k)) = vs.any fun kv => decide (kv.1 = k) := by
  unfold KV at r
  induction r with
  | nil => rfl
  | cons h t ih => rw [List.any_cons, List.any_cons, ih, h.1]
theorem KV.repl {kvs : List (κ × V)} {vs : List (κ × Value)} (r : KV kvs vs) (k : κ) {y : V} {u : Value} (ry : RelV y u) :
    KV (kvs.map fun kv => if kv.1 = k then (kv.1, y) else kv) (vs.map fun kv => if kv.1 = k then (kv.1, u) else kv) := by
  unfold KV at r ⊢
  induction r with
  | nil => exact .nil
  | @cons p q ps qs h t ih =>
    rw [List.map_cons, List.map_cons]
    refine .cons ?_ ih
    obtain ⟨h1, h2⟩ := h
    by_cases e : p.1 = k
    · rw [if_pos e, if_pos (h1.symm.trans e)]; exact ⟨h1, ry⟩
    · rw [if_neg e, if_neg (fun z => e (h1.trans z))]; exact ⟨h1, h2⟩
theorem KV.put {kvs : List (κ × V)} {vs : List (κ × Value)} (r : KV kvs vs) (k : κ) {y : V} {u : Value} (ry : RelV y u) : KV (putK kvs k y) (stored vs k u) := by
  unfold putK stored
  rw [r.any k]
  by_cases e : (vs.any fun kv => decide (kv.1 = k)) = true
  · rw [if_pos e, if_pos e]; exact r.repl k ry
  · rw [if_neg e, if_neg e]; exact Paired.snoc r ⟨rfl, ry⟩
theorem KV.length {kvs : List (κ × V)} {vs : List (κ × Value)} (r : KV kvs vs) : kvs.length = vs.length := Paired.length r
end


theorem kV_is {P : Program} {w : World} {k : Key} {u : Value} (r : RelV (kV k) u) : (mixKind P w).is k u = true := by
  cases k with
  | inl i => obtain ⟨t, e⟩ := (show ∃ t, u = Value.int i t from r); subst e; exact mixKind_int P w i t
  | inr x => obtain ⟨t, e⟩ := (show ∃ t, u = Value.str x t from r); subst e; exact mixKind_str P w x t
theorem items_are {P : Program} {w : World} : ∀ {ks : List Key} {us : List Value}, Vals (ks.map kV) us → ItemsAre (mixKind P w) ks us
  | [], _, r => by rw [List.map_nil] at r; cases r; exact .nil
  | k :: ks, _, r => by
    rw [List.map_cons] at r
    cases r with
    | cons h t => exact .cons (kV_is h) (items_are t)
noncomputable abbrev KT (H : Hp) : List (List Key × V) → List (List Key × Addr × Value) → Prop := Paired fun p q => p.1 = q.1 ∧ H q.2.1 = some (.tup (p.1.map kV)) ∧ RelV p.2 q.2.2
theorem KT.val {H : Hp} {kvs : List (List Key × V)} {xs : List (List Key × Addr × Value)} (r : KT H kvs xs) (k : List Key) : RelO (valV kvs k) ((atKey xs k).map (·.2)) := by
  induction r with
  | nil => exact True.intro
  | @cons p q ps qs h t ih =>
    obtain ⟨h1, _, h2⟩ := h
    by_cases e : p.1 = k
    · have e' : q.1 = k := h1.symm.trans e
      have b : atKey (q :: qs) k = some q.2 := by simp [atKey, List.find?_cons, e']
      rw [valV_pos e, b]; exact h2
    · have e' : ¬ q.1 = k := fun z => e (h1.trans z)
      have b : atKey (q :: qs) k = atKey qs k := by simp [atKey, List.find?_cons, e']
      rw [valV_neg e, b]; exact ih
theorem KT.repl {H : Hp} {kvs : List (List Key × V)} {xs : List (List Key × Addr × Value)} (r : KT H kvs xs) (k : List Key) {y : V} {u : Value} (ry : RelV y u) :
    KT H (kvs.map fun kv => if kv.1 = k then (kv.1, y) else kv) (xs.map (putAt k u)) := by
  induction r with
  | nil => exact .nil
  | @cons p q ps qs h t ih =>
    rw [List.map_cons, List.map_cons]
    refine .cons ?_ ih
    obtain ⟨h1, h2, h3⟩ := h
    unfold putAt
    by_cases e : p.1 = k
    · rw [if_pos e, if_pos (h1.symm.trans e)]; exact ⟨h1, h2, ry⟩
    · rw [if_neg e, if_neg (fun z => e (h1.trans z))]; exact ⟨h1, h2, h3⟩
theorem KT.put {H : Hp} {kvs : List (List Key × V)} {xs : List (List Key × Addr × Value)} (r : KT H kvs xs) (k : List Key) {b : Addr} {y : V} {u : Value} (hb : H b = some (.tup (k.map kV))) (ry : RelV y u) :
    KT H (putK kvs k y) (storedH xs k b u) := by
  have e : (kvs.any fun kv => decide (kv.1 = k)) = (atKey xs k).isSome := by
    rw [valV_any, (r.val k).isSome_eq, Option.isSome_map]
  unfold putK storedH
  rw [e]
  by_cases q : (atKey xs k).isSome = true
  · rw [if_pos q, if_pos q]; exact r.repl k ry
  · rw [if_neg q, if_neg q]; exact Paired.snoc r ⟨rfl, hb, ry⟩
theorem KT.keeps {H H' : Hp} {kvs : List (List Key × V)} {xs : List (List Key × Addr × Value)} (r : KT H kvs xs) (ht : ∀ b ys, H b = some (.tup ys) → H' b = some (.tup ys)) : KT H' kvs xs :=
  Paired.mapP r fun _ _ z => ⟨z.1, ht _ _ z.2.1, z.2.2⟩

section
variable {P : Program} {w : World} {H : Hp} {h : Heap} {a : Addr}
theorem rd_of {u : HO} (ok : HOk P w H h) (e : Rd H a u) : ObjOk P w H h a u := e.ok ok
theorem dk_rd {kvs : List (Key × V)} (ok : HOk P w H h) (e : Rd H a (.dK kvs)) : kvs.length ≤ sizeLine ∧ (a == sysModules) = false ∧ ∃ vs, KV kvs vs ∧ h.DictOf (mixKind P w) a vs :=
  show ObjOk P w H h a (.dK kvs) from rd_of ok e
theorem dk_of {kvs : List (Key × V)} (ok : HOk P w H h) (e : H a = some (.dK kvs)) : kvs.length ≤ sizeLine ∧ (a == sysModules) = false ∧ ∃ vs, KV kvs vs ∧ h.DictOf (mixKind P w) a vs := dk_rd ok (.inl e)
theorem key_of {ks : List Key} (ok : HOk P w H h) (e : H a = some (.tup (ks.map kV))) : (tupleKind (mixKind P w)).is h ks a := by
  obtain ⟨_, its, r, o, h1, h2, n, h3⟩ := (show ObjOk P w H h a (.tup (ks.map kV)) from ok a _ e)
  exact ⟨o, its.toArray, n, h1, h2, h3, by simpa using items_are r⟩
theorem dt_rd {kvs : List (List Key × V)} (ok : HOk P w H h) (e : Rd H a (.dT kvs)) : kvs.length ≤ sizeLine ∧ (a == sysModules) = false ∧
    ∃ xs, KT H kvs xs ∧ h.DictOfH (tupleKind (mixKind P w)) a xs := by
  obtain ⟨z, y, xs, r, o, es, ep, h1, h2, h3, h4, h5⟩ := (show ObjOk P w H h a (.dT kvs) from rd_of ok e)
  refine ⟨z, y, xs, r, o, es, ep, h1, h2, h3, h4, fun x hx => ?_, h5⟩
  have all : ∀ {l : List (List Key × V)} {m : List (List Key × Addr × Value)}, KT H l m → ∀ x ∈ m, (tupleKind (mixKind P w)).is h x.1 x.2.1 := by
    intro l m q
    induction q with
    | nil => intro x hx; exact nomatch hx
    | @cons p q ps qs hq t ih =>
      intro x hx
      rcases List.mem_cons.mp hx with e | hx
      · subst e
        exact key_of ok (by rw [← hq.1]; exact hq.2.1)
      · exact ih x hx
  exact all r x hx
theorem dt_of {kvs : List (List Key × V)} (ok : HOk P w H h) (e : H a = some (.dT kvs)) : kvs.length ≤ sizeLine ∧ (a == sysModules) = false ∧
    ∃ xs, KT H kvs xs ∧ h.DictOfH (tupleKind (mixKind P w)) a xs := dt_rd ok (.inl e)
end
noncomputable def DGet (H : Hp) (a : Addr) (y : V) (r : Option V) : Prop :=
  (∃ kvs k, Rd H a (.dK kvs) ∧ y = kV k ∧ r = valV kvs k) ∨ ∃ kvs k b, Rd H a (.dT kvs) ∧ y = .ref b ∧ H b = some (.tup (k.map kV)) ∧ r = valV kvs k
noncomputable def DPut (H : Hp) (a : Addr) (y v : V) (H' : Hp) : Prop :=
  (∃ kvs k, H a = some (.dK kvs) ∧ y = kV k ∧ kvs.length < sizeLine ∧ H' = upd H a (.dK (putK kvs k v))) ∨
  ∃ kvs k b, H a = some (.dT kvs) ∧ y = .ref b ∧ H b = some (.tup (k.map kV)) ∧ kvs.length < sizeLine ∧ H' = upd H a (.dT (putK kvs k v))
theorem DGet.k {H : Hp} {a : Addr} {kvs : List (Key × V)} {k : Key} (e : H a = some (.dK kvs)) : DGet H a (kV k) (valV kvs k) := .inl ⟨kvs, k, .inl e, rfl, rfl⟩
theorem DPut.k {H : Hp} {a : Addr} {kvs : List (Key × V)} {k : Key} {v : V} (e : H a = some (.dK kvs)) (hl : kvs.length < sizeLine) : DPut H a (kV k) v (upd H a (.dK (putK kvs k v))) := .inl ⟨kvs, k, e, rfl, hl, rfl⟩
section
variable {X : Cx} {pins : List (Addr × Obj)} {σ : St} {H : Hp} {s : Shared} {a : Addr} {y v : V} {u r : Value} {o : Option V} {A : Around} {E : Value → Shared → Prop}

theorem Inv.big (I : Inv X pins σ H s) : sysModules < s.heap.objs.size := by
  have h : mainGlobals < s.heap.objs.size := (I.mod.glob.keeps I.bk).lt
  exact Nat.lt_trans (by decide) h
theorem d_getItem {Q : Value → Shared → Prop} (hu : A.units + 1 < cLine) (I : Inv X pins σ H s) (g : DGet H a y (some v)) (ry : RelV y u) (h : ∀ w' s', Inv X pins σ H s' → RelV v w' → Q w' s') :
    wpAny (model X.prog X.w) A (getItem (.ref a) u) Q E s := by
  rcases g with ⟨kvs, k, e, ey, l⟩ | ⟨kvs, k, b, e, ey, eb, l⟩
  · subst ey
    obtain ⟨z, hd, vs, rel, dd⟩ := dk_rd I.hok e
    obtain ⟨w', hw, rw'⟩ := RelO.some_of (v := v) (o := valueAt vs k) (by rw [l]; exact rel.val k)
    exact wpAny_getItem_of (kV_is ry) dd.mapOf hw (h w' _ (I.tok _) rw')
  · subst ey
    cases (show u = Value.ref b from ry)
    obtain ⟨z, hd, xs, rel, dd⟩ := dt_rd I.hok e
    obtain ⟨w', hw, rw'⟩ := RelO.some_of (v := v) (o := (atKey xs k).map (·.2)) (by rw [l]; exact rel.val k)
    obtain ⟨p, hp, hp2⟩ := Option.map_eq_some_iff.mp hw
    refine wpAny_getItem_heap (tupleKind_room_in1 hu) (key_of I.hok eb) dd hp ?_
    rw [hp2]
    exact h w' _ (I.tok _) rw'
theorem d_in {Q : Value → Shared → Prop} (hu : A.units + 1 < cLine) (I : Inv X pins σ H s) (g : DGet H a y o) (ry : RelV y u) (h : ∀ s', Inv X pins σ H s' → Q (.bool o.isSome) s') :
    wpAny (model X.prog X.w) A (compareOp .In u (.ref a)) Q E s := by
  rcases g with ⟨kvs, k, e, ey, l⟩ | ⟨kvs, k, b, e, ey, eb, l⟩
  · subst ey
    obtain ⟨z, hd, vs, rel, dd⟩ := dk_rd I.hok e
    refine wpAny_in_of (kV_is ry) hd dd.mapOf ?_
    rw [← (rel.val k).isSome_eq, ← l]
    exact h _ (I.tok _)
  · subst ey
    cases (show u = Value.ref b from ry)
    obtain ⟨z, hd, xs, rel, dd⟩ := dt_rd I.hok e
    refine wpAny_in_heap (tupleKind_room_in1 hu) (key_of I.hok eb) hd dd ?_
    have q := (rel.val k).isSome_eq
    rw [Option.isSome_map] at q
    rw [← q, ← l]
    exact h _ (I.tok _)
theorem d_notIn {Q : Value → Shared → Prop} (hu : A.units + 1 < cLine) (I : Inv X pins σ H s) (g : DGet H a y o) (ry : RelV y u) (h : ∀ s', Inv X pins σ H s' → Q (.bool (!o.isSome)) s') :
    wpAny (model X.prog X.w) A (compareOp .NotIn u (.ref a)) Q E s := by
  rcases g with ⟨kvs, k, e, ey, l⟩ | ⟨kvs, k, b, e, ey, eb, l⟩
  · subst ey
    obtain ⟨z, hd, vs, rel, dd⟩ := dk_rd I.hok e
    refine wpAny_notIn_of (kV_is ry) hd dd.mapOf ?_
    rw [← (rel.val k).isSome_eq, ← l]
    exact h _ (I.tok _)
  · subst ey
    cases (show u = Value.ref b from ry)
    obtain ⟨z, hd, xs, rel, dd⟩ := dt_rd I.hok e
    refine wpAny_notIn_heap (tupleKind_room_in1 hu) (key_of I.hok eb) hd dd ?_
    have q := (rel.val k).isSome_eq
    rw [Option.isSome_map] at q
    rw [← q, ← l]
    exact h _ (I.tok _)
theorem d_write {h' : Heap} {t' : Nat} {ob : HO} (I : Inv X pins σ H s) (mu : Mut (H a)) (hs : Heap.SameBut a s.heap h') (he : ∃ q, h'.get? a = some q) (new : ObjOk X.prog X.w (upd H a ob) h' a ob) :
    Inv X pins σ (upd H a ob) { s with heap := h', toks := t' } :=
  I.write (x := a) (e := a) mu (.inl rfl) (fun b q hb z => (hs.2 b hb).trans z) he new
theorem dk_new {P : Program} {w : World} {H' : Hp} {h' : Heap} {kvs : List (Key × V)} {vs : List (Key × Value)} (z : kvs.length ≤ sizeLine) (hd : (a == sysModules) = false) (rel : KV kvs vs) (dd : h'.DictOf (mixKind P w) a vs) :
    ObjOk P w H' h' a (.dK kvs) := ⟨z, hd, vs, rel, dd⟩
theorem d_setItem {H' : Hp} {Q : Unit → Shared → Prop} (hu : A.units + 1 < cLine) (I : Inv X pins σ H s) (g : DPut H a y v H') (ry : RelV y u) (rv : RelV v r) (h : ∀ s', Inv X pins σ H' s' → Q () s') :
    wpAny (model X.prog X.w) A (setItem (.ref a) u r) Q E s := by
  rcases g with ⟨kvs, k, e, ey, l, eH⟩ | ⟨kvs, k, b, e, ey, eb, l, eH⟩
  · subst ey eH
    obtain ⟨z, hd, vs, rel, dd⟩ := dk_of I.hok e
    have hz : vs.length ≤ sizeLine := by rw [← rel.length]; exact z
    have hl : (putK kvs k v).length ≤ sizeLine := by have := length_putK kvs k v; omega
    refine wpAny_setItem_pairs (hsz := hz) (kV_is ry) dd fun h' dd' hs => h _ ?_
    have he : ∃ q, h'.get? a = some q := let ⟨q, _, _, hq, _⟩ := dd'; ⟨q, hq⟩
    exact d_write I (by rw [e]; exact True.intro) hs he (dk_new hl hd (rel.put k rv) dd')
  · subst ey eH
    cases (show u = Value.ref b from ry)
    obtain ⟨z, hd, xs, rel, dd⟩ := dt_of I.hok e
    have hz : xs.length ≤ sizeLine := by rw [← Paired.length rel]; exact z
    have hl : (putK kvs k v).length ≤ sizeLine := by have := length_putK kvs k v; omega
    refine wpAny_setItem_heap (hsz := hz) (tupleKind_room_in1 hu) (key_of I.hok eb) dd fun h' dd' hs => h _ ?_
    obtain ⟨q, es, ep, hq, h2, h3, h4, _, h5⟩ := dd'
    refine d_write I (by rw [e]; exact True.intro) hs ⟨q, hq⟩ ⟨hl, hd, _, (rel.put k eb rv).keeps fun c ys ec => ?_, q, es, ep, hq, h2, h3, h4, h5⟩
    rw [upd_ne (ne_of ec e (fun z => nomatch z))]
    exact ec
end

section
variable {X : Cx} {pins : List (Addr × Obj)} {σ : St} {H : Hp} {s : Shared} {a : Addr} {kvs : List (Key × V)} {k : Key} {u : Value} {A : Around} {E : Value → Shared → Prop}
end


noncomputable def NoSl (i : Expr) : Prop := ∀ ov iv, subscripted i false ov iv = operate [ov, iv] (getItem ov iv)
theorem subD_of {prog : Program} {w : World} {A : Around} {E : Value → Shared → Prop} {s : Shared} {env : Env} {value slice : Expr} {pos : Pos} {T id : String} {Q : Value → Shared → Prop}
    (hl : typeLookup (.type T) "__getitem__" = pure (some (.builtin id))) (hs : NoSl slice)
    (h : wpAny (model prog w) A (eval value env) (fun o s₁ => wpAny (model prog w) A (eval slice env) (fun i s₂ => s₂.TypeIs o T ∧ wpAny (model prog w) A (getItem o i) Q E s₂) E s₁) E s) :
    wpAny (model prog w) A (eval (.Subscript value slice pos) env) Q E s := by
  refine Subscript_ (wpAny_mono h (fun o s₁ h₁ => wpAny_mono h₁ (fun i s₂ h₂ => ?_) fun _ _ x => x) fun _ _ x => x)
  obtain ⟨hT, h₂⟩ := h₂
  unfold subscriptTail
  refine wpAny_bind ?_
  rw [getitemInPython_of_ne hT.not_modules]
  refine wpAny_bind (wpAny_specialOf hT hl ?_)
  have fin : wpAny (model prog w) A (subscripted slice false o i) (fun r s₃ => wpAny (model prog w) A (letTemporaryGo value o r >>= fun _ => pure r) Q E s₃) E s₂ := by
    rw [hs o i]
    exact wpAny_operating (wpAny_mono h₂ (fun r s₃ h₃ => wpAny_bind (wpAny_letTemporaryGo (wpAny_pure h₃))) fun _ _ x => x)
  first
    | exact wpAny_pure (wpAny_bind fin)
    | exact wpAny_bind (wpAny_pure (wpAny_bind fin))
    | exact wpAny_bind fin

theorem dict_typeIs {X : Cx} {pins : List (Addr × Obj)} {σ : St} {H : Hp} {s : Shared} {a : Addr} {y : V} {o : Option V} (I : Inv X pins σ H s) (g : DGet H a y o) : s.TypeIs (.ref a) "dict" := by
  rcases g with ⟨kvs, k, e, _, _⟩ | ⟨kvs, k, b, e, _, _, _⟩
  · obtain ⟨_, _, vs, _, dd⟩ := dk_rd I.hok e
    exact dd.typeIs
  · obtain ⟨_, _, xs, _, dd⟩ := dt_rd I.hok e
    exact dd.typeIs
noncomputable def tDGet (td ty : TE) : TE := fun σ H Q => td σ H fun x H1 => ty σ H1 fun y H2 => Ex2_3 (fun a v => x = .ref a) (fun a v => DGet H2 a y (some v)) (fun a v => Q v H2)
noncomputable def tDIn (ty td : TE) : TE := fun σ H Q => ty σ H fun y H1 => td σ H1 fun x H2 => Ex2_3 (fun a o => x = .ref a) (fun a o => DGet H2 a y o) (fun a o => Q (.bl o.isSome) H2)
noncomputable def tDNotIn (ty td : TE) : TE := fun σ H Q => ty σ H fun y H1 => td σ H1 fun x H2 => Ex2_3 (fun a o => x = .ref a) (fun a o => DGet H2 a y o) (fun a o => Q (.bl (!o.isSome)) H2)
noncomputable def sDPut (td ty tv : TE) : TS := fun D σ H => tv σ H fun v H1 => td σ H1 fun x H2 => ty σ H2 fun y H3 => ∃ a H4, x = .ref a ∧ DPut H3 a y v H4 ∧ D.nx σ H4
section
variable {X : Cx} {o i e value : Expr} {pos pos' tpos : Pos} {td ty tv : TE}
theorem pe_dget (hu : X.A.units + 1 < cLine) (ho : PE X o td) (hi : PE X i ty) (hs : NoSl i) : PE X (.Subscript o i pos) (tDGet td ty) := by
  intro pins s σ H Q I h
  refine subD_of PySem.F.slot_dict_getitem.lookup hs (thn (ho pins s σ H _ I h) fun u s1 ⟨x, H1, I1, rx, q1⟩ => thn (hi pins s1 σ H1 _ I1 q1) fun iv s2 ⟨y, H2, I2, ry, a, v, ex, g, q2⟩ => ?_)
  subst ex
  obtain rfl : u = Value.ref a := rx
  exact ⟨dict_typeIs I2 g, d_getItem hu I2 g ry fun w' s3 I3 rw' => ⟨v, H2, I3, rw', q2⟩⟩
theorem pc_din (hu : X.A.units + 1 < cLine) (hi : PE X i ty) (ho : PE X o td) : PC X .In i o (tDIn ty td) := by
  intro pins s σ H Q I h
  refine thn (hi pins s σ H _ I h) fun iv s1 ⟨y, H1, I1, ry, q1⟩ => thn (ho pins s1 σ H1 _ I1 q1) fun u s2 ⟨x, H2, I2, rx, a, ov, ex, g, q2⟩ => ?_
  subst ex
  obtain rfl : u = Value.ref a := rx
  exact d_in hu I2 g ry fun s3 I3 => ⟨.bl ov.isSome, H2, I3, rfl, q2⟩
theorem pc_dnotin (hu : X.A.units + 1 < cLine) (hi : PE X i ty) (ho : PE X o td) : PC X .NotIn i o (tDNotIn ty td) := by
  intro pins s σ H Q I h
  refine thn (hi pins s σ H _ I h) fun iv s1 ⟨y, H1, I1, ry, q1⟩ => thn (ho pins s1 σ H1 _ I1 q1) fun u s2 ⟨x, H2, I2, rx, a, ov, ex, g, q2⟩ => ?_
  subst ex
  obtain rfl : u = Value.ref a := rx
  exact d_notIn hu I2 g ry fun s3 I3 => ⟨.bl (!ov.isSome), H2, I3, rfl, q2⟩
theorem ps_dput (hu : X.A.units + 1 < cLine) (ho : PE X o td) (hi : PE X i ty) (hv : PE X value tv) (hs : swapsWith value (some (.Subscript o i pos')) pos.line X.env = pure false) :
    PS X (.Assign [.Subscript o i pos'] value pos) (sDPut td ty tv) := by
  intro pins s σ H D I h
  refine wpAny_Assign_Subscript (thn (hv pins s σ H _ I h) fun r s1 ⟨v, H1, I1, rv, q1⟩ => thn (ho pins s1 σ H1 _ I1 q1) fun u s2 ⟨x, H2, I2, rx, q2⟩ => thn (hi pins s2 σ H2 _ I2 q2) fun iv s3 ⟨y, H3, I3, ry, a, H4, ex, g, q3⟩ => ?_) hs
  subst ex
  obtain rfl : u = Value.ref a := rx
  exact d_setItem hu I3 g ry rv fun s4 I4 => ⟨σ, H4, I4, q3⟩
end


theorem dk_empty {P : Program} {w : World} {H : Hp} (h : Heap) (hb : sysModules < h.objs.size) : ObjOk P w H (h.push { cls := .type "dict", data := .dict #[] }) h.objs.size (.dK []) :=
  ⟨Nat.zero_le _, beq_eq_false_iff_ne.mpr (Ne.symm (Nat.ne_of_lt hb)), [], .nil, Heap.DictOf.new h⟩
noncomputable def tDNewK : TE := fun _ H Q => ∀ p, H p = none → Q (.ref p) (upd H p (.dK []))
section
variable {X : Cx} {pos : Pos}
theorem pe_dnewK : PE X (.Dict [] [] pos) tDNewK := fun pins s σ H Q I h =>
  wpAny_Dict_empty ⟨.ref s.heap.objs.size, _, I.laid (a := s.heap.objs.size) (o := .dK []) (t' := s.toks) (fun _ _ q => Heap.get?_push_of_some _ q) (Nat.le_refl _) (dk_empty s.heap I.big), rfl, h _ (I.hok.fresh (Nat.le_refl _))⟩
end
noncomputable def tPairs : List (TE × TE) → St → Hp → (List (V × V) → Hp → Prop) → Prop
  | [], _, H, Q => Q [] H
  | (tk, tv) :: r, σ, H, Q => tk σ H fun x H1 => tv σ H1 fun y H2 => tPairs r σ H2 fun ps H3 => Q ((x, y) :: ps) H3
noncomputable abbrev VV : List (V × V) → List (Value × Value) → Prop := Paired fun p q => RelV p.1 q.1 ∧ RelV p.2 q.2
noncomputable def PPs (X : Cx) (pos : Pos) (keys : List (Option Expr)) (values : List Expr) (trs : List (TE × TE)) : Prop :=
  ∀ (pins : List (Addr × Obj)) (s : Shared) (σ : St) (H : Hp) (Q : List (V × V) → Hp → Prop), Inv X pins σ H s → tPairs trs σ H Q →
    wpAny (model X.prog X.w) X.A (evalPairs (pairTrees keys values X.env pos)) (fun vs s' => ∃ ps H', Inv X pins σ H' s' ∧ VV ps vs ∧ Q ps H') X.xe s
theorem pps_nil {X : Cx} {pos : Pos} : PPs X pos [] [] [] := fun pins s σ H Q I h => pairTrees_nil_walk ⟨[], H, I, .nil, h⟩
theorem pps_cons {X : Cx} {pos : Pos} {k v : Expr} {ks : List (Option Expr)} {vs : List Expr} {tk tv : TE} {trs : List (TE × TE)} (hk : PE X k tk) (hv : PE X v tv) (hr : PPs X pos ks vs trs) :
    PPs X pos (some k :: ks) (v :: vs) ((tk, tv) :: trs) := fun pins s σ H Q I h =>
  pairTrees_cons_walk (thn (hk pins s σ H _ I h) fun u s1 ⟨x, H1, I1, rx, q1⟩ => thn (hv pins s1 σ H1 _ I1 q1) fun w2 s2 ⟨y, H2, I2, ry, q2⟩ =>
    thn (hr pins s2 σ H2 _ I2 q2) fun ws s3 ⟨ps, H3, I3, rel, q3⟩ => ⟨(x, y) :: ps, H3, I3, .cons ⟨rx, ry⟩ rel, q3⟩)

noncomputable def mergeK (kvs more : List (Key × V)) : List (Key × V) := more.foldl (fun acc kv => putK acc kv.1 kv.2) kvs
theorem KV.merge : ∀ {more : List (Key × V)} {rs : List (Key × Value)} {kvs : List (Key × V)} {vs : List (Key × Value)}, KV more rs → KV kvs vs → KV (mergeK kvs more) (merged vs rs) := by
  intro more rs kvs vs r
  unfold KV at r
  induction r generalizing kvs vs with
  | nil => intro q; exact q
  | @cons p q ps qs h t ih =>
    intro r0
    have e : KV (putK kvs p.1 p.2) (stored vs q.1 q.2) := by
      have := r0.put p.1 h.2
      rw [← h.1]; exact this
    exact ih e
theorem length_mergeK : ∀ (more kvs : List (Key × V)), (mergeK kvs more).length ≤ kvs.length + more.length
  | [], kvs => by show kvs.length ≤ kvs.length + 0; omega
  | p :: r, kvs => by
    have h1 := length_mergeK r (putK kvs p.1 p.2)
    have h2 := length_putK kvs p.1 p.2
    show (mergeK (putK kvs p.1 p.2) r).length ≤ _
    rw [List.length_cons]; omega
theorem carries_of {P : Program} {w : World} : ∀ {kvs : List (Key × V)} {ws : List (Value × Value)}, VV (kvs.map fun kv => (kV kv.1, kv.2)) ws → ∃ rs, Carries (mixKind P w) ws rs ∧ KV kvs rs
  | [], _, r => by rw [List.map_nil] at r; cases r; exact ⟨[], True.intro, .nil⟩
  | p :: kvs, _, r => by
    rw [List.map_cons] at r
    cases r with
    | @cons a b as bs h t =>
      obtain ⟨rs, c, q⟩ := carries_of (P := P) (w := w) t
      obtain ⟨b1, b2⟩ := b
      exact ⟨(p.1, b2) :: rs, ⟨kV_is h.1, rfl, c⟩, .cons ⟨rfl, h.2⟩ q⟩
noncomputable def tDisp (trs : List (TE × TE)) : TE := fun σ H Q => ∀ p, H p = none → tPairs trs σ (upd H p (.dK [])) fun ps H2 => H2 p = some (.dK []) ∧ ∃ kvs : List (Key × V), ps = kvs.map (fun kv => (kV kv.1, kv.2)) ∧ kvs.length ≤ 15 ∧ Q (.ref p) (upd H2 p (.dK (mergeK [] kvs)))
theorem pe_disp {X : Cx} {pos : Pos} {keys : List (Option Expr)} {values : List Expr} {trs : List (TE × TE)} (h : PPs X pos keys values trs) (hall : keys.all (·.isSome) = true) (hl : keys.length = values.length) (h0 : keys ≠ [])
    (h15 : keys.length ≤ 15) : PE X (.Dict keys values pos) (tDisp trs) := by
  intro pins s σ H Q I q
  have hn := I.hok.fresh (Nat.le_refl s.heap.objs.size)
  have I1 := I.laid (a := s.heap.objs.size) (o := .dK []) (h' := s.heap.push { cls := .type "dict", data := .dict #[] }) (t' := s.toks) (fun _ _ q => Heap.get?_push_of_some _ q) (Nat.le_refl _) (dk_empty s.heap I.big)
  refine wpAny_Dict_walk (knd := mixKind X.prog X.w) hall hl h0 h15 (thn (h pins _ σ _ _ I1 (q _ hn)) fun ws s2 ⟨ps, H2, I2, rel, e, kvs, ep, lk, q2⟩ => ?_)
  subst ep
  obtain ⟨rs, c, rk⟩ := carries_of (P := X.prog) (w := X.w) rel
  obtain ⟨z, hd, vs0, r0, dd⟩ := dk_of I2.hok e
  cases r0
  refine ⟨rs, c, dd, fun h' dd' hs => ⟨.ref s.heap.objs.size, _, ?_, rfl, q2⟩⟩
  have hz : (mergeK [] kvs).length ≤ sizeLine := by
    have h1 := length_mergeK kvs []
    rw [List.length_nil] at h1
    rw [sizeLine_eq]; omega
  have he : ∃ q, h'.get? s.heap.objs.size = some q := let ⟨q, _, _, hq, _⟩ := dd'; ⟨q, hq⟩
  exact d_write I2 (by rw [e]; exact True.intro) hs he (dk_new hz hd (rk.merge .nil) dd')


structure M2 (X : Cx) (o : Expr) (m : Str) (apos : Pos) (e f : Expr) (cpos : Pos) : Prop where
  base : attributeBase o m X.env (eval o X.env) = eval o X.env
  few : ((backTo cpos (starEach [e, f] X.env)).all (fun x => !x.1) && (backToKw cpos (keywordEach [] X.env)).all (fun x => x.1.isSome)
    && decide (([e, f] : List Expr).length + ([] : List Keyword).length + (if ([] : List Keyword).isEmpty then 0 else 1) < 30)) = true
  line : (apos.endLine == cpos.line) = true
  trees : backTo cpos (starEach [e, f] X.env) = [(false, eval e X.env), (false, eval f X.env)]
noncomputable def IsD (H : Hp) (a : Addr) : Prop := (∃ kvs, Rd H a (.dK kvs)) ∨ ∃ kvs, Rd H a (.dT kvs)
theorem isD_at {X : Cx} {pins : List (Addr × Obj)} {σ : St} {H : Hp} {s : Shared} {a : Addr} (I : Inv X pins σ H s) (d : IsD H a) :
    s.TypeIs (.ref a) "dict" ∧ (∀ b, Value.ref a = .ref b → ∃ ob, s.heap.get? b = some ob ∧ ob.dict = none) ∧ (a == sysModules) = false := by
  rcases d with ⟨kvs, e⟩ | ⟨kvs, e⟩
  · obtain ⟨_, hd, vs, _, dd⟩ := dk_rd I.hok e
    refine ⟨dd.typeIs, fun b q => ?_, hd⟩
    cases q
    obtain ⟨ob, _, _, h1, h2, _⟩ := dd
    exact ⟨ob, h1, h2.2.1⟩
  · obtain ⟨_, hd, xs, _, dd⟩ := dt_rd I.hok e
    refine ⟨dd.typeIs, fun b q => ?_, hd⟩
    cases q
    obtain ⟨ob, _, _, h1, h2, _⟩ := dd
    exact ⟨ob, h1, h2.2.1⟩

section
variable {X : Cx} {pins : List (Addr × Obj)} {σ : St} {H : Hp} {s : Shared} {a : Addr} {y d : V} {u r : Value} {o : Option V} {A : Around} {E : Value → Shared → Prop}
theorem d_get2 {Q : Value → Shared → Prop} (hu : A.units + 1 < cLine) (I : Inv X pins σ H s) (g : DGet H a y o) (ry : RelV y u) (rd : RelV d r) (h : ∀ w' s', Inv X pins σ H s' → RelV (o.getD d) w' → Q w' s') :
    wpAny (model X.prog X.w) A (call (.builtin "dict.get") [.ref a, u, r]) Q E s := by
  rcases g with ⟨kvs, k, e, ey, l⟩ | ⟨kvs, k, b, e, ey, eb, l⟩
  · subst ey
    obtain ⟨z, hd, vs, rel, dd⟩ := dk_rd I.hok e
    refine call_meetsIn PySem.F.slot_dict_get dd.typeIs PySem.F.entry_dict_get (PySem.F.args_dict_get_3 _ _ _) (meets_dict_get_default (mixKind X.prog X.w) a (kV_is ry) hd r) ⟨_, dd.mapOf, h _ _ (I.tok _) ?_⟩
    rw [l]
    exact (rel.val k).getD rd
  · subst ey
    cases (show u = Value.ref b from ry)
    obtain ⟨z, hd, xs, rel, dd⟩ := dt_rd I.hok e
    refine call_meetsIn PySem.F.slot_dict_get dd.typeIs PySem.F.entry_dict_get (PySem.F.args_dict_get_3 _ _ _) (meetsH_dict_get_default (tupleKind (mixKind X.prog X.w)) a b hd r) ⟨tupleKind_room_in1 hu, k, xs, key_of I.hok eb, dd, h _ _ (I.tok _) ?_⟩
    rw [l]
    exact (rel.val k).getD rd
end

noncomputable def tDGet2 (td ty tx : TE) : TE := fun σ H Q => td σ H fun x H1 => Ex1_3 (fun a => x = .ref a) (fun a => IsD H1 a) (fun a => ty σ H1 fun y H2 => tx σ H2 fun z H3 => ∃ o, DGet H3 a y o ∧ Q (o.getD z) H3)
section
variable {X : Cx} {o e f : Expr} {apos cpos : Pos} {td ty tx : TE}
theorem pe_dget2 (hu : X.A.units + 1 < cLine) (ho : PE X o td) (he : PE X e ty) (hf : PE X f tx) (m : M2 X o "get" apos e f cpos) : PE X (.Call (.Attribute o "get" apos) [e, f] [] cpos) (tDGet2 td ty tx) := by
  intro pins s σ H Q I h
  refine wpAny_Call_method m.base m.few m.line PySem.F.plainAttrs_dict PySem.F.slot_dict_get PySem.F.type_dict_get (thn (ho pins s σ H _ I h) fun u s1 ⟨x, H1, I1, rx, a, ex, d, q1⟩ => ?_)
  subst ex
  obtain rfl : u = Value.ref a := rx
  obtain ⟨t1, t2, _⟩ := isD_at I1 d
  refine ⟨t1, t2, ?_⟩
  rw [m.trees]
  refine Calls.callWith_builtin rfl (Calls.evalArgs_plain (Calls.spliced_cons (thn (he pins s1 σ H1 _ I1 q1) fun iv s2 ⟨y, H2, I2, ry, q2⟩ =>
    Calls.spliced_cons (thn (hf pins s2 σ H2 _ I2 q2) fun fv s3 ⟨z, H3, I3, rz, ov, g, q3⟩ => Calls.spliced_nil ?_))))
  exact d_get2 hu I3 g ry rz fun w' s4 I4 rw' => ⟨_, H3, I4, rw', q3⟩
end

section
variable {X : Cx} {pins : List (Addr × Obj)} {σ : St} {H : Hp} {s : Shared} {a : Addr} {kvs : List (Key × V)} {A : Around} {E : Value → Shared → Prop}
end


section
variable {X : Cx} {pins : List (Addr × Obj)} {σ : St} {H : Hp} {s : Shared} {a : Addr} {y : V} {u : Value} {A : Around} {E : Value → Shared → Prop}
end
end L2

namespace HT
open PySem PyProof.Rows
section
open PySem.SeqAt
open PySem.AutoSeq1 (wpAny_loadPart')
open PySem.MeetsSeq PySem.MeetsSeq2 PySem.MeetsSeq3

end

section
variable {prog : Program} {w : World} {A : Around} {E : Value → Shared → Prop} {s : Shared}

noncomputable def sIx (n d : Nat) : Option Int → Nat
  | none => d
  | some v => if v < 0 then (v + (n : Int)).toNat else min v.toNat n
theorem sIx_none (n d : Nat) : sIx n d none = d := rfl
theorem sIx_nat (n d k : Nat) : sIx n d (some (k : Int)) = min k n := by
  show (if (k : Int) < 0 then ((k : Int) + (n : Int)).toNat else min (k : Int).toNat n) = min k n
  rw [if_neg (by omega), Int.toNat_natCast]
end
end HT

namespace L2
open PySem PySem.Spec PyProof.Rows

noncomputable abbrev TO := St → Hp → (Option Int → Hp → Prop) → Prop
noncomputable def PO (X : Cx) (e : Option Expr) (t : TO) : Prop :=
  ∀ (pins : List (Addr × Obj)) (s : Shared) (σ : St) (H : Hp) (Q : Option Int → Hp → Prop), Inv X pins σ H s → t σ H Q →
    wpAny (model X.prog X.w) X.A (evalPart e X.env) (fun u s' => ∃ o H', Inv X pins σ H' s' ∧ IsPart u o ∧ Q o H') X.xe s
noncomputable def tNoPart : TO := fun _ H Q => Q none H
noncomputable def tPart (t : TE) : TO := fun σ H Q => t σ H fun x H1 => Ex1_2 (fun i => x = .int i) (fun i => Q (some i) H1)

section
variable {X : Cx} {e : Expr} {te : TE} {lo hi : Option Expr} {tl th : TO} {pos p2 : Pos}

theorem po_none : PO X none tNoPart := by
  intro pins s σ H Q I h
  rw [evalPart_none]
  exact wpAny_pure ⟨none, H, I, .none, h⟩
theorem po_some (h : PE X e te) : PO X (some e) (tPart te) := by
  intro pins s σ H Q I hw
  rw [evalPart_some]
  refine thn (h pins s σ H _ I hw) fun u s1 ⟨x, H1, I1, r1, q1⟩ => ?_
  obtain ⟨i, rfl, q⟩ := q1
  obtain ⟨t, rfl⟩ := r1
  exact ⟨some i, H1, I1, .int i t, q⟩
noncomputable def SlR (X : Cx) (r : V → Option Int → Option Int → Hp → VK → Prop) : Prop :=
  ∀ (pins : List (Addr × Obj)) (s : Shared) (σ : St) (H : Hp) (x : V) (v vl vu : Value) (lo hi : Option Int) (sl : Addr) (Q : VK), Inv X pins σ H s → RelV x v → s.heap.IsSliceOf sl vl vu .none → IsPart vl lo → IsPart vu hi → r x lo hi H Q →
    ∃ T id, typeLookup (.type T) "__getitem__" = pure (some (.builtin id)) ∧ s.TypeIs v T ∧ wpAny (model X.prog X.w) X.A (getItem v (.ref sl)) (EP X pins σ Q) X.xe s
noncomputable def tSl (r : V → Option Int → Option Int → Hp → VK → Prop) (te : TE) (tl th : TO) : TE := fun σ H Q => te σ H fun x H1 => tl σ H1 fun l H2 => th σ H2 fun u H3 => r x l u H3 Q
theorem pe_slice {r : V → Option Int → Option Int → Hp → VK → Prop} (hr : SlR X r) (he : PE X e te) (hl : PO X lo tl) (hu : PO X hi th) : PE X (.Subscript e (.Slice lo hi none p2) pos) (tSl r te tl th) := by
  intro pins s σ H Q I h
  refine Subscript_ (thn (he pins s σ H _ I h) fun v s1 ⟨x, H1, I1, r1, q1⟩ => ?_)
  refine wpAny_Slice (thn (hl pins s1 σ H1 _ I1 q1) fun vl s2 ⟨l, H2, I2, pl, q2⟩ => thn (hu pins s2 σ H2 _ I2 q2) fun vu s3 ⟨u, H3, I3, pu, q3⟩ => ?_)
  rw [evalPart_none]
  refine wpAny_pure ?_
  have I4 : Inv X pins σ H3 { s3 with heap := s3.heap.push { cls := .type "slice", data := .fields #[vl, vu, .none] } } := I3.kept (t' := s3.toks) fun b ob q => Heap.get?_push_of_some _ q
  obtain ⟨T, id, hT, ht, hg⟩ := hr pins { s3 with heap := s3.heap.push { cls := .type "slice", data := .fields #[vl, vu, .none] } } σ H3 x v vl vu l u s3.heap.objs.size Q I4 r1 (Heap.IsSliceOf.new ..) pl pu q3
  show wpAny (model X.prog X.w) X.A (subscriptTail e (.Slice lo hi none p2) v (.ref s3.heap.objs.size)) (EP X pins σ Q) X.xe { s3 with heap := s3.heap.push { cls := .type "slice", data := .fields #[vl, vu, .none] } }
  exact tail_any (ops := [.ref s3.heap.objs.size, v]) ht hT hg (by with_unfolding_all rfl)
noncomputable def cutV (xs : List V) (lo hi : Option Int) : List V := (xs.drop (HT.sIx xs.length 0 lo)).take (HT.sIx xs.length xs.length hi - HT.sIx xs.length 0 lo)
theorem cutV_length (xs : List V) (lo hi : Option Int) : (cutV xs lo hi).length ≤ xs.length := by
  unfold cutV
  rw [List.length_take, List.length_drop]
  omega
end
end L2

namespace L2
open PySem PySem.Spec PyProof.Rows

noncomputable def ixN (n : Nat) (i : Int) : Option Nat := if 0 ≤ i then (if i < n then some i.toNat else none) else if -(n : Int) ≤ i then some (i + n).toNat else none
noncomputable def atI {α : Type} (xs : List α) (i : Int) : Option α := (ixN xs.length i).bind fun j => xs[j]?
theorem ixN_seq {n : Nat} {i : Int} {j : Nat} (h : ixN n i = some j) : seqIndex? i n = some j ∧ j < n ∧ -(n : Int) ≤ i ∧ i < n := by
  unfold ixN at h
  by_cases h0 : 0 ≤ i
  · rw [if_pos h0] at h
    by_cases h1 : i < n
    · rw [if_pos h1] at h
      have e : i.toNat = j := Option.some.inj h
      exact ⟨by rw [seqIndex_of h0 h1, e], by omega, by omega, h1⟩
    · rw [if_neg h1] at h; cases h
  · rw [if_neg h0] at h
    by_cases h1 : -(n : Int) ≤ i
    · rw [if_pos h1] at h
      have e : (i + n).toNat = j := Option.some.inj h
      exact ⟨by rw [seqIndex_neg (by omega) h1, e], by omega, h1, by omega⟩
    · rw [if_neg h1] at h; cases h
theorem atI_get {α : Type} {xs : List α} {i : Int} {v : α} (h : atI xs i = some v) : ∃ j, seqIndex? i xs.length = some j ∧ xs[j]? = some v ∧ j < xs.length ∧ -(xs.length : Int) ≤ i ∧ i < xs.length := by
  unfold atI at h
  cases e : ixN xs.length i with
  | none => rw [e] at h; cases h
  | some j =>
    rw [e] at h
    obtain ⟨h1, h2, h3, h4⟩ := ixN_seq e
    exact ⟨j, h1, h, h2, h3, h4⟩
theorem atI_nat {α : Type} {xs : List α} {j : Nat} {v : α} (h : xs[j]? = some v) : atI xs (j : Int) = some v := by
  have hj : j < xs.length := (List.getElem?_eq_some_iff.mp h).1
  have e : ixN xs.length (j : Int) = some j := by
    unfold ixN
    rw [if_pos (by omega), if_pos (by omega)]; simp
  unfold atI; rw [e]; exact h
noncomputable def PlainIx (b : Expr) : Prop := ∀ o i, subscripted b false o i = operate [o, i] (getItem o i)
noncomputable def IxR (X : Cx) (r : R2) : Prop :=
  ∀ (value slice : Expr) (pins : List (Addr × Obj)) (s : Shared) (σ : St) (H : Hp) (x y : V) (v u : Value) (Q : VK), Inv X pins σ H s → RelV x v → RelV y u → r x y H Q →
    subscripted slice false v u = operate [v, u] (getItem v u) → wpAny (model X.prog X.w) X.A (subscriptTail value slice v u) (EP X pins σ Q) X.xe s
noncomputable def MtR (X : Cx) (id : String) (r : V → List V → Hp → VK → Prop) : Prop :=
  ∀ (pins : List (Addr × Obj)) (s : Shared) (σ : St) (H : Hp) (x : V) (xs : List V) (v : Value) (us : List Value) (Q : VK), Inv X pins σ H s → RelV x v → Vals xs us → r x xs H Q →
    wpAny (model X.prog X.w) X.A (call (.builtin id) (v :: us)) (EP X pins σ Q) X.xe s
section
variable {X : Cx} {a b : Expr} {ta tb : TE} {pos : Pos}
theorem pe_ix {r : R2} (hr : IxR X r) (ha : PE X a ta) (hb : PE X b tb) (hs : PlainIx b) : PE X (.Subscript a b pos) (tOp r ta tb) := by
  intro pins s σ H Q I h
  exact Subscript_ (binT ha hb I h fun v u s2 x y H2 I2 rx ry q => hr a b pins s2 σ H2 x y v u Q I2 rx ry q (hs _ _))

noncomputable def rIxL (K : PySem.W.Frag) : R2 := fun x y H Q => Ex4_5 (fun p xs i v => x = .ref p) (fun p xs i v => y = .int i) (fun p xs i v => SqL K H p xs) (fun p xs i v => atI xs i = some v) (fun p xs i v => Q v H)
noncomputable def rIxT (K : PySem.W.Frag) : R2 := fun x y H Q => Ex4_5 (fun p xs i v => x = .ref p) (fun p xs i v => y = .int i) (fun p xs i v => SqT K H p xs) (fun p xs i v => atI xs i = some v) (fun p xs i v => Q v H)
noncomputable def rIxS : R2 := fun x y H Q => Ex3_5 (fun z i c => x = .str z) (fun z i c => y = .int i) (fun z i c => z.length ≤ sizeLine) (fun z i c => atI z.cps.toList i = some c) (fun z i c => Q (.str ⟨#[c]⟩) H)
theorem ix_list : IxR X (rIxL X.K) := by
  intro value slice pins s σ H x y v u Q I rx ry h hs
  obtain ⟨p, xs, i, z, rfl, rfl, hq, he, q⟩ := h
  cases rx
  obtain ⟨t, rfl⟩ := ry
  obtain ⟨its, r, pl, hz⟩ := I.list hq
  obtain ⟨j, h1, h2, h3, h4, h5⟩ := atI_get he
  obtain ⟨w, ew, rw'⟩ := r.get h2
  have hl := r.length
  have hn := line63
  have fin : EP X pins σ Q w s := ⟨z, H, I, rw', q⟩
  by_cases h0 : 0 ≤ i
  · have hj : i.toNat = j := by
      rw [seqIndex_of h0 h5] at h1
      exact Option.some.inj h1
    exact item_listR pl.isList h0 (by omega) (by rw [hj]; simpa using ew) fin hs
  · have hj : (i + (its.toArray.size : Int)).toNat = j := by
      rw [seqIndex_neg (by omega) h4] at h1
      rw [List.size_toArray, ← hl]
      exact Option.some.inj h1
    exact subscriptTail_builtinR (x := w) pl.isList.typeIs slot_list_getitem.lookup
      (wpAny_getItem_list_neg (Q := fun r s' => r = w ∧ EP X pins σ Q r s') pl.isList (by omega) (by rw [List.size_toArray] <;> omega) (by omega) (by rw [hj]; simpa using ew) ⟨rfl, fin⟩) hs
theorem ix_tup : IxR X (rIxT X.K) := by
  intro value slice pins s σ H x y v u Q I rx ry h hs
  obtain ⟨p, xs, i, z, rfl, rfl, hq, he, q⟩ := h
  cases rx
  obtain ⟨t, rfl⟩ := ry
  obtain ⟨its, r, pl, hz⟩ := I.tuple hq
  obtain ⟨j, h1, h2, h3, h4, h5⟩ := atI_get he
  obtain ⟨w, ew, rw'⟩ := r.get h2
  have hl := r.length
  have hn := line63
  have fin : EP X pins σ Q w s := ⟨z, H, I, rw', q⟩
  exact subscriptTail_builtinR (x := w) pl.typeIs slot_tuple_getitem.lookup
    (getItem_tuple (j := j) (Q := fun r s' => r = w ∧ EP X pins σ Q r s') pl (by omega) (by omega) (by rw [List.size_toArray, ← hl]; exact h1) (by simpa using ew) ⟨rfl, fin⟩) hs
theorem ix_str : IxR X rIxS := by
  intro value slice pins s σ H x y v u Q I rx ry h hs
  obtain ⟨z, i, c, rfl, rfl, hz, he, q⟩ := h
  obtain ⟨t, rfl⟩ := rx
  obtain ⟨t', rfl⟩ := ry
  obtain ⟨j, h1, h2, h3, h4, h5⟩ := atI_get he
  have hl : z.cps.toList.length = z.length := by simp [Str.length]
  rw [hl] at h1 h4 h5
  have hn := line63
  exact tail_any (typeIs_str s z t) slot_str_getitem.lookup (getItem_str (c := c) (by
    have e1 : decide (i < -(2 ^ 63 : Int)) = false := decide_eq_false (by omega)
    have e2 : decide (i ≥ 2 ^ 63) = false := decide_eq_false (by omega)
    rw [e1, e2, Bool.or_false]) (by rw [h1]; simpa using h2) ⟨.str ⟨#[c]⟩, H, I.tok _, ⟨_, rfl⟩, q⟩) hs
theorem mapSeq_set (its : List Value) (n j : Nat) (u : Value) : Obj.mapSeq (·.setIfInBounds j u) { cls := .type "list", data := .seq its.toArray n } = { cls := .type "list", data := .seq (its.set j u).toArray n } := by
  simp [Obj.mapSeq]
theorem Inv.lst {pins : List (Addr × Obj)} {σ : St} {H : Hp} {s : Shared} {p : Addr} {xs : List V} (I : Inv X pins σ H s) (h : H p = some (.lst xs)) :
    ∃ (its : List Value) (n : Nat), Vals xs its ∧ s.heap.get? p = some { cls := .type "list", data := .seq its.toArray n } ∧ xs.length ≤ sizeLine := by
  obtain ⟨z, its, n, r, e⟩ := I.hok p _ h
  exact ⟨its, n, r, e, z⟩
theorem Inv.lstUpd {pins : List (Addr × Obj)} {σ : St} {H : Hp} {s : Shared} {p : Addr} {xs ys : List V} {its its' : List Value} {n n' : Nat} {f : Obj → Obj} (I : Inv X pins σ H s) (h : H p = some (.lst xs))
    (ho : s.heap.get? p = some { cls := .type "list", data := .seq its.toArray n }) (hf : f { cls := .type "list", data := .seq its.toArray n } = { cls := .type "list", data := .seq its'.toArray n' }) (r : Vals ys its') (hz : ys.length ≤ sizeLine) (t : Nat) :
    Inv X pins σ (upd H p (.lst ys)) { s with heap := s.heap.update p f, toks := t } := by
  have e : (s.heap.update p f).get? p = some { cls := .type "list", data := .seq its'.toArray n' } := by
    rw [Heap.get?_update_self f ho (by rw [hf] <;> rfl), hf]
  refine I.write (x := p) (e := p) (by rw [h]; trivial) (.inl rfl) (fun b u hb q => (Heap.get?_update_other _ _ (Ne.symm hb)).trans q) ⟨_, e⟩ ?_
  exact ⟨hz, its', n', r, e⟩
noncomputable def rSetL : V → V → V → Hp → (Hp → Prop) → Prop := fun o i v H Q => Ex4_5 (fun p xs k j => o = .ref p) (fun p xs k j => i = .int k) (fun p xs k j => H p = some (.lst xs)) (fun p xs k j => ixN xs.length k = some j) (fun p xs k j => Q (upd H p (.lst (xs.set j v))))
theorem set_list : PSet X rSetL := by
  intro pins s σ H o i v ov iv u Q I ro ri rv h
  obtain ⟨p, xs, k, j, rfl, rfl, hp, hj, q⟩ := h
  cases ro
  obtain ⟨t, rfl⟩ := ri
  obtain ⟨its, n, r, ho, hz⟩ := I.lst hp
  obtain ⟨h1, h2, h3, h4⟩ := ixN_seq hj
  have hl := r.length
  have hn := line63
  have I' : Inv X pins σ (upd H p (.lst (xs.set j v))) { s with heap := s.heap.update p (Obj.mapSeq (·.setIfInBounds j u)) } :=
    I.lstUpd hp ho (mapSeq_set its n j u) (r.set rv j) (by rw [List.length_set]; exact hz) s.toks
  by_cases h0 : 0 ≤ k
  · have hk : k.toNat = j := by
      rw [seqIndex_of h0 h4] at h1
      exact Option.some.inj h1
    exact PySem.W.ki_setAt ho h0 (by omega) (by rw [List.size_toArray, ← hl]; exact h4) (by rw [hk]; exact ⟨_, I', q⟩)
  · have hk : (k + (its.toArray.size : Int)).toNat = j := by
      rw [seqIndex_neg (by omega) h3] at h1
      rw [List.size_toArray, ← hl]
      exact Option.some.inj h1
    exact PySem.W.ki_setBack ho (by omega) (by rw [List.size_toArray, ← hl]; exact h3) (by omega) (by rw [hk]; exact ⟨_, I', q⟩)

theorem slice_bounds (lo hi : Option Int) (n : Nat) : (sliceBounds lo hi none n).1 = ((HT.sIx n 0 lo : Nat) : Int) ∧ (sliceBounds lo hi none n).2.1 = ((HT.sIx n n hi : Nat) : Int) ∧ (sliceBounds lo hi none n).2.2 = 1 := by
  refine ⟨?_, ?_, rfl⟩
  · cases lo with
    | none => simp [sliceBounds, HT.sIx]
    | some i =>
      simp only [sliceBounds, HT.sIx, Option.getD_none, show (1 : Int) > 0 by decide, if_true]
      by_cases h : i < 0
      · simp only [h, if_true] <;> omega
      · simp only [h, if_false] <;> omega
  · cases hi with
    | none => simp [sliceBounds, HT.sIx]
    | some i =>
      simp only [sliceBounds, HT.sIx, Option.getD_none, show (1 : Int) > 0 by decide, if_true]
      by_cases h : i < 0
      · simp only [h, if_true] <;> omega
      · simp only [h, if_false] <;> omega
theorem slicePick_cut (its : List Value) (lo hi : Option Int) : slicePick its.toArray lo hi none = ((its.drop (HT.sIx its.length 0 lo)).take (HT.sIx its.length its.length hi - HT.sIx its.length 0 lo)).toArray := by
  obtain ⟨h1, h2, h3⟩ := slice_bounds lo hi its.toArray.size
  unfold slicePick
  rw [h1, h2, h3]
  simp only [sliceRange_one, pick_run, List.size_toArray] <;> rfl
noncomputable def rSlL (K : PySem.W.Frag) : V → Option Int → Option Int → Hp → VK → Prop := fun x lo hi H Q => Ex2_3 (fun a xs => x = .ref a) (fun a xs => SqL K H a xs) (fun a xs => ∀ p, H p = none → Q (.ref p) (upd H p (.lst (cutV xs lo hi))))
theorem sl_list : SlR X (rSlL X.K) := by
  intro pins s σ H x v vl vu lo hi sl Q I rx hs pl pu h
  obtain ⟨a, xs, rfl, hx, q⟩ := h
  cases rx
  obtain ⟨its, r, ht, hz⟩ := I.list hx
  have hlen := r.length
  refine ⟨"list", _, slot_list_getitem.lookup, ht.isList.typeIs, ?_⟩
  refine wpAny_getItem_list_slice ht.isList hs pl pu .none (by simp) ?_ (by rw [List.size_toArray] <;> omega)
  rw [slicePick_cut, ← hlen]
  refine ⟨.ref s.heap.objs.size, _, I.laid (t' := s.toks) (o := .lst (cutV xs lo hi)) (fun b ob q => Heap.get?_push_of_some _ q) (Nat.le_refl _) ?_, rfl, q _ (I.hok.fresh (Nat.le_refl _))⟩
  exact ⟨Nat.le_trans (cutV_length xs lo hi) hz, _, 0, (r.drop (HT.sIx xs.length 0 lo)).take (HT.sIx xs.length xs.length hi - HT.sIx xs.length 0 lo), Heap.get?_push_size _ rfl⟩

noncomputable def flatV : V → Bool
  | .non => true
  | .bl _ => true
  | .int _ => true
  | .str _ => true
  | _ => false
noncomputable def eqV : V → V → Bool
  | .non, .non => true
  | .bl a, .bl b => a == b
  | .bl a, .int b => (if a then 1 else 0) == b
  | .int a, .bl b => a == (if b then 1 else 0)
  | .int a, .int b => a == b
  | .str a, .str b => a == b
  | _, _ => false
theorem eqAt_V {A : Around} {s : Shared} {y x : V} {u v : Value} (ry : RelV y u) (rx : RelV x v) (fy : flatV y = true) (fx : flatV x = true) : SeqAt.EqAt A s u v (eqV y x) := by
  cases y with
  | non =>
    cases ry
    cases x with
    | non => cases rx; exact SeqAt.EqAt.same _
    | bl b => cases rx; exact SeqAt.EqAt.none_bool b
    | int b => obtain ⟨t, rfl⟩ := rx; exact SeqAt.EqAt.none_int b t
    | str b => obtain ⟨t, rfl⟩ := rx; exact SeqAt.EqAt.none_str b t
    | _ => exact absurd (show false = true from fx) Bool.false_ne_true
  | bl a =>
    cases ry
    cases x with
    | non => cases rx; exact SeqAt.EqAt.bool_none a
    | bl b => cases rx; exact SeqAt.EqAt.bool_bool a b
    | int b => obtain ⟨t, rfl⟩ := rx; exact SeqAt.EqAt.bool_int a b t
    | str b => obtain ⟨t, rfl⟩ := rx; exact SeqAt.EqAt.bool_str a b t
    | _ => exact absurd (show false = true from fx) Bool.false_ne_true
  | int a =>
    obtain ⟨t', rfl⟩ := ry
    cases x with
    | non => cases rx; exact SeqAt.EqAt.int_none a t'
    | bl b => cases rx; exact SeqAt.EqAt.int_bool a t' b
    | int b => obtain ⟨t, rfl⟩ := rx; exact SeqAt.EqAt.int_int a t' b t
    | str b => obtain ⟨t, rfl⟩ := rx; exact SeqAt.EqAt.int_str a t' b t
    | _ => exact absurd (show false = true from fx) Bool.false_ne_true
  | str a =>
    obtain ⟨t', rfl⟩ := ry
    cases x with
    | non => cases rx; exact SeqAt.EqAt.str_none a t'
    | bl b => cases rx; exact SeqAt.EqAt.str_bool a t' b
    | int b => obtain ⟨t, rfl⟩ := rx; exact SeqAt.EqAt.str_int a t' b t
    | str b => obtain ⟨t, rfl⟩ := rx; exact SeqAt.EqAt.str_str a t' b t
    | _ => exact absurd (show false = true from fx) Bool.false_ne_true
  | _ => exact absurd (show false = true from fy) Bool.false_ne_true
noncomputable def eqU (x : V) (u : Value) : Bool := match u with
  | .none => eqV .non x
  | .bool b => eqV (.bl b) x
  | .int i _ => eqV (.int i) x
  | .str z _ => eqV (.str z) x
  | _ => false
theorem eqU_of {x y : V} {u : Value} (r : RelV y u) (f : flatV y = true) : eqU x u = eqV y x := by
  cases y with
  | non => cases r; rfl
  | bl b => cases r; rfl
  | int i => obtain ⟨t, rfl⟩ := r; rfl
  | str z => obtain ⟨t, rfl⟩ := r; rfl
  | _ => exact absurd (show false = true from f) Bool.false_ne_true
theorem any_eqU {x : V} : ∀ {xs : List V} {us : List Value}, Vals xs us → xs.all flatV = true → us.any (eqU x) = xs.any fun y => eqV y x
  | _, _, .nil, _ => rfl
  | y :: xs, u :: us, .cons r t, f => by
    rw [List.all_cons, Bool.and_eq_true] at f
    rw [List.any_cons, List.any_cons, eqU_of r f.1, any_eqU t f.2]
theorem mem_eqAt {A : Around} {s : Shared} {x : V} {v : Value} (rx : RelV x v) (fx : flatV x = true) : ∀ {xs : List V} {us : List Value}, Vals xs us → xs.all flatV = true → ∀ u ∈ us, SeqAt.EqAt A s u v (eqU x u)
  | _, _, .nil, _ => fun u hu => by cases hu
  | y :: xs, u :: us, .cons r t, f => fun u' hu => by
    rw [List.all_cons, Bool.and_eq_true] at f
    rcases List.mem_cons.mp hu with rfl | hu
    · rw [eqU_of r f.1]; exact eqAt_V r rx f.1 fx
    · exact mem_eqAt rx fx t f.2 u' hu
noncomputable def inV (x : V) (xs : List V) : Bool := xs.any fun y => eqV y x
noncomputable def rIn (K : PySem.W.Frag) (neg : Bool) : R2 := fun x y H Q => Ex2_5 (fun p xs => y = .ref p) (fun p xs => (SqL K H p xs ∨ SqT K H p xs)) (fun p xs => flatV x = true) (fun p xs => xs.all flatV = true) (fun p xs => Q (.bl (if neg then !inV x xs else inV x xs)) H)
theorem op_in_seq : OpR X (compareOp .In) (rIn X.K false) := by
  intro pins s σ H x y v u Q I rx ry h
  obtain ⟨p, xs, rfl, hq, fx, fs, q⟩ := h
  cases ry
  rcases hq with hq | hq
  · obtain ⟨its, r, pl, hz⟩ := I.list hq
    refine SeqAt.in_listAt (eqU x) pl.isList (fun w hw => mem_eqAt rx fx r fs w (by simpa using hw)) ⟨.bl _, H, I, rfl, ?_⟩
    rw [show its.toArray.any (eqU x) = its.any (eqU x) by simp, any_eqU r fs]
    exact q
  · obtain ⟨its, r, pl, hz⟩ := I.tuple hq
    refine SeqAt.in_tupleAt (eqU x) pl (fun w hw => mem_eqAt rx fx r fs w (by simpa using hw)) ⟨.bl _, H, I, rfl, ?_⟩
    rw [show its.toArray.any (eqU x) = its.any (eqU x) by simp, any_eqU r fs]
    exact q
theorem op_notIn_seq : OpR X (compareOp .NotIn) (rIn X.K true) := by
  intro pins s σ H x y v u Q I rx ry h
  obtain ⟨p, xs, rfl, hq, fx, fs, q⟩ := h
  cases ry
  rcases hq with hq | hq
  · obtain ⟨its, r, pl, hz⟩ := I.list hq
    refine SeqAt.notIn_listAt (eqU x) pl.isList (fun w hw => mem_eqAt rx fx r fs w (by simpa using hw)) ⟨.bl _, H, I, rfl, ?_⟩
    rw [show its.toArray.any (eqU x) = its.any (eqU x) by simp, any_eqU r fs]
    exact q
  · obtain ⟨its, r, pl, hz⟩ := I.tuple hq
    refine SeqAt.notIn_tupleAt (eqU x) pl (fun w hw => mem_eqAt rx fx r fs w (by simpa using hw)) ⟨.bl _, H, I, rfl, ?_⟩
    rw [show its.toArray.any (eqU x) = its.any (eqU x) by simp, any_eqU r fs]
    exact q
theorem call_len_seq : CallR X (.builtin "len") (fun xs H Q => ∃ p ys, xs = [.ref p] ∧ (SqL X.K H p ys ∨ SqT X.K H p ys) ∧ Q (.int ys.length) H) := by
  intro pins s σ H xs us Q I r h
  obtain ⟨p, ys, rfl, hq, q⟩ := h
  obtain ⟨u, rfl, rx⟩ := vals1 r
  cases rx
  have hn := line63
  rcases hq with hq | hq
  · obtain ⟨its, r', pl, hz⟩ := I.list hq
    have hlen := r'.length
    exact Calls.call_len_list pl.isList (by simp only [List.size_toArray] <;> omega) ⟨.int ys.length, H, I.tok _, ⟨s.toks + 1, by rw [List.size_toArray, hlen]⟩, q⟩
  · obtain ⟨its, r', pl, hz⟩ := I.tuple hq
    have hlen := r'.length
    exact len_tuple pl (by simp only [List.size_toArray] <;> omega) ⟨.int ys.length, H, I.tok _, ⟨s.toks + 1, by rw [List.size_toArray, hlen]⟩, q⟩
theorem call_list_of : CallR X (.type "list") (fun xs H Q => ∃ p ys, xs = [.ref p] ∧ (SqL X.K H p ys ∨ SqT X.K H p ys) ∧ ∀ l, H l = none → Q (.ref l) (upd H l (.lst ys))) := by
  intro pins s σ H xs us Q I r h
  obtain ⟨p, ys, rfl, hq, q⟩ := h
  obtain ⟨u, rfl, rx⟩ := vals1 r
  cases rx
  have fin : ∀ (its : List Value), Vals ys its → ys.length ≤ sizeLine → ∀ (h' : Heap) (c' : Nat), (∀ b o', s.heap.get? b = some o' → h'.get? b = some o') →
      h'.get? s.heap.objs.size = some { cls := .type "list", dict := none, data := .seq its.toArray c', slots := #[] } → EP X pins σ Q (.ref s.heap.objs.size) { s with heap := h' } := fun its r' hz h' c' kp e =>
    ⟨.ref s.heap.objs.size, _, I.laid (t' := s.toks) kp (Nat.le_refl _) (show ObjOk X.prog X.w _ h' _ (.lst ys) from ⟨hz, its, c', r', e⟩), rfl, q _ (I.hok.fresh (Nat.le_refl _))⟩
  rcases hq with hq | hq
  · obtain ⟨its, r', pl, hz⟩ := I.list hq
    have hlen := r'.length
    obtain ⟨o, ho, hc, n, hd⟩ := pl.isList
    exact call_list_seq p (.inl rfl) ho hc hd (fun h' c' kp e => fin its r' hz h' c' kp e) (by simp only [List.size_toArray] <;> omega)
  · obtain ⟨its, r', pl, hz⟩ := I.tuple hq
    have hlen := r'.length
    obtain ⟨o, ho, hc, n, hd⟩ := pl
    exact call_list_seq p (.inr rfl) ho hc hd (fun h' c' kp e => fin its r' hz h' c' kp e) (by simp only [List.size_toArray] <;> omega)
noncomputable def tyV (K : PySem.W.Frag) (T : String) (x : V) (H : Hp) : Prop := match x with
  | .str _ => T = "str"
  | .int _ => T = "int"
  | .ref p => (T = "list" ∧ ∃ xs, SqL K H p xs) ∨ (T = "tuple" ∧ ∃ o, K.lookup p = some o ∧ o.cls = .type "tuple" ∧ o.dict = none) ∨
      (T = "dict" ∧ ((∃ kvs, H p = some (.dK kvs)) ∨ ∃ kvs, H p = some (.dT kvs))) ∨ (T = "set" ∧ ∃ S n, H p = some (.set S n))
  | _ => False
theorem tyV_is {pins : List (Addr × Obj)} {σ : St} {H : Hp} {s : Shared} {T : String} {x : V} {v : Value} (I : Inv X pins σ H s) (r : RelV x v) (ty : tyV X.K T x H) :
    s.TypeIs v T ∧ ∀ a, v = .ref a → ∃ ob, s.heap.get? a = some ob ∧ ob.dict = none := by
  cases x with
  | str z =>
    obtain ⟨t, rfl⟩ := r
    cases (show T = "str" from ty)
    exact ⟨typeIs_str s z t, fun _ e => nomatch e⟩
  | int i =>
    obtain ⟨t, rfl⟩ := r
    cases (show T = "int" from ty)
    exact ⟨typeIs_int s i t, fun _ e => nomatch e⟩
  | ref p =>
    cases r
    rcases ty with ⟨rfl, xs, hq⟩ | ⟨rfl, o, hk, hc, hd⟩ | ⟨rfl, hk⟩ | ⟨rfl, S, n, hk⟩
    · obtain ⟨its, _, pl, _⟩ := I.list hq
      refine ⟨pl.isList.typeIs, fun a e => ?_⟩
      cases e
      obtain ⟨o, n, e, c, hd, _⟩ := pl
      exact ⟨o, e, hd⟩
    · refine ⟨⟨o, I.kIn p o hk, hc⟩, fun a e => ?_⟩
      cases e
      exact ⟨o, I.kIn _ o hk, hd⟩
    · have z : ∃ o, s.heap.get? p = some o ∧ o.ExactDict := by
        rcases hk with ⟨kvs, hk⟩ | ⟨kvs, hk⟩
        · obtain ⟨_, _, _, _, o, _, _, e, ex, _⟩ := I.hok p _ hk
          exact ⟨o, e, ex⟩
        · obtain ⟨_, _, _, _, o, _, _, e, ex, _⟩ := I.hok p _ hk
          exact ⟨o, e, ex⟩
      obtain ⟨o, e, ex⟩ := z
      refine ⟨⟨o, e, ex.1⟩, fun a e2 => ?_⟩
      cases e2
      exact ⟨o, e, ex.2.1⟩
    · obtain ⟨o, _, _, _, e, ex, _⟩ := I.hok p _ hk
      refine ⟨⟨o, e, ex.1⟩, fun a e2 => ?_⟩
      cases e2
      exact ⟨o, e, ex.2.1⟩
  | _ => exact False.elim ty
noncomputable def tBM (K : PySem.W.Frag) (T : String) (r : V → List V → Hp → VK → Prop) (to : TE) (t : TA) : TE := fun σ H Q => to σ H fun x H1 => tyV K T x H1 ∧ t σ H1 fun xs H2 => r x xs H2 Q
variable {o e : Expr} {es : List Expr} {to : TE} {t : TA} {name : Str} {apos cpos : Pos} {T id : String} {r : V → List V → Hp → VK → Prop}
theorem pe_bm (pa : PlainAttrs T) (slot : Slot T name id) (hty : typeOf (.builtin id) = pure (.type "method_descriptor")) (hm : MtR X id r) (ho : PE X o to) (ha : PA X (e :: es) t)
    (hbase : attributeBase o name X.env (eval o X.env) = eval o X.env := by rfl)
    (hfew : ((backTo cpos (starEach (e :: es) X.env)).all (fun x => !x.1) && (backToKw cpos (keywordEach [] X.env)).all (fun x => x.1.isSome)
      && decide ((e :: es).length + ([] : List Keyword).length + (if ([] : List Keyword).isEmpty then 0 else 1) < 30)) = true := by rfl)
    (hline : (apos.endLine == cpos.line) = true := by rfl) (hs : starEach (e :: es) X.env = (false, eval e X.env) :: starEach es X.env := by rfl) (hplain : (backTo cpos (starEach es X.env)).any (·.1) = false := by rfl) :
    PE X (.Call (.Attribute o name apos) (e :: es) [] cpos) (tBM X.K T r to t) := by
  intro pins s σ H Q I h
  refine wpAny_Call_method_late hbase hfew hline rfl (thn (ho pins s σ H _ I h) fun v s1 ⟨x, H1, I1, r1, ty, q1⟩ => ?_)
  obtain ⟨h1, h2⟩ := tyV_is I1 r1 ty
  refine ⟨T, id, pa, slot, hty, h1, h2, ?_⟩
  have hA := ha cpos pins s1 σ H1 _ I1 q1
  rw [hs] at hA ⊢
  refine Calls.callWith_builtin (by show (false || (backTo cpos (starEach es X.env)).any (·.1)) = false; rw [hplain] <;> rfl) (Calls.evalArgs_plain ?_)
  exact thn hA fun us s2 ⟨vs, H2, I2, r2, q2⟩ => hm pins s2 σ H2 x vs v us Q I2 r1 r2 q2
/- xs.append(e), list.index on a module's tuple .. are MtR facts of 06m -/
end
end L2

namespace L2
open PySem PySem.Spec PyProof.Rows

noncomputable def MtM (X : Cx) (id : String) (r : V → List V → Hp → VK → Prop) : Prop :=
  ∀ (pins : List (Addr × Obj)) (s : Shared) (σ : St) (H : Hp) (x : V) (xs : List V) (v : Value) (us : List Value) (Q : VK), Inv X pins σ H s → RelV x v → Vals xs us → r x xs H Q →
    wpAny (model X.prog X.w) X.A (call (.builtin id) (v :: us)) (EP X pins σ Q) X.xe s

theorem Vals.one {x : V} {us : List Value} (r : Vals [x] us) : ∃ u, us = [u] ∧ RelV x u := vals1 r
theorem Vals.rep {xs : List V} {us : List Value} (h : Vals xs us) : ∀ k : Nat, Vals (List.replicate k xs).flatten (List.replicate k us).flatten
  | 0 => .nil
  | k + 1 => by
    rw [List.replicate_succ, List.replicate_succ, List.flatten_cons, List.flatten_cons]
    exact Vals.append h (Vals.rep h k)
theorem foldl_rep (its : List Value) : ∀ (k : Nat) (acc : List Value),
    List.foldl (fun x1 x2 => x1 ++ x2) acc.toArray (List.replicate k its.toArray) = (acc ++ (List.replicate k its).flatten).toArray
  | 0, acc => by simp
  | k + 1, acc => by
    have e : acc.toArray ++ its.toArray = (acc ++ its).toArray := by simp
    have e2 : (acc ++ its) ++ (List.replicate k its).flatten = acc ++ (List.replicate (k + 1) its).flatten := by
      rw [List.replicate_succ, List.flatten_cons, List.append_assoc]
    rw [← e2, ← foldl_rep its k (acc ++ its), ← e, List.replicate_succ, List.foldl_cons]

section
variable {X : Cx} {pins : List (Addr × Obj)} {σ : St} {H : Hp} {s : Shared} {l b : Addr} {xs ys zs : List V}

theorem Inv.lset {its its' : List Value} {n : Nat} {f : Array Value → Array Value} {t' : Nat} (I : Inv X pins σ H s) (hH : H l = some (.lst xs))
    (e : s.heap.get? l = some { cls := .type "list", data := .seq its.toArray n }) (hf : f its.toArray = its'.toArray) (hv : Vals ys its') (hz : ys.length ≤ sizeLine) :
    Inv X pins σ (upd H l (.lst ys)) { s with heap := s.heap.update l (Obj.mapSeq f), toks := t' } := by
  have q := PySem.IsL.update e f
  rw [hf] at q
  refine I.write (x := l) (e := l) (by rw [hH]; exact trivial) (.inl rfl) (fun b' u hb hu => (Heap.get?_update_other s.heap (Obj.mapSeq f) (Ne.symm hb)).trans hu) ⟨_, q⟩ ?_
  exact ⟨hz, its', _, hv, q⟩
theorem Inv.lnew {its : List Value} {t' : Nat} (I : Inv X pins σ H s) (hv : Vals ys its) (hz : ys.length ≤ sizeLine) :
    Inv X pins σ (upd H s.heap.objs.size (.lst ys)) { s with heap := s.heap.push { cls := .type "list", data := .seq its.toArray }, toks := t' } :=
  I.laid (fun _ _ q => Heap.get?_push_of_some _ q) (Nat.le_refl _) ⟨hz, its, 0, hv, Heap.get?_push_size _ rfl⟩
theorem Inv.fresh (I : Inv X pins σ H s) : H s.heap.objs.size = none := I.hok.fresh (Nat.le_refl _)
theorem Inv.lstM (I : Inv X pins σ H s) (hH : H l = some (.lst xs)) : xs.length ≤ sizeLine ∧ ∃ (its : List Value) (n : Nat), Vals xs its ∧ xs.length = its.length ∧ s.heap.get? l = some { cls := .type "list", data := .seq its.toArray n } := by
  obtain ⟨z, its, n, r, e⟩ := I.hok l _ hH
  exact ⟨z, its, n, r, r.length, e⟩

theorem notLongL {n : Nat} (h : n ≤ sizeLine) : Builtin.List.listTooLong n = false := by
  unfold Builtin.List.listTooLong
  exact decide_eq_false (by omega)
end

section
variable {X : Cx}

noncomputable def rAppend : V → List V → Hp → VK → Prop := fun x vs H Q => Ex3_5 (fun l xs y => x = .ref l) (fun l xs y => vs = [y]) (fun l xs y => H l = some (.lst xs)) (fun l xs y => xs.length < sizeLine) (fun l xs y => Q .non (upd H l (.lst (xs ++ [y]))))
theorem mt_append : MtM X "list.append" rAppend := by
  intro pins s σ H x vs v us Q I rx rv h
  obtain ⟨l, xs, y, rfl, rfl, hH, hz, q⟩ := h
  cases rx
  obtain ⟨u, rfl, ru⟩ := rv.one
  obtain ⟨z, its, n, r, hl, e⟩ := I.lstM hH
  refine call_meets F.slot_list_append ⟨_, e, rfl⟩ F.entry_list_append (F.args_list_append_2 _ _) (PySem.list_append l its.toArray n u (by rw [List.size_toArray]; omega)) ⟨e, ?_⟩
  refine ⟨.non, _, I.lset (its' := its ++ [u]) hH e (by simp) (r.append (.cons ru .nil)) ?_, rfl, q⟩
  rw [List.length_append, List.length_singleton]
  omega

noncomputable def rExtend : V → List V → Hp → VK → Prop := fun x vs H Q => Ex4_6 (fun l b xs zs => x = .ref l) (fun l b xs zs => vs = [.ref b]) (fun l b xs zs => H l = some (.lst xs)) (fun l b xs zs => H b = some (.lst zs)) (fun l b xs zs => xs.length + zs.length ≤ sizeLine) (fun l b xs zs => Q .non (upd H l (.lst (xs ++ zs))))
theorem mt_extend : MtM X "list.extend" rExtend := by
  intro pins s σ H x vs v us Q I rx rv h
  obtain ⟨l, b, xs, zs, rfl, rfl, hH, hB, hz, q⟩ := h
  cases rx
  obtain ⟨u, rfl, ru⟩ := rv.one
  cases ru
  obtain ⟨z, its, n, r, hl, e⟩ := I.lstM hH
  obtain ⟨z2, its2, n2, r2, hl2, e2⟩ := I.lstM hB
  have hsz : its.toArray.size + its2.toArray.size ≤ sizeLine := by rw [List.size_toArray, List.size_toArray]; omega
  have hlong : ¬ (!its.toArray.isEmpty && Builtin.List.listTooLong (its.toArray.size + its2.toArray.size)) = true := by
    rw [notLongL hsz, Bool.and_false]
    exact Bool.false_ne_true
  refine call_meets F.slot_list_extend ⟨_, e, rfl⟩ F.entry_list_extend (F.args_list_extend_2 _ _)
    (AutoSeq1.list_extend_list_list_0 l its.toArray n b its2.toArray n2 hlong (by rw [List.size_toArray]; omega) (by omega)) ⟨e, e2, ?_⟩
  refine ⟨.non, _, I.lset (its' := its ++ its2) hH e (by simp) (r.append r2) ?_, rfl, q⟩
  rw [List.length_append]
  omega

noncomputable def rCat : R2 := fun x y H Q => Ex4_6 (fun l b xs zs => x = .ref l) (fun l b xs zs => y = .ref b) (fun l b xs zs => H l = some (.lst xs)) (fun l b xs zs => H b = some (.lst zs)) (fun l b xs zs => xs.length + zs.length ≤ sizeLine) (fun l b xs zs => ∀ p, H p = none → Q (.ref p) (upd H p (.lst (xs ++ zs))))
theorem op_cat : OpR X (binaryOp .Add) rCat := by
  intro pins s σ H x y v u Q I rx ry h
  obtain ⟨l, b, xs, zs, rfl, rfl, hH, hB, hz, q⟩ := h
  cases rx
  cases ry
  obtain ⟨z, its, n, r, hl, e⟩ := I.lstM hH
  obtain ⟨z2, its2, n2, r2, hl2, e2⟩ := I.lstM hB
  refine PySem.P.add_list e e2 ?_ (by rw [List.size_toArray, List.size_toArray]; omega)
  have ea : its.toArray ++ its2.toArray = (its ++ its2).toArray := by simp
  rw [ea]
  exact ⟨.ref _, _, I.lnew (t' := s.toks) (r.append r2) (by rw [List.length_append]; omega), rfl, q _ I.fresh⟩
noncomputable def rRep : R2 := fun x y H Q => ∃ l k xs, x = .ref l ∧ y = .int k ∧ H l = some (.lst xs) ∧ -(2 ^ 63) ≤ k ∧ k < 2 ^ 63 ∧ xs.length * k.toNat ≤ sizeLine ∧
  ∀ p, H p = none → Q (.ref p) (upd H p (.lst (List.replicate k.toNat xs).flatten))
theorem len_rep {α : Type} (xs : List α) (k : Nat) : (List.replicate k xs).flatten.length = k * xs.length := by
  induction k with
  | zero => simp
  | succ k ih => rw [List.replicate_succ, List.flatten_cons, List.length_append, ih, Nat.succ_mul, Nat.add_comm]
theorem op_rep : OpR X (binaryOp .Mult) rRep := by
  intro pins s σ H x y v u Q I rx ry h
  obtain ⟨l, k, xs, rfl, rfl, hH, h1, h2, hz, q⟩ := h
  cases rx
  obtain ⟨t, rfl⟩ := ry
  obtain ⟨z, its, n, r, hl, e⟩ := I.lstM hH
  have hlen : its.toArray.size * k.toNat ≤ sizeLine := by rw [List.size_toArray, ← hl]; exact hz
  have hcap : ¬ its.toArray.size * k.toNat > (2 ^ 63 - 1) / 8 := by
    have : (sizeLine : Nat) ≤ (2 ^ 63 - 1) / 8 := by decide
    omega
  have hfit : ¬ (!Builtin.List.listFitsIndex k) = true := by
    rw [fitsIndex_both h1 h2]
    exact Bool.false_ne_true
  have hlong : ¬ Builtin.List.listTooLong (its.toArray.size * k.toNat) = true := by
    rw [notLongL hlen]
    exact Bool.false_ne_true
  have hnew : List.foldl (fun x1 x2 => x1 ++ x2) #[] (List.replicate (if its.toArray.isEmpty = true then 0 else k.toNat) its.toArray) = (List.replicate k.toNat its).flatten.toArray := by
    have f0 : ∀ m : Nat, List.foldl (fun x1 x2 => x1 ++ x2) #[] (List.replicate m its.toArray) = (List.replicate m its).flatten.toArray := fun m => by
      have := foldl_rep its m []
      rw [List.nil_append] at this
      exact this
    rw [f0]
    cases its with
    | nil => simp
    | cons a r' => rw [if_neg (by simp)]
  refine wpAny_binaryOp_repeat_ref (T := "list") (U := "int") (by decide) ⟨_, e, rfl⟩ (fun s' => typeIs_int s' k t) noFill_list_mul F.fills_int_mul F.slot_int_rmul repeat_list F.slot_int_index.lookup
    (call_meets F.slot_int_rmul (typeIs_int s k t) F.entry_int_rmul (F.args_int_rmul_2 _ _) (int___rmul___int_list k t l its.toArray n)
      ⟨e, rfl, ⟨_, e, rfl⟩, call_meets F.slot_list_mul ⟨_, e, rfl⟩ F.entry_list_mul (F.args_list_mul_2 _ _) (AutoListH.list___mul___list_int_3 l its.toArray n k t hfit hcap hlong) ⟨e, ?_⟩⟩)
  rw [hnew]
  exact ⟨.ref _, _, I.lnew (t' := s.toks) (r.rep k.toNat) (by rw [len_rep, Nat.mul_comm]; exact hz), rfl, q _ I.fresh⟩

end

section
variable {prog : Program} {w : World} {A : Around} {E : Value → Shared → Prop} {s : Shared}
end

section
variable {X : Cx}
end
end L2

namespace Att
open PySem PySem.W PySem.Calls PyProof.Rows

theorem ints_of_wellAll {P : Params} {h : Heap} : ∀ (ns : List Int) (vs : List Value), WellAll P h vs (ns.map WData.int) → IntsAre vs ns := by
  intro ns
  induction ns with
  | nil =>
    intro vs w
    rw [List.map_nil] at w
    cases w
    exact .nil
  | cons n ns ih =>
    intro vs w
    rw [List.map_cons] at w
    cases w with
    | cons a b =>
      cases a
      exact .cons _ _ (ih _ b)

theorem script_of {l : OpenLaw} {n : Nat} (hn : l.most = some n) {P : Params} {h : Heap} {args : List WData} {vals : List Value}
    (hpre : l.row.toRowW.claim.pre args = true) (hwl : WellAll P h vals args) :
    ∃ a vs ns, vals = [Value.ref a] ∧ args = [WData.list (ns.map WData.int)] ∧ h.get? a = some { cls := .type "list", data := .seq vs.toArray } ∧ IntsAre vs ns ∧ ns.length ≤ n := by
  have hsh : WShape.hasAll [] args [.list .int] = true := (pre_splitW hpre).1
  have hc : l.pre.holds [] { args := args } = true := (pre_splitW hpre).2
  obtain ⟨d, r, rfl, h1, h2⟩ := hasAllW_cons hsh
  obtain rfl := hasAllW_nil h2
  obtain ⟨xs, rfl, h3⟩ := hasW_list h1
  obtain ⟨ns, rfl⟩ := items_int h3
  have hlen : ns.length ≤ n := by
    unfold OpenLaw.pre at hc
    have h4 : (WTm.not (.lt (.lit (.int (n : Int))) (.len (.arg 0)))).holds [] { args := [.list (ns.map .int)] } = true := by
      have h4 := (holds_andW hc).1
      rw [hn] at h4
      exact h4
    have h5 := condW_of h4 (w_not (w_lt w_lit (w_len_list (w_arg rfl))))
    rw [List.length_map] at h5
    refine Nat.le_of_not_lt fun q => ?_
    have q' : (n : Int) < ((ns.length : Nat) : Int) := by omega
    first
      | (rw [decide_eq_true q'] at h5; exact absurd h5 (by decide))
      | (simp at h5; omega)
  cases hwl with
  | cons w1 w2 =>
    cases w2
    cases w1 with
    | list ho hall => exact ⟨_, _, ns, rfl, rfl, ho, ints_of_wellAll ns _ hall, hlen⟩

theorem post_true (l : OpenLaw) (args : List WData) : l.row.toRowW.claim.post args (.bool true) args = true :=
  postW_of (r := l.row.toRowW) (X := (true == true))
    (show WShape.has [] (.bool true) .bool = true by first | rfl | decide | simp [WShape.has, WShape.arms, WShape.armsAll])
    (show (WTm.eq .res (.lit (.bool true))).value [] { args := args, res := some (.bool true), after := args } = some (.bool (true == true)) from w_eq_bool (w_res rfl) w_lit) rfl

theorem attach_call {l : OpenLaw} {n : Nat} {q : Program} {loose : List Str} {XP : (Str → Option Value) → Heap → Prop} {YP : World → Heap → Prop} {d : DefRec}
    (hn : l.most = some n) (hdf : d.params.defaults = [])
    (call : ∀ (w : World) (s₀ s₁ : Shared) (mg mb : Str → Option Value) (fa : Addr) (o : Obj) (pm cd doc : Value) (a : Addr) (vs : List Value) (ns : List Int),
      Ground q loose [] XP w s₀ mg mb s₁.heap → YP w s₁.heap →
      s₁.heap.get? fa = some o → o.data = .func (docDef d.name d.params d.body d.scope pm cd doc) → s₁.heap.CodeRec cd d.name → mg d.name = some (.ref fa) →
      s₁.heap.get? a = some { cls := .type "list", data := .seq vs.toArray } → IntsAre vs ns → ns.length ≤ n → s₁.gens = #[] →
      codeAny (model l.prog w) callerA (.call (.ref fa) ⟨[.ref a], []⟩) (fun r s' => r = .ok (.ret (.bool true)) ∧ OldK s₁.heap s'.heap ∧ s'.os = s₁.os ∧ AllBare s'.gens) s₁) :
    WalkO q loose XP YP l.row.toRowW d [] (fun f vs => PySem.call f vs) := by
  intro w s₀ s₁ mg mb G Y fa o pm cd doc dV kV ho hd hcd hD hmg hg args vals as hpre hlay hrd hwl hlo
  obtain rfl : dV = .none := Dflts.none hD hdf
  obtain rfl : kV = .none := Dflts.noKw hD
  obtain ⟨a, vs, ns, rfl, rfl, hobj, hints, hlen⟩ := script_of hn hpre hwl
  refine enter_call (codeAny_mono (call w s₀ s₁ mg mb fa o pm cd doc a vs ns G Y ho (fd_plain hd) hcd hmg hobj hints hlen hg) fun r s' hq => ?_)
  obtain ⟨rfl, h2, h3, h4⟩ := hq
  exact ⟨.inl ⟨.bool true, .bool true, [], rfl, fun _ => rfl, .bool true, post_true l _, fun _ => ⟨List.Pairwise.nil, fun _ hm => (nomatch hm)⟩⟩, h2, h3, h4⟩
section
variable {prog : Program} {w : World} {A : Around} {E : Value → Shared → Prop} {s : Shared} {K : Frag}
end
end Att

namespace L2
open PySem PySem.Spec PyProof.Rows

theorem vals_ints : ∀ {vs : List Value} {ns : List Int}, IntsAre vs ns → Vals (ns.map V.int) vs
  | _, _, .nil => .nil
  | _, _, .cons n t h => .cons ⟨t, rfl⟩ (vals_ints h)
noncomputable def Only (H : Hp) : Prop := ∀ b, H b = none ∨ ∃ o xs, H b = some (.frz o (.lst xs))
theorem law_call {P : Program} {w : World} {K : PySem.W.Frag} {mg mb : Str → Option Value} {CX : CXT} {k : Nat} {fa a : Addr} {fd : FuncData} {x : Str} {sp : Sp} {s₁ : Shared} {vs : List Value} {ns : List Int}
    (KX : K.In s₁.heap) (hns : s₁.heap.Ns mainGlobals mg) (hb : s₁.heap.Ns builtinsNs mb) (hbb : ∀ x : Str, x ≠ "__name__" → mb x = bootBuiltins x) (hlim : s₁.heap.NoLimit) (hg : s₁.gens = #[])
    (ha : s₁.heap.get? a = some { cls := .type "list", data := .seq vs.toArray }) (hi : IntsAre vs ns) (hl : ns.length ≤ sizeLine) (hr : Room k callerA)
    (F : ∀ base : Heap, K.In base → base.Ns mainGlobals mg → FnOk P w K mg base CX k fa fd [x] sp) (hbind : ∀ (s : Shared) (u : Value), BindsTo s fd ⟨[u], []⟩ [(x, u)])
    (hsp : ∀ H : Hp, Only H → SqL K H a (ns.map V.int) → sp [.ref a] H (fun v _ => v = .bl true) fun _ _ _ => False)
    (hCX : ∀ H e s', CX [] H s₁ (fun _ _ _ => False) e s' → False) :
    codeAny (model P w) callerA (.call (.ref fa) ⟨[.ref a], []⟩) (fun r s' => r = .ok (.ret (.bool true)) ∧ OldK s₁.heap s'.heap ∧ s'.os = s₁.os ∧ AllBare s'.gens) s₁ := by
  have rv := vals_ints hi
  have lenV := hi.length
  -- from an abstract heap in which nothing but the script may be tracked
  have core : ∀ H : Hp, Only H → SqL K H a (ns.map V.int) → HOk P w H s₁.heap → (∀ b, H b ≠ none → b = a) → (H a ≠ none → K.lookup a = none) →
      codeAny (model P w) callerA (.call (.ref fa) ⟨[.ref a], []⟩) (fun r s' => r = .ok (.ret (.bool true)) ∧ OldK s₁.heap s'.heap ∧ s'.os = s₁.os ∧ AllBare s'.gens) s₁ := by
    intro H hO hS hok hA hK
    have base_of : ∀ {b : Addr} {o : Obj}, s₁.heap.get? b = some o → H b = none → (hidT s₁.heap H).get? b = some o := fun e n => hidT_get e n
    have noA : ∀ {b : Addr} {o : Obj} {es : Array DictEntry} {ep : Nat}, s₁.heap.get? b = some o → o.data = .dict es ep → H b = none := fun {b o es ep} e d => by
      cases q : H b with
      | none => rfl
      | some u =>
        have e' : b = a := hA b (by rw [q]; simp)
        subst e'
        rw [ha] at e; cases e
        have d' : Data.seq vs.toArray _ = Data.dict es ep := d
        cases d'
    have nsK : ∀ {b : Addr} {m : Str → Option Value}, s₁.heap.Ns b m → (hidT s₁.heap H).Ns b m := fun {b m} ⟨o, es, ep, e, d, r⟩ => ⟨o, es, ep, base_of e (noA e d), d, r⟩
    have hKb : K.In (hidT s₁.heap H) := fun b o e => base_of (KX b o e) (by
      cases q : H b with
      | none => rfl
      | some u =>
        have e' : b = a := hA b (by rw [q]; simp)
        subst e'
        rw [hK (by rw [q]; simp)] at e; cases e)
    have hM : Mod K mg (hidT s₁.heap H) := ⟨hKb, nsK hns, ⟨mb, nsK hb, hbb⟩, let ⟨mc, h1, h2⟩ := hlim; ⟨mc, nsK h1, h2⟩⟩
    have e0 : Env0 P w K mg (hidT s₁.heap H) callerA [] s₁ H := ⟨rfl, hM, fun b o e => of_hidT e, Nat.le_of_eq (hidT_size _ _), trivial, fun b hb => absurd (show b ∈ ([] : List Addr) from hb) (by simp), hok, .of_eq hg⟩
    refine codeAny_mono ((F _ hKb (nsK hns)).run callerA [] s₁ H ⟨[.ref a], []⟩ [.ref a] [.ref a] _ _ hr e0 (hbind s₁ (.ref a)) (.cons rfl .nil) (hsp H hO hS)) fun r s' h => ?_
    cases r with
    | error e => exact (hCX H e s' h).elim
    | ok fl =>
      cases fl with
      | next => exact False.elim h
      | brk => exact False.elim h
      | cont => exact False.elim h
      | ret u =>
        obtain ⟨v, H', os, bare, un, hok', r', q⟩ := h
        have q' : v = .bl true := q
        subst q'
        obtain rfl : u = Value.bool true := r'
        refine ⟨rfl, OldK.of_keep fun b o e => ?_, os, bare⟩
        cases q : H b with
        | none => exact un.keep b o e q (by intro z; exact absurd (show b ∈ ([] : List Addr) from z) (by simp)) (by simp)
        | some u =>
          rcases hO b with z | ⟨ob, xs, z⟩
          · rw [q] at z; cases z
          · have z2 := un.frzs b ob _ z
            obtain ⟨e1, _⟩ := hok b _ z
            obtain ⟨e2, _⟩ := hok' b _ z2
            rw [e] at e1; cases e1
            exact e2
  cases hk : K.lookup a with
  | some o =>
    -- the script is one of the module's own objects
    have e := KX a o hk
    rw [ha] at e
    cases e
    refine core (fun _ => none) (fun _ => .inl rfl) (.inr ⟨_, vs.toArray, _, hk, rfl, rfl, rfl, by rw [List.size_toArray, lenV]; exact hl, by simpa using rv⟩) (fun b u z => by have z' : (none : Option HO) = some u := z; cases z') (fun b z => absurd rfl z) fun z => absurd rfl z
  | none =>
    refine core (fun b => if b = a then some (.frz { cls := .type "list", data := .seq vs.toArray } (.lst (ns.map V.int))) else none) (fun b => ?_) (.inl (.inr ⟨{ cls := .type "list", data := .seq vs.toArray }, if_pos rfl⟩)) (fun b u z => ?_) (fun b z => ?_) fun _ => hk
    · by_cases hb : b = a
      · exact .inr ⟨_, _, if_pos hb⟩
      · exact .inl (if_neg hb)
    · by_cases hb : b = a
      · have z' := (if_pos hb).symm.trans z
        cases z'
        subst hb
        exact ⟨ha, by rw [List.length_map]; exact hl, vs, _, rv, ha⟩
      · have z' := (if_neg hb).symm.trans z
        cases z'
    · by_cases hb : b = a
      · exact hb
      · exact absurd (if_neg hb) z
end L2

namespace L2
open PySem PySem.Spec PyProof.Rows

noncomputable abbrev KOf {K : PySem.W.Frag} {h : Heap} (_ : K.In h) : PySem.W.Frag := K
theorem walk_of {l : PySem.W.OpenLaw} {n k : Nat} {q : Program} {loose : List Str} {XP : (Str → Option Value) → Heap → Prop} {YP : World → Heap → Prop} {d : DefRec} {K : Params → PySem.W.Frag} {CX : World → CXT} {sp : World → Sp} {x : Str}
    (hn : l.most = some n) (hn2 : n ≤ sizeLine) (hdf : d.params.defaults = []) (hr : Room k callerA)
    (hY : ∀ (w : World) (h : Heap), YP w h → (K w.params).In h)
    (F : ∀ (w : World) (mg : Str → Option Value) (fa : Addr) (h : Heap), (K w.params).In h → h.Ns mainGlobals mg → mg d.name = some (.ref fa) →
      ∃ fd : FuncData, (∀ (s : Shared) (u : Value), BindsTo s fd ⟨[u], []⟩ [(x, u)]) ∧
        ∀ base : Heap, (K w.params).In base → base.Ns mainGlobals mg → FnOk l.prog w (K w.params) mg base (CX w) k fa fd [x] (sp w))
    (hsp : ∀ (w : World) (H : Hp) (a : Addr) (ns : List Int), ns.length ≤ n → Only H → SqL (K w.params) H a (ns.map V.int) → sp w [.ref a] H (fun v _ => v = .bl true) fun _ _ _ => False)
    (hCX : ∀ (w : World) (H : Hp) (s : Shared) (e : Value) (s' : Shared), CX w [] H s (fun _ _ _ => False) e s' → False) :
    PySem.W.WalkO q loose XP YP l.row.toRowW d [] (fun f vs => PySem.call f vs) := by
  refine Att.attach_call hn hdf fun w s₀ s₁ mg mb fa o pm cd doc a vs ns G Y ho hd hcd hmg hobj hints hlen hg => ?_
  have KX := hY w _ Y
  obtain ⟨fd, hb, hF⟩ := F w mg fa _ KX G.T.g hmg
  exact law_call KX G.T.g G.T.b G.T.builtins G.T.nolimit hg hobj hints (Nat.le_trans hlen hn2) hr hF hb (fun H hO hS => hsp w H a ns hlen hO hS) fun H e s' => hCX w H s₁ e s'
end L2

/- THE LAST THEOREM (shape; LID, My.* are yours):
   My.Adr: a structure of the addresses that your layer names (classes, functions); My.Txt K t: a structure (Prop) of the equations over K;
   My.txt_mk : {K} {implicit addresses ..} (e1 : nsIn K mainGlobals "law" = some (some (.ref f))) (e2 : K.lookup f = some ⟨oc, od, .func (fnOf "law" "law" params body scope dV kV doc pm an cdv ct), sl⟩) (e3 : codeIn K cdv "law" = true) .. : ∃ t, My.Txt K t

set_option maxRecDepth 100000 in
set_option maxHeartbeats 0 in
theorem PySem.Challenge.cw_LID_holds : PySem.Challenge.rw_LID.Holds := by
  w_on; o_law; k_head; (case hw => w_witness2)
  k_fill
  refine L2.walk_of (l := PySem.Challenge.rw_LID) (n := 63) (k := 40) (x := "script") (CX := fun w => ..) (sp := fun _ => My.sp_law) rfl (by decide) rfl ⟨rfl, by decide, by decide⟩ (fun w h Y => PySem.W.kIn_of Y) ?F ?S ?C
  case F =>
    intro w mg fa h KX G hmg
    have T : ∃ t, My.Txt (L2.KOf KX) t := by
      dsimp only [L2.KOf]                          -- K must stand as «<heap const> w.params» for k_is
      refine' My.txt_mk ?e1 ?e2 ?e3 ..
      (case e1 => PySem.W.k_is)                    -- in the order: a name -> its address -> its object -> its parts
      (case e2 => PySem.W.k_is)
      ..
    obtain ⟨t, T⟩ := T
    have e0 := hmg.symm.trans (PySem.W.mg_of KX G T.law)
    cases e0                                       -- fa is the law's own address
    exact ⟨_, fun s u => .of_eq rfl, fun base kb nb => My.law_fn T kb nb⟩     -- if «.of_eq rfl» comes too early: refine' ⟨_, ?b, fun base kb nb => My.law_fn T kb nb⟩; exact fun s u => .of_eq rfl
  case S => exact fun w H a ns hl hO hS => ..
  case C => exact ..
(the tactic k_is has no namespace: write k_is) -/

namespace L2
open PySem PySem.Spec PyProof.Rows

noncomputable def defArgs (s : Stmt) : Arguments := match s with
  | .FunctionDef _ a _ _ _ _ _ _ _ _ => a
  | _ => { posonlyargs := [], args := [], vararg := none, kwonlyargs := [], kw_defaults := [], kwarg := none, defaults := [] }
noncomputable def defBody (s : Stmt) : List Stmt := match s with
  | .FunctionDef _ _ b _ _ _ _ _ _ _ => b
  | _ => []
noncomputable def defScope (s : Stmt) : Scope := match s with
  | .FunctionDef _ _ _ _ _ _ sc _ _ _ => sc
  | _ => { kind := .function, names := [], isGenerator := false, isCoroutine := false }

noncomputable abbrev CX0 : CXT := fun _ _ _ _ _ _ => False
noncomputable abbrev E0 : XK := fun _ _ _ => False
theorem pass0 {X : Cx} : Passes CX0 X E0 := fun _ _ _ _ _ _ _ h => h.elim

structure Fun (K : PySem.W.Frag) (x qual : Str) (st : Stmt) (f : Addr) (fd : FuncData) : Prop where
  ex : ∃ (oc : Value) (od : Option Addr) (kV doc pm : Value) (an : Option Addr) (cdv ct : Value) (osl : Array (Option Value)),
    fd = PySem.W.fnOf x qual (defArgs st) (defBody st) (defScope st) .none kV doc pm an cdv ct ∧ K.lookup f = some ⟨oc, od, .func fd, osl⟩ ∧ PySem.W.codeIn K cdv qual = true
  kp : PySem.W.keepIn K (.ref f) = true
section
variable {P : Program} {w : World} {K : PySem.W.Frag} {mg : Str → Option Value} {base : Heap}
theorem Fun.ok {x qual : Str} {st : Stmt} {f : Addr} {fd : FuncData} {N ps : List Str} {k : Nat} {sp : Sp} (F : Fun K x qual st f fd) (S : FnScope N ps (defScope st)) (len : ∀ vs H Q E, sp vs H Q E → vs.length = ps.length)
    (hbody : ∀ (cdv : Value) (A : Around) (outer : List Env) (s : Shared) (H : Hp) (vs : List V) (Q : VK) (E : XK), Room k (A.deeper (envOfC qual (defScope st) s.heap.objs.size f cdv)) → sp vs H Q E →
      ∃ t, PSs (cxOf CX0 P w K mg base N qual (defScope st) f cdv A outer s H E).nox (defBody st) t ∧ t { nx := fun _ H' => Q .non H', rt := Q } (start N vs) H) : FnOk P w K mg base CX0 (k + 1) f fd ps sp := by
  obtain ⟨oc, od, kV, doc, pm, an, cdv, ct, osl, rfl, lk, hcd⟩ := F.ex
  refine fn_of lk hcd S len fun A outer s H vs Q E hr hsp => ?_
  obtain ⟨t, h, q⟩ := hbody cdv A outer s H vs Q E hr hsp
  exact ⟨t, h.nox, q⟩
theorem Fun.binds {x qual : Str} {st : Stmt} {f : Addr} {fd : FuncData} {ps : List Str} (F : Fun K x qual st f fd)
    (h : ∀ (kV doc pm : Value) (an : Option Addr) (cdv ct : Value) (us : List Value), us.length = ps.length → bindArgs (PySem.W.fnOf x qual (defArgs st) (defBody st) (defScope st) .none kV doc pm an cdv ct) ⟨us, []⟩ = pure (ps.zip us)) : Binds K fd ps [] := by
  obtain ⟨oc, od, kV, doc, pm, an, cdv, ct, osl, rfl, lk, hcd⟩ := F.ex
  exact .all (h kV doc pm an cdv ct)
theorem fun_mk {x qual : Str} {st : Stmt} {f : Addr} {oc : Value} {od an : Option Addr} {osl : Array (Option Value)} {kV doc pm cdv ct : Value} (l : K.lookup f = some ⟨oc, od, .func (PySem.W.fnOf x qual (defArgs st) (defBody st) (defScope st) .none kV doc pm an cdv ct), osl⟩)
    (c : PySem.W.codeIn K cdv qual = true) (k : PySem.W.keepIn K (.ref f) = true) : Fun K x qual st f (PySem.W.fnOf x qual (defArgs st) (defBody st) (defScope st) .none kV doc pm an cdv ct) := ⟨⟨oc, od, kV, doc, pm, an, cdv, ct, osl, rfl, l, c⟩, k⟩
end
theorem hu_of {A : Around} {k : Nat} (hr : Room k A) : A.units + 1 < cLine := Nat.lt_of_le_of_lt (Nat.add_le_add_left (by decide : 1 ≤ 64) _) hr.units
theorem small1000 {n : Nat} (h : n ≤ 1000) : n < sizeLine := Nat.lt_of_le_of_lt h (by decide)

section
variable {X : Cx}
theorem pv (i : Nat) {x : Str} {pos : Pos} (hN : X.N[i]? = some x := by rfl) (hv : Vis X.env.scope x := by first | exact Or.inl rfl | exact Or.inr (Or.inl rfl) | exact Or.inr (Or.inr rfl)) (hd : (x == ("__debug__" : Str)) = false := by decide)
    (hcd : (x == ("__classdict__" : Str)) = false := by decide) : PE X (.Name x pos) (tVar i) := pe_var hN hv hd hcd
end

theorem iteF {A B : Prop} (h : B) : if false = true then A else B := by
  rw [if_neg Bool.false_ne_true]
  exact h
theorem iteT {A B : Prop} (h : A) : if true = true then A else B := by
  rw [if_pos rfl]
  exact h
theorem ite2 {c A B : Prop} [Decidable c] (h1 : c → A) (h2 : ¬ c → B) : if c then A else B := by
  by_cases h : c
  · rw [if_pos h]
    exact h1 h
  · rw [if_neg h]
    exact h2 h
noncomputable def Same (H H' : Hp) : Prop := ∀ b o, H b = some o → H' b = some o
theorem Same.refl (H : Hp) : Same H H := fun _ _ h => h
theorem Same.trans {H H1 H2 : Hp} (a : Same H H1) (b : Same H1 H2) : Same H H2 := fun c o h => b c o (a c o h)
theorem Same.free {H H' : Hp} (e : Same H H') {l : Addr} (h : H' l = Option.none) : H l = Option.none := by
  cases q : H l with
  | none => rfl
  | some o =>
    rw [e l o q] at h
    cases h
theorem Same.seq {K : PySem.W.Frag} {H H' : Hp} {a : Addr} {xs : List V} (e : Same H H') (h : SqL K H a xs) : SqL K H' a xs := by
  rcases h with (h | ⟨o, h⟩) | h
  · exact .inl (.inl (e _ _ h))
  · exact .inl (.inr ⟨o, e _ _ h⟩)
  · exact .inr h

end L2


namespace L2
open PySem PySem.Spec PyProof.Rows
section
variable {X : Cx}
end
section
variable {κ : Type} [DecidableEq κ]
end
end L2


namespace L2
open PySem PySem.Spec PyProof.Rows
noncomputable def closL (env : Env) : List (Str × NameKind) → List (Str × Addr) → List (Str × Addr)
  | [], acc => acc
  | (n, k) :: r, acc => closL env r (if (k == .free) = true then (n, (env.cells.lookup n).getD 0) :: acc else acc)
theorem closureFor_eq {scope : Scope} {env : Env} (h : ∀ x ∈ scope.names, x.2 = .free → ∃ c, env.cells.lookup x.1 = some c) : closureFor scope env = pure (closL env scope.names []) := by
  have go : ∀ (names : List (Str × NameKind)) (acc : List (Str × Addr)), (∀ x ∈ names, x.2 = .free → ∃ c, env.cells.lookup x.1 = some c) →
      (forIn names acc (fun (x : Str × NameKind) (cs : List (Str × Addr)) => if (x.2 == NameKind.free) = true then (do let a ← cellOf env x.1; pure (ForInStep.yield ((x.1, a) :: cs))) else pure (ForInStep.yield cs)) : Sem (List (Str × Addr))) = pure (closL env names acc) := by
    intro names
    induction names with
    | nil => intro acc _; rfl
    | cons x r ih =>
      intro acc hx
      obtain ⟨n, k⟩ := x
      rw [List.forIn_cons]
      by_cases hk : (k == NameKind.free) = true
      · obtain ⟨c, hc⟩ := hx (n, k) List.mem_cons_self (by simpa using hk)
        have hc : env.cells.lookup n = some c := hc
        have e : cellOf env n = pure c := by unfold cellOf; rw [hc]
        show ((if (k == NameKind.free) = true then (do let a ← cellOf env n; pure (ForInStep.yield ((n, a) :: acc))) else pure (ForInStep.yield acc)) >>= _) = _
        rw [if_pos hk, e]
        simp only [pure_bind]
        rw [ih _ fun y hy => hx y (List.mem_cons_of_mem _ hy)]
        conv => rhs; unfold closL
        rw [if_pos hk, hc]
        rfl
      · show ((if (k == NameKind.free) = true then (do let a ← cellOf env n; pure (ForInStep.yield ((n, a) :: acc))) else pure (ForInStep.yield acc)) >>= _) = _
        rw [if_neg hk]
        simp only [pure_bind]
        rw [ih _ fun y hy => hx y (List.mem_cons_of_mem _ hy)]
        conv => rhs; unfold closL
        rw [if_neg hk]
  have q := go scope.names [] h
  unfold closureFor
  simp only [bind_pure]
  exact q
theorem closL_mem {env : Env} {n : Str} {c : Addr} : ∀ (names : List (Str × NameKind)) (acc : List (Str × Addr)), (∀ x ∈ names, x.2 = .free → ∃ c, env.cells.lookup x.1 = some c) → (∀ n c, acc.lookup n = some c → env.cells.lookup n = some c) →
    (closL env names acc).lookup n = some c → env.cells.lookup n = some c
  | [], acc, _, ha, h => ha n c h
  | (x, k) :: r, acc, hx, ha, h => by
    unfold closL at h
    refine closL_mem r _ (fun y hy => hx y (List.mem_cons_of_mem _ hy)) ?_ h
    intro n' c' h'
    by_cases hk : (k == NameKind.free) = true
    · rw [if_pos hk, List.lookup_cons] at h'
      obtain ⟨d, hd⟩ := hx (x, k) List.mem_cons_self (by simpa using hk)
      have hd : env.cells.lookup x = some d := hd
      split at h'
      · rename_i hb
        have e : n' = x := by simpa using hb
        rw [hd] at h'
        rw [e, hd]
        exact h'
      · exact ha n' c' h'
    · rw [if_neg hk] at h'
      exact ha n' c' h'
theorem closL_acc {env : Env} {n : Str} : ∀ (names : List (Str × NameKind)) (acc : List (Str × Addr)), (acc.lookup n).isSome = true → ((closL env names acc).lookup n).isSome = true
  | [], acc, h => h
  | (x, k) :: r, acc, h => by
    unfold closL
    refine closL_acc r _ ?_
    by_cases hk : (k == NameKind.free) = true
    · rw [if_pos hk, List.lookup_cons]
      split
      · rfl
      · exact h
    · rw [if_neg hk]; exact h
theorem closL_has {env : Env} {n : Str} : ∀ (names : List (Str × NameKind)) (acc : List (Str × Addr)), (n, NameKind.free) ∈ names → ((closL env names acc).lookup n).isSome = true
  | [], acc, h => by cases h
  | (x, k) :: r, acc, h => by
    rcases List.mem_cons.mp h with e | e
    · cases e
      unfold closL
      refine closL_acc r _ ?_
      rw [if_pos (by rfl), List.lookup_cons]
      simp
    · unfold closL
      exact closL_has r _ e
theorem closL_look {env : Env} {n : Str} {names : List (Str × NameKind)} (hx : ∀ x ∈ names, x.2 = .free → ∃ c, env.cells.lookup x.1 = some c) (h : (n, NameKind.free) ∈ names) : (closL env names []).lookup n = env.cells.lookup n := by
  obtain ⟨c, hc⟩ := Option.isSome_iff_exists.mp (closL_has (env := env) names [] h)
  rw [hc]
  exact (closL_mem names [] hx (fun _ _ z => by cases z) hc).symm

theorem relab_of {scope : Scope} {env : Env} {x : Str} {k : NameKind} (hcell : ∀ y ∈ scope.names, y.2 ≠ .cell) (h : (relabel scope env).names.lookup x = some k) (hk : k = .cell ∨ k = .free) : (x, NameKind.free) ∈ scope.names := by
  have m := PySem.mem_of_lookup h
  obtain ⟨⟨n, j⟩, hm, e⟩ := List.mem_map.mp m
  have hj := hcell _ hm
  dsimp only at e hj
  split at e
  · rename_i hc
    have : j = .free := by
      have := (Bool.and_eq_true _ _ |>.mp (Bool.and_eq_true _ _ |>.mp hc).1).1
      simpa using this
    cases e
    subst this
    exact hm
  · cases e
    rcases hk with z | z
    · exact absurd z hj
    · subst z; exact hm

theorem relab_go {env : Env} : ∀ {names : List (Str × NameKind)} {x : Str}, names.lookup x = some .free →
    (names.map fun (n, k) => if (k == NameKind.free && env.scope.kind == .function && env.kindOf n == some .cell) then (n, NameKind.cell) else (n, k)).lookup x = some .cell ∨
    (names.map fun (n, k) => if (k == NameKind.free && env.scope.kind == .function && env.kindOf n == some .cell) then (n, NameKind.cell) else (n, k)).lookup x = some .free
  | [], _, h => by simp at h
  | (n, k) :: r, x, h => by
    have ih := @relab_go env r x
    rw [List.map_cons]
    dsimp only
    rw [List.lookup_cons] at h
    by_cases hx : (x == n) = true
    · rw [hx] at h
      have h : k = .free := Option.some.inj h
      by_cases hc : (k == NameKind.free && env.scope.kind == .function && env.kindOf n == some .cell) = true
      · rw [if_pos hc, List.lookup_cons, hx]; exact .inl rfl
      · rw [if_neg hc, List.lookup_cons, hx, h]; exact .inr rfl
    · have hx : (x == n) = false := by simpa using hx
      rw [hx] at h
      by_cases hc : (k == NameKind.free && env.scope.kind == .function && env.kindOf n == some .cell) = true
      · rw [if_pos hc, List.lookup_cons, hx]; exact ih h
      · rw [if_neg hc, List.lookup_cons, hx]; exact ih h
theorem relab_free {scope : Scope} {env : Env} {x : Str} (h : scope.names.lookup x = some .free) : (relabel scope env).names.lookup x = some .cell ∨ (relabel scope env).names.lookup x = some .free := relab_go h

theorem comp_turns {prog : Program} {w : World} {A : Around} {R : Result → Shared → Prop} {s : Shared} {elt tg iter : Expr} {ifs : List Expr} {scope : Scope} {pos : Pos} {it acc : Value} {env : Env} (J : Nat → Shared → Prop)
    (turn : ∀ n s, J n s → wpAny (model prog w) A (pyNext it) (fun r s1 => match r with
        | none => R (.ok .next) s1
        | some v => wpAny (model prog w) A (letOwnedTupleGo tg it v) (fun _ s2 => wpAny (model prog w) A (assign tg env v) (fun _ s3 =>
            wpAny (model prog w) A (forIn ifs true fun c r => if r = true then do let ok ← isTrue c env (eval c env); pure (ForInStep.yield ok) else pure (ForInStep.yield r)) (fun ok s4 =>
              if ok = true then wpAny (model prog w) A (eval elt env) (fun x s5 => wpAny (model prog w) A (call (.builtin "list.append") [acc, x]) (fun _ s6 => ∃ m, m < n ∧ J m s6) (fun _ _ => False) s5) (fun _ _ => False) s4
              else ∃ m, m < n ∧ J m s4) (fun _ _ => False) s3) (fun _ _ => False) s2) (fun _ _ => False) s1) (fun _ _ => False) s)
    (n : Nat) (h : J n s) : codeAny (model prog w) A (.compLoop (.ListComp elt [⟨tg, iter, ifs, 0⟩] scope pos) 0 it acc env) R s := by
  refine codeAny_loop rfl J (fun n s hJ => ?_) n h
  show wpAny _ A ((compTurn (.ListComp elt [⟨tg, iter, ifs, 0⟩] scope pos) 0 it acc env).onRaise (fun x => do noteFrame x env; theTreesLotGoes x)) _ _ s
  refine wpAny_noted ?_
  rw [compTurn_list]
  refine wpAny_bind (wpAny_standAt (wpAny_bind (wpAny_mono (turn n s hJ) (fun r s1 h1 => ?_) fun _ _ z => z.elim)))
  cases r with
  | none => exact wpAny_pure h1
  | some v =>
    refine wpAny_bind (wpAny_mono h1 (fun _ s2 h2 => wpAny_bind (wpAny_mono h2 (fun _ s3 h3 => wpAny_bind (wpAny_mono h3 (fun ok s4 h4 => ?_) fun _ _ z => z.elim)) fun _ _ z => z.elim)) fun _ _ z => z.elim)
    cases ok with
    | false => exact wpAny_pure ⟨rfl, h4⟩
    | true =>
      exact wpAny_bind (wpAny_bind (wpAny_mono h4 (fun x s5 h5 => wpAny_bind (wpAny_mono h5 (fun _ s6 h6 => wpAny_pure (wpAny_pure ⟨rfl, h6⟩)) fun _ _ z => z.elim)) fun _ _ z => z.elim))

noncomputable def cxIn (X : Cx) (N' : List Str) (scope : Scope) (s₃ : Shared) (H₃ : Hp) (fp : List Addr) : Cx :=
  { X with N := N', s₀ := s₃, H₀ := H₃, env := compEnvC scope (closL X.env scope.names []) s₃.heap.objs.size X.env, outer := X.stack, ex := fp, fn := fun _ => false, pn := [], xe := fun _ _ => False }
noncomputable def capV (σ : St) (caps : List Nat) : St := caps.map fun j => (σ[j]?).getD none
theorem capV_length (σ : St) (caps : List Nat) : (capV σ caps).length = caps.length := List.length_map ..
noncomputable def tTrue : TT := fun _ H Q => Q true H
structure CompOk (X : Cx) (x : Str) (xs : List Str) (caps : List Nat) (scope : Scope) (osc : Scope) : Prop where
  eqs : X.env.scope = osc
  kind : scope.kind = .function
  cell : ∀ y ∈ scope.names, y.2 ≠ .cell
  names : ∀ y ∈ scope.names, y.2 = .local → scope.names.lookup y.1 = some .local
  loc : scope.names.lookup x = some .local
  nd : (x :: xs).Nodup
  nofl : ∀ y ∈ scope.names, y.2 = .free → scope.names.lookup y.1 = some .free
  frees : ∀ y ∈ scope.names, y.2 = .free → osc.names.lookup y.1 = some .cell
  caps : Paired (fun (j : Nat) (n : Str) => X.N[j]? = some n ∧ (n, NameKind.free) ∈ scope.names) caps xs
section
variable {X : Cx} {x : Str} {xs : List Str} {caps : List Nat} {scope osc : Scope} {pins : List (Addr × Obj)} {σ : St} {H : Hp} {s : Shared}
theorem CompOk.hasC (C : CompOk X x xs caps scope osc) (ok : X.Ok) : ∀ y ∈ scope.names, y.2 = .free → ∃ c, X.env.cells.lookup y.1 = some c := fun y hy hf =>
  ok.has y.1 (.inl (by show X.env.scope.names.lookup y.1 = _; rw [C.eqs]; exact C.frees y hy hf))
theorem Paired.at {α β : Type} {F : α → β → Prop} {l : List α} {m : List β} {i : Nat} {b : β} (h : Paired F l m) (e : m[i]? = some b) : ∃ a, l[i]? = some a ∧ F a b := by
  induction h generalizing i with
  | nil => rw [List.getElem?_nil] at e; cases e
  | cons r _ ih =>
    cases i with
    | zero =>
      obtain rfl := Option.some.inj e
      exact ⟨_, rfl, r⟩
    | succ i => exact ih e
theorem comp_inv {fp : List Addr} {h' : Heap} {tk : Nat} (C : CompOk X x xs caps scope osc) (I : Inv X pins σ H s) (hf : ∀ b ∈ fp, FpOk X pins H b) (hb : ∀ b ∈ fp, b < s.heap.objs.size)
    (hns : h'.Ns s.heap.objs.size (fun _ => none)) (hk : ∀ b o, s.heap.get? b = some o → h'.get? b = some o) :
    Inv (cxIn X (x :: xs) scope s H fp) [] (none :: capV σ caps) H { s with heap := h', toks := tk } := by
  have hx := C.hasC I.ok
  have look : ∀ n c, (closL X.env scope.names []).lookup n = some c → X.env.cells.lookup n = some c := fun n c h => closL_mem scope.names [] hx (fun _ _ z => by cases z) h
  have lenC : caps.length = xs.length := Paired.length C.caps
  refine ⟨⟨I.ok.mod, C.kind, I.ok.glob, I.ok.blt, Nat.le_refl _, fun y z c h1 h2 => I.ok.inj y z c (look y c h1) (look z c h2), fun y hy => ?_, fun y c hfn _ => ?_, I.ok.hd, I.ok.frames, .inl rfl, fun b hbf => ⟨Nat.ne_of_lt (hb b hbf), fun y c h => (hf b hbf).2.2.2.2.1 y c (look y c h)⟩, I.bs, Nat.le_trans I.ok.bsz I.sz, fun b o e hbf => ?_, fun b hbf hs => ?_, I.stack, I.stkFree⟩,
    rfl, I.bare, Un.kept hk, ⟨_, hns, fun i y v h1 h2 h3 => ?_⟩, fun y c h => ?_, I.hok.fresh (Nat.le_refl _), fun y c h => I.freeC y c (look y c h), fun p hp => absurd (show p ∈ ([] : List (Addr × Obj)) from hp) (by simp), I.hok.kept hk, ?_⟩
  · have hy : (relabel scope X.env).names.lookup y = some .cell ∨ (relabel scope X.env).names.lookup y = some .free := hy
    have m : (y, NameKind.free) ∈ scope.names := by
      rcases hy with z | z
      · exact relab_of C.cell z (.inl rfl)
      · exact relab_of C.cell z (.inr rfl)
    exact Option.isSome_iff_exists.mp (closL_has scope.names [] m)
  · cases hfn
  · obtain ⟨f0, f1, f2, f3, f4, f5⟩ := hf b hbf
    rcases f3 with z | z
    · exact I.ok.noex b o e z
    · have := Heap.lt_size (I.ok.bs b o e).1
      exact absurd (Nat.lt_of_lt_of_le this z) (Nat.lt_irrefl _)
  · obtain ⟨f0, f1, f2, f3, f4, f5⟩ := hf b hbf
    rcases List.mem_cons.mp (I.stkSub b hs) with z | z
    · exact f1 z
    · exact f2 z
  · cases i with
    | zero =>
      have h2 : some (none : Option V) = some (some v) := h2
      cases h2
    | succ i =>
      have h1 : xs[i]? = some y := by simpa [cxIn] using h1
      have h2 : (capV σ caps)[i]? = some (some v) := by simpa using h2
      obtain ⟨j, hj, hN, hm⟩ := L2.Paired.at C.caps h1
      have e2 : σ[j]? = some (some v) := by
        unfold capV at h2
        rw [List.getElem?_map, hj] at h2
        have h2 : (σ[j]?).getD none = some v := Option.some.inj h2
        cases q : σ[j]? with
        | none => rw [q] at h2; cases h2
        | some u => rw [q] at h2; have h2 : u = some v := h2; rw [h2]
      have ky : X.env.scope.names.lookup y = some .cell := by rw [C.eqs]; exact C.frees _ hm rfl
      obtain ⟨m, _, hl⟩ := I.loc
      obtain ⟨u, r, l⟩ := hl j y v hN e2 (.inr (.inl ky))
      refine ⟨u, r, ?_⟩
      rcases l with ⟨k, _⟩ | ⟨_, c, hc, o, ho, hd⟩
      · have k : X.env.scope.names.lookup y = some .local := k
        rw [ky] at k; cases k
      · have nl := relab_free (env := X.env) (C.nofl _ hm rfl)
        exact .inr ⟨nl, c, (closL_look hx hm).trans hc, o, hk c o ho, hd⟩
  · obtain ⟨v, o, ho, hd⟩ := I.cell y c (look y c h)
    exact ⟨v, o, hk c o ho, hd⟩
  · show (none :: capV σ caps).length = (x :: xs).length
    rw [List.length_cons, List.length_cons, capV_length, lenC]
noncomputable def CompG (J : It) (tt : TT) (te : TE) (cs : St) (H1 : Hp) (Q : VK) : Prop := ∀ l, H1 l = none → ∃ W : Nat → Nat → List V → Hp → Prop, (∃ m, W 0 m [] (upd H1 l (.lst []))) ∧ ∀ i m ys H2, W i m ys H2 →
  H2 l = some (.lst ys) ∧ ((J.stop i H2 ∧ Q (.ref l) H2) ∨ (J.go i H2 ∧ ys.length < sizeLine ∧ ∀ y H3, J.yld i H2 y H3 → tt (some y :: cs) H3 fun b H4 =>
    if b = true then te (some y :: cs) H4 fun z H5 => H5 l = some (.lst ys) ∧ ∃ m', m' < m ∧ W (i + 1) m' (ys ++ [z]) (upd H5 l (.lst (ys ++ [z]))) else ∃ m', m' < m ∧ W (i + 1) m' ys H4))
noncomputable def tComp (caps : List Nat) (wi : TI) (tt : TT) (te : TE) : TE := fun σ H Q => wi σ H fun J H1 => CompG J tt te (capV σ caps) H1 Q
noncomputable def PIfs (X : Cx) (ifs : List Expr) (tt : TT) : Prop :=
  ∀ (pins : List (Addr × Obj)) (s : Shared) (σ : St) (H : Hp) (Q : Bool → Hp → Prop), Inv X pins σ H s → tt σ H Q →
    wpAny (model X.prog X.w) X.A (forIn ifs true fun c r => if r = true then do let ok ← isTrue c X.env (eval c X.env); pure (ForInStep.yield ok) else pure (ForInStep.yield r)) (TP X pins σ Q) X.xe s
theorem pifs_nil : PIfs X [] tTrue := fun _ _ _ H _ I h => wpAny_tests_nil ⟨H, I, h⟩
theorem pifs_one {c : Expr} {tt : TT} (h : PT X c tt) : PIfs X [c] tt := fun pins s σ H Q I hq => wpAny_tests_one (h pins s σ H Q I hq)

theorem comp_core {elt iter : Expr} {px : Pos} {ifs : List Expr} {pos : Pos} {tt : TT} {te : TE} {Rr : Result → Shared → Prop} {it : Addr} {fp : List Addr} {tn : Nat → Heap → Prop} {J : It} {Q : VK} (hc : X.calm = true) (C : CompOk X x xs caps scope osc)
    (he : ∀ s₃ H₃ fp, PE (cxIn X (x :: xs) scope s₃ H₃ fp) elt te) (hi : ∀ s₃ H₃ fp, PIfs (cxIn X (x :: xs) scope s₃ H₃ fp) ifs tt)
    {s3 : Shared} {H3 : Hp} {l : Addr} (I3 : Inv X pins σ H3 s3) (T : Turn X.prog X.w X.K (.Name x px) J fp it tn) (st3 : tn 0 s3.heap) (hf : ∀ b ∈ fp, FpOk X pins H3 b)
    {W : Nat → Nat → List V → Hp → Prop} {m0 : Nat} (w0 : W 0 m0 [] H3)
    (turn : ∀ i m ys H4, W i m ys H4 → H4 l = some (.lst ys) ∧ ((J.stop i H4 ∧ Q (.ref l) H4) ∨ (J.go i H4 ∧ ys.length < sizeLine ∧ ∀ y H5, J.yld i H4 y H5 → tt (some y :: capV σ caps) H5 fun b H6 =>
      if b = true then te (some y :: capV σ caps) H6 fun z H7 => H7 l = some (.lst ys) ∧ ∃ m', m' < m ∧ W (i + 1) m' (ys ++ [z]) (upd H7 l (.lst (ys ++ [z]))) else ∃ m', m' < m ∧ W (i + 1) m' ys H6)))
    (fin : ∀ (s' : Shared) (H' : Hp), Inv X pins σ H' s' → Q (.ref l) H' → (∃ m, s'.heap.Ns s3.heap.objs.size m) → FpOk X pins H' s3.heap.objs.size → Rr (.ok .next) s') :
    wpAny (model X.prog X.w) X.A (newFunctionEnv scope X.env.globals (closL X.env scope.names []) [] X.env.qual none .none (some X.env)) (fun cenv s4 =>
      cenv.locals = s3.heap.objs.size ∧ codeAny (model X.prog X.w) X.A (.compStart (.ListComp elt [⟨.Name x px, iter, ifs, 0⟩] scope pos) 0 (.ref it) (.ref l) { cenv with scope := relabel scope X.env }) Rr s4) X.xe s3 := by
  refine wpAny_newFunctionEnv C.cell (by intro y hy; simp at hy) (fun h1 hns1 hsb1 => ⟨rfl, ?_⟩) C.kind
  have hk : ∀ b o, s3.heap.get? b = some o → h1.get? b = some o := fun b o e => hsb1.extBut b o (Nat.ne_of_lt (Heap.lt_size e)) (Heap.get?_push_of_some _ e)
  have hns : h1.Ns s3.heap.objs.size (fun _ => none) := by simpa using hns1
  have hlt : ∀ b ∈ fp, b < s3.heap.objs.size := fun b hb => by
    obtain ⟨o, e, _⟩ := T.obj 0 _ st3 b hb
    exact Heap.lt_size e
  have I4 : Inv (cxIn X (x :: xs) scope s3 H3 fp) [] (none :: capV σ caps) H3 { s3 with heap := h1, toks := s3.toks + ([] : List (Str × Value)).length } := comp_inv C I3 hf hlt hns hk
  have hx' : (relabel scope X.env).names.lookup x = some .local := lookup_relabel_local C.loc
  have stat : ∀ {H' : Hp}, (∀ b ∈ fp, H' b = none) → ∀ b ∈ fp, FpOk (cxIn X (x :: xs) scope s3 H3 fp) [] H' b := fun hn b hb =>
    ⟨hn b hb, Nat.ne_of_lt (hlt b hb), (I4.ok.exfs b hb), .inl hb, (I4.ok.exf b hb).2, fun p hp => absurd (show p ∈ ([] : List (Addr × Obj)) from hp) (by simp)⟩
  have loop : ∀ s5 : Shared, (∃ i v0 ys H', Inv (cxIn X (x :: xs) scope s3 H3 fp) [] (v0 :: capV σ caps) H' s5 ∧ tn i s5.heap ∧ (∀ b ∈ fp, H' b = none) ∧ W i m0 ys H') →
      codeAny (model X.prog X.w) X.A (.compLoop (.ListComp elt [⟨.Name x px, iter, ifs, 0⟩] scope pos) 0 (.ref it) (.ref l) (compEnvC scope (closL X.env scope.names []) s3.heap.objs.size X.env)) Rr s5 := by
    intro s5 h5
    refine comp_turns (fun n s' => ∃ i v0 ys H', Inv (cxIn X (x :: xs) scope s3 H3 fp) [] (v0 :: capV σ caps) H' s' ∧ tn i s'.heap ∧ (∀ b ∈ fp, H' b = none) ∧ W i n ys H') ?_ m0 h5
    rintro n s6 ⟨i, v0, ys, H6, I6, st6, fr6, w6⟩
    obtain ⟨hl6, stop | ⟨go, hz, step⟩⟩ := turn i n ys H6 w6
    · refine thn (T.done (cxIn X (x :: xs) scope s3 H3 fp) rfl rfl rfl hc i [] s6 _ H6 (fun _ _ => False) I6 (stat fr6) st6 stop.1) fun r s7 ⟨hr, I7⟩ => ?_
      subst hr
      obtain ⟨m, hn, _⟩ := I7.loc
      refine fin s7 H6 (I3.call' (ch := fp) I7.os I7.base I7.hok I7.bare fun b hb => ?_) stop.2 ⟨m, hn⟩ (I3.fpOk (Nat.le_refl _) I7.free)
      obtain ⟨f0, f1, f2, f3, f4, f5⟩ := hf b hb
      exact ⟨f3, f1, f4, f5⟩
    · refine thn (T.item (cxIn X (x :: xs) scope s3 H3 fp) rfl rfl rfl hc i [] s6 _ H6 (fun _ _ => False) I6 (stat fr6) st6 go) fun r s7 ⟨u, hr, h7⟩ => ?_
      subst hr
      refine thn h7 fun _ s8 ⟨y, H8, I8, r8, y8, st8, fr8⟩ => ?_
      have I8' := I8.pinned (stat fr8) (T.obj _ _ st8)
      have again : ∀ {σ9 : St} {H9 : Hp} {s9 : Shared} {v1 : Option V} {zs : List V}, Inv (cxIn X (x :: xs) scope s3 H3 fp) ([] ++ pinsAt fp s8.heap) σ9 H9 s9 → σ9 = v1 :: capV σ caps → (∃ m', m' < n ∧ W (i + 1) m' zs H9) →
          ∃ m, m < n ∧ ∃ i v0 ys H', Inv (cxIn X (x :: xs) scope s3 H3 fp) [] (v0 :: capV σ caps) H' s9 ∧ tn i s9.heap ∧ (∀ b ∈ fp, H' b = none) ∧ W i m ys H' := fun {σ9 H9 s9 v1 zs} I9 e9 hw => by
        subst e9
        obtain ⟨m', hm, w9⟩ := hw
        refine ⟨m', hm, i + 1, v1, zs, H9, I9.unpinned, T.keep _ _ _ st8 fun b hb o e => (I9.pin (b, o) (List.mem_append_right _ (List.mem_append_right _ (mem_pinsAt hb e)))).1, fun b hb => ?_, w9⟩
        obtain ⟨o, e, d⟩ := T.obj _ _ st8 b hb
        exact (I9.pin (b, o) (List.mem_append_right _ (List.mem_append_right _ (mem_pinsAt hb e)))).2.1
      have pg : PG (cxIn X (x :: xs) scope s3 H3 fp) (.Name x px) (gName 0) := pg_name C.nd rfl (.inl hx') (.inr hx')
      refine thn (pg _ s8 _ H8 y u (fun σ' H' => σ' = some y :: capV σ caps ∧ H' = H8) I8' r8 ⟨rfl, rfl⟩) fun _ s9 ⟨σ9, H9, I9, e9, e9'⟩ => ?_
      subst e9 e9'
      refine thn (hi s3 H3 fp _ s9 _ _ _ I9 (step y H9 y8)) fun b s10 ⟨H10, I10, q10⟩ => ?_
      cases b with
      | false =>
        have q10 : ∃ m', m' < n ∧ W (i + 1) m' ys H10 := q10
        exact again I10 rfl q10
      | true =>
        have q10 : te (some y :: capV σ caps) H10 fun z H7 => H7 l = some (.lst ys) ∧ ∃ m', m' < n ∧ W (i + 1) m' (ys ++ [z]) (upd H7 l (.lst (ys ++ [z]))) := q10
        show wpAny _ _ (eval elt _) _ _ s10
        refine thn (he s3 H3 fp _ s10 _ _ _ I10 q10) fun z' s11 ⟨z, H11, I11, r11, hl11, q11⟩ => ?_
        refine thn (mt_append (X := cxIn X (x :: xs) scope s3 H3 fp) _ s11 _ H11 (.ref l) [z] (.ref l) [z'] (fun _ H' => H' = upd H11 l (.lst (ys ++ [z]))) I11 rfl (.cons r11 .nil) ⟨l, ys, z, rfl, rfl, hl11, hz, rfl⟩) fun _ s12 ⟨_, H12, I12, _, e12⟩ => ?_
        subst e12
        exact again I12 rfl q11
  have start : ∃ i v0 ys H', Inv (cxIn X (x :: xs) scope s3 H3 fp) [] (v0 :: capV σ caps) H' { s3 with heap := h1, toks := s3.toks + ([] : List (Str × Value)).length } ∧ tn i h1 ∧ (∀ b ∈ fp, H' b = none) ∧ W i m0 ys H' :=
    ⟨0, none, [], H3, I4, T.keep _ _ _ st3 fun b _ o e => hk b o e, fun b hb => (hf b hb).1, w0⟩
  exact codeAny_compStart_list (loop _ start) (T.self X.A 0 _ _ _ (T.keep _ _ _ st3 fun b _ o e => hk b o e) (loop _ start))
theorem comp_lay {s2 : Shared} {H2 : Hp} {fp : List Addr} {tn : Nat → Heap → Prop} {P : Program} {w : World} {K : PySem.W.Frag} {tg : Expr} {J : It} {it : Addr} (I2 : Inv X pins σ H2 s2) (T : Turn P w K tg J fp it tn) (st : tn 0 s2.heap) (hf : ∀ b ∈ fp, FpOk X pins H2 b)
    {Qn : Value → Shared → Prop} {E : Value → Shared → Prop} {A : Around}
    (h : ∀ s3 : Shared, Inv X pins σ (upd H2 s2.heap.objs.size (.lst [])) s3 → tn 0 s3.heap → (∀ b ∈ fp, FpOk X pins (upd H2 s2.heap.objs.size (.lst [])) b) → s3.heap.objs.size = s2.heap.objs.size + 1 → Qn (.ref s2.heap.objs.size) s3) :
    wpAny (model X.prog X.w) A (newList []) Qn E s2 := by
  refine wpAny_newObj_type ?_
  refine h _ (I2.laid (t' := s2.toks) (fun b u e => Heap.get?_push_of_some _ e) (Nat.le_refl _) ⟨Nat.zero_le _, [], 0, .nil, Heap.get?_push_size _ rfl⟩) (T.keep 0 _ _ st fun b _ o e => Heap.get?_push_of_some _ e) (fun b hb => ?_) (Heap.size_push ..)
  obtain ⟨o, e, _⟩ := T.obj 0 _ st b hb
  exact ⟨by rw [upd_ne (Nat.ne_of_lt (Heap.lt_size e))]; exact (hf b hb).1, (hf b hb).2⟩
theorem Inv.let {H' : Hp} {s' : Shared} {C : Addr} {h' : Heap} (I : Inv X pins σ H' s') (f : FpOk X pins H' C) (hs : Heap.SameBut C s'.heap h') : Inv X pins σ H' { s' with heap := h' } :=
  I.turned (t' := s'.toks) (fun b o hb e => (hs.2 b hb).trans e) f.1 f.2.1 f.2.2.2.1 f.2.2.2.2.1 f.2.2.2.2.2
theorem pe_comp {elt iter : Expr} {px : Pos} {ifs : List Expr} {pos : Pos} {wi : TI} {tt : TT} {te : TE} (hc : X.calm = true) (C : CompOk X x xs caps scope osc) (hit : PI X (.Name x px) iter wi)
    (he : ∀ s₃ H₃ fp, PE (cxIn X (x :: xs) scope s₃ H₃ fp) elt te) (hi : ∀ s₃ H₃ fp, PIfs (cxIn X (x :: xs) scope s₃ H₃ fp) ifs tt) (hs : ∀ x, foldedSetIterable iter X.env x = pure x := by intro _; rfl) :
    PE X (.ListComp elt [⟨.Name x px, iter, ifs, 0⟩] scope pos) (tComp caps wi tt te) := by
  intro pins s σ H Q I h
  rw [eval_ListComp]
  refine wpAny_comprehension_free (use := none) rfl hs (closureFor_eq (C.hasC I.ok)) C.kind C.names (thn (hit pins s σ H _ I h) fun v s1 h1 => thn h1 fun itv s2 h2 => ?_)
  obtain ⟨it, fp, tn, J, H2, rfl, I2, T, st2, f2, R⟩ := h2
  obtain ⟨W, ⟨m0, w0⟩, turn⟩ := R s2.heap.objs.size (I2.hok.fresh (Nat.le_refl _))
  refine comp_lay I2 T st2 f2 fun s3 I3 st3 f3 hz3 => ?_
  refine thn (comp_core (Rr := compPost (model X.prog X.w) X.A X.xe none (EP X pins σ Q) (.ref s2.heap.objs.size) s3.heap.objs.size) (pos := pos) (iter := iter) hc C he hi I3 T st3 f3 w0 turn ?_) fun cenv s4 ⟨e, h4⟩ => ?_
  · rintro s' H' I' q ⟨m, hn⟩ f
    exact ⟨m, hn, fun h' hs' => ⟨.ref s2.heap.objs.size, H', I'.let f hs', rfl, q⟩⟩
  · simp only [e] at h4 ⊢
    exact h4
theorem ps_setComp {elt iter : Expr} {px py : Pos} {y : Str} {j : Nat} {ifs : List Expr} {pos spos : Pos} {wi : TI} {tt : TT} {te : TE} (hN : X.N.Nodup) (hj : X.N[j]? = some y) (hy : X.env.scope.names.lookup y = some .local) (hc : X.calm = true) (C : CompOk X x xs caps scope osc)
    (hit : PI X (.Name x px) iter wi) (he : ∀ s₃ H₃ fp, PE (cxIn X (x :: xs) scope s₃ H₃ fp) elt te) (hi : ∀ s₃ H₃ fp, PIfs (cxIn X (x :: xs) scope s₃ H₃ fp) ifs tt)
    (hsw : swapsWith (.ListComp elt [⟨.Name x px, iter, ifs, 0⟩] scope pos) (some (.Name y py)) spos.line X.env = pure true := by rfl) (hs : ∀ x, foldedSetIterable iter X.env x = pure x := by intro _; rfl) :
    PS X (.Assign [.Name y py] (.ListComp elt [⟨.Name x px, iter, ifs, 0⟩] scope pos) spos) (tAsg (tComp caps wi tt te) (gName j)) := by
  intro pins s σ H D I h
  rw [exec_Assign_Name_used _ _ _ _ hsw]
  refine wpAny_bind (wpAny_standAt (wpAny_bind ?_))
  show wpAny _ X.A (do let _ ← comprehension (.ListComp elt [⟨.Name x px, iter, ifs, 0⟩] scope pos) scope X.env _ (newList []) false (eval iter X.env) (some (assign (.Name y py) X.env))) _ _ s
  refine wpAny_bind (wpAny_mono (wpAny_comprehension_free (use := some (assign (.Name y py) X.env)) (Q := fun _ s' => SP X pins D .next s') rfl hs (closureFor_eq (C.hasC I.ok)) C.kind C.names (thn (hit pins s σ H _ I h) fun v s1 h1 => thn h1 fun itv s2 h2 => ?_))
    (fun _ s' hq => wpAny_pure (wpAny_pure hq)) fun _ _ e => e)
  obtain ⟨it, fp, tn, J, H2, rfl, I2, T, st2, f2, R⟩ := h2
  obtain ⟨W, ⟨m0, w0⟩, turn⟩ := R s2.heap.objs.size (I2.hok.fresh (Nat.le_refl _))
  refine comp_lay I2 T st2 f2 fun s3 I3 st3 f3 hz3 => ?_
  refine thn (comp_core (Rr := compPost (model X.prog X.w) X.A X.xe (some (assign (.Name y py) X.env)) (fun _ s' => SP X pins D .next s') (.ref s2.heap.objs.size) s3.heap.objs.size) (Q := fun x H1 => gName j x σ H1 D.nx) (l := s2.heap.objs.size) (pos := pos) (iter := iter) hc C he hi I3 T st3 f3 w0 turn ?_) fun cenv s4 ⟨e, h4⟩ => ?_
  · rintro s' H' I' q ⟨m, hn⟩ f
    show wpAny _ X.A (assign (.Name y py) X.env (.ref s2.heap.objs.size)) _ _ s'
    refine wpAny_assign_Name (store_ok2 I' hN hj (.inl hy) (v := .ref s2.heap.objs.size) rfl (fun s'' I'' hsb => ?_) (.inr hy))
    obtain ⟨a, hsb, ha⟩ := hsb
    have hCa : s3.heap.objs.size ≠ a := by
      rcases ha with z | z
      · rw [z]; exact f.2.1
      · exact fun e => f.2.2.2.2.1 _ _ z e.symm
    exact ⟨m, hn.sameBut hsb hCa, fun h' hs' => ⟨_, H', I''.let f hs', q⟩⟩
  · simp only [e] at h4 ⊢
    exact h4

noncomputable def Gives (t : TE) (σ : St) (H : Hp) (v : V) : Prop := ∀ Q : VK, (∀ H', Same H H' → Q v H') → t σ H Q
noncomputable def GivesT (t : TT) (σ : St) (H : Hp) (b : Bool) : Prop := ∀ Q : Bool → Hp → Prop, (∀ H', Same H H' → Q b H') → t σ H Q
theorem Same.upd {H H' : Hp} {l : Addr} {o : HO} (e : Same H H') (h : H l = none) : Same H (upd H' l o) := fun b u q => by
  rw [upd_ne (ne_of_none q h)]
  exact e b u q
theorem comp_pure {J : It} {n : Nat} {item : Nat → V} {p : Nat → Bool} {f : Nat → V} {tt : TT} {te : TE} {cs : St} {H1 : Hp} {Q : VK} (hsz : n ≤ sizeLine)
    (hgo : ∀ i H, Same H1 H → i < n → J.go i H) (hstop : ∀ H, Same H1 H → J.stop n H) (hyl : ∀ i H x H', Same H1 H → i < n → J.yld i H x H' → x = item i ∧ H' = H)
    (htt : ∀ i H, i < n → Same H1 H → GivesT tt (some (item i) :: cs) H (p i)) (hte : ∀ i H, i < n → p i = true → Same H1 H → Gives te (some (item i) :: cs) H (f i))
    (hQ : ∀ l H', H1 l = none → Same H1 H' → H' l = some (.lst (((List.range n).filter p).map f)) → Q (.ref l) H') :
    CompG J tt te cs H1 Q := by
  intro l hl
  refine ⟨fun i m ys H2 => m = n - i ∧ i ≤ n ∧ ys = ((List.range i).filter p).map f ∧ Same H1 H2 ∧ H2 l = some (.lst ys), ⟨n, rfl, Nat.zero_le _, rfl, (Same.refl H1).upd hl, upd_same⟩, ?_⟩
  rintro i m ys H2 ⟨rfl, hi, rfl, s2, hl2⟩
  refine ⟨hl2, ?_⟩
  by_cases hlt : i < n
  · refine .inr ⟨hgo i H2 s2 hlt, ?_, fun y H3 hy => ?_⟩
    · rw [List.length_map]
      have := List.length_filter_le p (List.range i)
      rw [List.length_range] at this
      omega
    · obtain ⟨rfl, rfl⟩ := hyl i H2 y H3 s2 hlt hy
      refine htt i H3 hlt s2 _ fun H4 s4 => ?_
      have e1 : (List.range (i + 1)).filter p = (List.range i).filter p ++ (if p i then [i] else []) := by
        rw [List.range_succ, List.filter_append]
        cases q : p i <;> simp [q]
      cases q : p i with
      | true =>
        rw [if_pos rfl]
        refine hte i H4 hlt q (s2.trans s4) _ fun H5 s5 => ⟨s5 _ _ (s4 _ _ hl2), n - (i + 1), by omega, rfl, hlt, ?_, ((s2.trans s4).trans s5).upd hl, upd_same⟩
        rw [e1, q]
        simp
      | false =>
        rw [if_neg Bool.false_ne_true]
        refine ⟨n - (i + 1), by omega, rfl, hlt, ?_, s2.trans s4, s4 _ _ hl2⟩
        rw [e1, q]
        simp
  · have e : i = n := by omega
    subst e
    exact .inl ⟨hstop H2 s2, hQ l H2 hl s2 hl2⟩
end
end L2

namespace L2
open PySem PySem.Spec PyProof.Rows
section
variable {X : Cx} {pins : List (Addr × Obj)} {σ : St} {H : Hp} {s : Shared}
theorem Inv.laidTurned {a : Addr} {o : HO} {h' : Heap} {t' : Nat} {ch : List Addr} (I : Inv X pins σ H s) (hf : ∀ b ∈ ch, FpOk X pins H b) (k : ∀ b u, b ∉ ch → s.heap.get? b = some u → h'.get? b = some u)
    (hp : s.heap.objs.size ≤ a) (new : ObjOk X.prog X.w (upd H a o) h' a o) : Inv X pins σ (upd H a o) { s with heap := h', toks := t' } := by
  have hn : H a = none := I.hok.fresh hp
  have nch : ∀ b u, H b = some u → b ∉ ch := fun b u e hb => by
    have := (hf b hb).1
    rw [e] at this; cases this
  refine I.call (g' := s.gens) (d' := s.drawn) (ch := ch) ⟨fun b u q _ _ hx => k b u hx q, fun b u q _ _ hx => ⟨u.slots, k b u hx q⟩, fun b u q n _ => ?_, fun b u q hx => ⟨u, k b u hx q⟩, fun b xs q => ?_, fun b u xs q => ?_, fun b ps q => ⟨#[], ?_⟩⟩ (fun b u e => ?_) I.bare (fun b hb => ?_)
  · rw [upd_ne (Nat.ne_of_lt (Nat.lt_of_lt_of_le (Heap.lt_size q) hp))]; exact n
  · rw [upd_ne (ne_of_none q hn)]; exact q
  · rw [upd_ne (ne_of_none q hn)]; exact q
  · rw [upd_ne (ne_of_none q hn), q]; simp
  · by_cases hb : b = a
    · subst hb; rw [upd_same] at e; cases e; exact new
    · rw [upd_ne hb] at e
      refine (I.hok b u e).stay (fun c v hc q => k c v ?_ q) (fun c q => by rw [upd_ne (ne_of_none q hn)]; exact q) fun c xs q => by rw [upd_ne (ne_of_none q hn)]; exact q
      rcases hc with z | z
      · rw [z]; exact nch b u e
      · exact nch c _ z
  · obtain ⟨f0, f1, f2, f3, f4, f5⟩ := hf b hb
    exact ⟨f3, f1, f4, f5⟩
end

noncomputable def Ite (K : PySem.W.Frag) (a : Addr) : It :=
  ⟨fun i H => ∃ xs x, SqL K H a xs ∧ xs[i]? = some x, fun i H x H' => ∃ p y, x = .ref p ∧ H p = none ∧ H' = upd H p (.tup [.int (i : Nat), y]) ∧ ∀ xs, SqL K H a xs → xs[i]? = some y, fun i H => ∃ xs, SqL K H a xs ∧ xs.length ≤ i⟩
theorem turn_enum {P : Program} {w : World} {K : PySem.W.Frag} {es : List Expr} {k : Nat} {tp : Pos} (a e it : Addr) (hne : e ≠ it) :
    Turn P w K (.Tuple es k tp) (Ite K a) [e, it] e (fun i h => (∃ old, IsEnum h e it ((i : Nat) : Int) old) ∧ h.IsListIter it a i) where
  mem := by simp
  obj := fun i h st b hb => by
    obtain ⟨⟨old, h1⟩, o, h2, c, d⟩ := st
    rcases List.mem_cons.mp hb with z | z
    · subst z
      exact ⟨_, h1, fun v z => by cases z⟩
    · have z : b = it := by simpa using z
      subst z
      exact ⟨o, h2, fun v z => by rw [d] at z; cases z⟩
  keep := fun i h h' st k => by
    obtain ⟨⟨old, h1⟩, h2⟩ := st
    exact ⟨⟨old, k e (by simp) _ h1⟩, h2.at fun o q => k it (by simp) o q⟩
  item := by
    intro X hP hw hK hc i pins s σ H E I hf st hg
    subst hP hw hK
    obtain ⟨xs, x, hq, hx⟩ := hg
    obtain ⟨⟨old, he⟩, hit⟩ := st
    obtain ⟨its, rv, p, hz⟩ := I.list hq
    obtain ⟨u, hu, ru⟩ := rv.get hx
    have hfr : H s.heap.objs.size = none := I.hok.fresh (Nat.le_refl _)
    have heH : e < s.heap.objs.size := Heap.lt_size he
    have hiH : it < s.heap.objs.size := by obtain ⟨o, q, _⟩ := id hit; exact Heap.lt_size q
    refine wpAny_pyNext_enum_item he hit p.isList (x := u) (by simpa using hu) hne fun h1 heo hit1 ht1 hz1 hk1 => ⟨_, rfl, ?_⟩
    refine wpAny_letOwnedTupleGo_enum heo fun h2 he2 hs2 => ?_
    have hs2 : Heap.SameBut e h1 h2 := hs2
    have ht2 : h2.get? s.heap.objs.size = some { cls := .type "tuple", data := .seq #[.int i s.toks, u] } := (hs2.2 _ (Nat.ne_of_gt heH)).trans ht1
    have I1 : Inv X pins σ (upd H s.heap.objs.size (.tup [.int (i : Nat), x])) { s with heap := h2, toks := s.toks + 1 } := by
      refine I.laidTurned (ch := [e, it]) hf (fun b o hb q => ?_) (Nat.le_refl _) ?_
      · have b1 : b ≠ e := fun z => hb (by simp [z])
        have b2 : b ≠ it := fun z => hb (by simp [z])
        exact (hs2.2 b b1).trans (hk1 b o b1 b2 q)
      · exact ⟨by show 2 ≤ sizeLine; decide, [.int i s.toks, u], .cons ⟨_, rfl⟩ (.cons ru .nil), _, ht2, rfl, _, rfl⟩
    refine ⟨.ref s.heap.objs.size, upd H s.heap.objs.size (.tup [.int (i : Nat), x]), I1, rfl, ⟨_, x, rfl, hfr, rfl, fun ys hy => by rw [I.list_inj hy hq]; exact hx⟩, ⟨⟨u, ?_⟩, ?_⟩, fun b hb => ?_⟩
    · have q : ((i + 1 : Nat) : Int) = (i : Int) + 1 := by push_cast; rfl
      rw [q]; exact he2
    · exact hit1.extBut hs2.extBut (Ne.symm hne)
    · rcases List.mem_cons.mp hb with z | z
      · subst z; rw [upd_ne (Nat.ne_of_lt heH)]; exact (hf _ (by simp)).1
      · have z : b = it := by simpa using z
        subst z; rw [upd_ne (Nat.ne_of_lt hiH)]; exact (hf _ (by simp)).1
  done := by
    intro X hP hw hK hc i pins s σ H E I hf st hg
    subst hP hw hK
    obtain ⟨xs, hq, hx⟩ := hg
    obtain ⟨⟨old, he⟩, hit⟩ := st
    obtain ⟨its, rv, p, hz⟩ := I.list hq
    obtain ⟨f0, f1, f2, f3, f4, f5⟩ := hf it (by simp)
    have hl := rv.length
    exact wpAny_pyNext_enum_end (I.ok.hd hc) he hit p.isList (by simp; omega) fun h' eb => ⟨rfl, I.turned (t' := s.toks) (fun b o hb q => eb b o hb q) f0 f1 f3 f4 f5⟩
  self := fun _ _ _ _ _ st h => by
    obtain ⟨⟨old, he⟩, _⟩ := st
    exact wpAny_pyIter_enum he h
section
variable {X : Cx}
noncomputable def iEnum (K : PySem.W.Frag) (ta : TA) : TI := fun σ H R => ta σ H fun vs H1 => ∃ a xs, vs = [.ref a] ∧ SqL K H1 a xs ∧ R (Ite K a) H1
theorem pi_enum {es : List Expr} {k : Nat} {tp : Pos} {a : Expr} {ta : TA} {p pos : Pos} (hg : Gl X "enumerate") (hm : X.mg "enumerate" = none) (ha : PA X [a] ta) (hs : starEach [a] X.env = [(false, eval a X.env)] := by rfl) :
    PI X (.Tuple es k tp) (.Call (.Name "enumerate" p) [a] [] pos) (iEnum X.K ta) := by
  intro pins s σ H R I h
  refine Call_ (ld_blt I hg hm boot_enumerate (PyProof.Rows.callWith_type1 (thn (ha pos pins s σ H _ I h) fun us s1 ⟨vs, H1, I1, r1, q1⟩ => ?_) hs rfl))
  obtain ⟨l, xs, rfl, hq, q⟩ := q1
  obtain ⟨u, rfl, ru⟩ := vals1 r1
  cases ru
  obtain ⟨its, rv, pl, hz⟩ := I1.list hq
  refine call_enumerate_list pl.isList fun h' he hit hz' hk => wpAny_pyIter_enum (s := { s1 with heap := h' }) he ?_
  have I2 : Inv X pins σ H1 { s1 with heap := h' } := I1.kept (t' := s1.toks) hk
  refine ⟨s1.heap.objs.size + 1, [s1.heap.objs.size + 1, s1.heap.objs.size], _, _, H1, rfl, I2, turn_enum l _ _ (Nat.succ_ne_self _), ⟨⟨.none, he⟩, hit⟩, fun b hb => ?_, q⟩
  have ge : s1.heap.objs.size ≤ b := by
    rcases List.mem_cons.mp hb with z | z
    · rw [z]; exact Nat.le_succ _
    · have z : b = s1.heap.objs.size := by simpa using z
      rw [z]; exact Nat.le_refl _
  exact I1.fpOk ge (I1.hok.fresh ge)
theorem for_enum {K : PySem.W.Frag} {a : Addr} {xs : List V} {g : TG} {tb : TS} {D : Ends} {σ : St} {H : Hp} (Pv : Nat → St → Hp → Prop) (h0 : Pv 0 σ H) (hl : ∀ i σ H, i ≤ xs.length → Pv i σ H → SqL K H a xs)
    (hs : ∀ i y p σ H, xs[i]? = some y → Pv i σ H → H p = none → g (.ref p) σ (upd H p (.tup [.int (i : Nat), y])) fun σ2 H2 => tb { D with nx := Pv (i + 1), ct := Pv (i + 1), bk := D.nx } σ2 H2) (hd : ∀ σ H, Pv xs.length σ H → D.nx σ H) :
    ∃ W : Nat → Nat → St → Hp → Prop, (∃ m, W 0 m σ H) ∧ ∀ i m σ H, W i m σ H →
      ((Ite K a).stop i H ∧ D.nx σ H) ∨ ((Ite K a).go i H ∧ ∃ N : St → Hp → Prop, (∀ σ' H', N σ' H' → ∃ m', m' < m ∧ W (i + 1) m' σ' H') ∧ ∀ x H', (Ite K a).yld i H x H' → g x σ H' fun σ2 H2 => tb { D with nx := N, ct := N, bk := D.nx } σ2 H2) := by
  refine ⟨fun i m σ H => m = xs.length - i ∧ i ≤ xs.length ∧ Pv i σ H, ⟨xs.length, by simp, Nat.zero_le _, h0⟩, ?_⟩
  rintro i m σ H ⟨rfl, hi, p⟩
  have q := hl i σ H hi p
  by_cases hlt : i < xs.length
  · refine .inr ⟨⟨xs, xs[i], q, by simp [hlt]⟩, Pv (i + 1), fun σ' H' p' => ⟨xs.length - (i + 1), by omega, rfl, hlt, p'⟩, fun x H' y => ?_⟩
    obtain ⟨pp, y, rfl, hn, rfl, hy⟩ := y
    exact hs i y pp σ H (hy xs q) p hn
  · have e : i = xs.length := by omega
    subst e
    exact .inl ⟨⟨xs, q, Nat.le_refl _⟩, hd σ H p⟩

noncomputable def Its (x : Str) : It := ⟨fun i _ => i < x.cps.size, fun i H v H' => H' = H ∧ ∃ c, x.cps[i]? = some c ∧ v = .str ⟨#[c]⟩, fun i _ => x.cps.size ≤ i⟩
theorem turn_str {P : Program} {w : World} {K : PySem.W.Frag} {tg : Expr} (it : Addr) (x : Str) (t : Tok) (ty : String)
    (W : ∀ A' : Around, A'.handled = none → Walks P w A' it [it] [it] x.cps.size (SignAt x) (fun i h => h.IsStrIter it ty x t i))
    (hn : ["enumerate", "zip", "dict_itemiterator", "dict_reverseitemiterator", "odict_iterator", "itertools.zip_longest", "itertools.pairwise"].contains ty = false)
    (slf : ∀ (A : Around) (i : Nat) (s : Shared) (Q : Value → Shared → Prop) (E : Value → Shared → Prop), s.heap.IsStrIter it ty x t i → Q (.ref it) s → wpAny (model P w) A (pyIter (.ref it)) Q E s) :
    Turn P w K tg (Its x) [it] it (fun i h => h.IsStrIter it ty x t i ∧ i ≤ x.cps.size) where
  mem := by simp
  obj := fun i h st b hb => by
    have e : b = it := by simpa using hb
    subst e
    obtain ⟨⟨o, e, c, d⟩, _⟩ := st
    exact ⟨o, e, fun v z => by rw [d] at z; cases z⟩
  keep := fun i h h' st k => ⟨let ⟨o, e, r⟩ := st.1; ⟨o, k it (by simp) o e, r⟩, st.2⟩
  item := by
    intro X hP hw hK hc i pins s σ H E I hf st hg
    subst hP hw hK
    obtain ⟨f0, f1, f2, f3, f4, f5⟩ := hf it (by simp)
    refine (W X.A (I.ok.hd hc)).item i s _ _ hg st.1 fun v h' tk hv st' kk => ?_
    obtain ⟨c, u, hx, rfl⟩ := hv
    have I1 : Inv X pins σ H { s with heap := h', toks := tk } := I.turned (fun b o hb e => kk b o (by simpa using hb) e) f0 f1 f3 f4 f5
    obtain ⟨o, e, hcl, hd⟩ := id st'
    exact ⟨_, rfl, go_of (s := { s with heap := h', toks := tk }) (n := ty) e hcl hd hn ⟨.str ⟨#[c]⟩, H, I1, ⟨u, rfl⟩, ⟨rfl, c, hx, rfl⟩, ⟨st', hg⟩, fun b hb => (hf b hb).1⟩⟩
  done := by
    intro X hP hw hK hc i pins s σ H E I hf st hg
    subst hP hw hK
    obtain ⟨f0, f1, f2, f3, f4, f5⟩ := hf it (by simp)
    have e : i = x.cps.size := Nat.le_antisymm st.2 hg
    refine (W X.A (I.ok.hd hc)).done s _ _ (e ▸ st.1) fun h' tk kk => ⟨rfl, I.turned (fun b o hb e => kk b o (by simpa using hb) e) f0 f1 f3 f4 f5⟩
  self := fun A i s Q E st h => slf A i s Q E st.1 h
noncomputable def iStr (tl : TE) : TI := fun σ H R => tl σ H fun x H1 => ∃ z, x = .str z ∧ R (Its z) H1
theorem pi_str {tg l : Expr} {tl : TE} (hl : PE X l tl) : PI X tg l (iStr tl) := by
  intro pins s σ H R I h
  refine thn (hl pins s σ H _ I h) fun v s1 ⟨x, H1, I1, r1, q1⟩ => ?_
  obtain ⟨z, rfl, q⟩ := q1
  obtain ⟨t, rfl⟩ := r1
  have I2 : ∀ o, Inv X pins σ H1 { s1 with heap := s1.heap.push o } := fun o => I1.kept (t' := s1.toks) fun b u e => Heap.get?_push_of_some _ e
  have fp : ∀ b ∈ [s1.heap.objs.size], FpOk X pins H1 b := fun b hb => by
    have e : b = s1.heap.objs.size := by simpa using hb
    subst e
    exact I1.fpOk (Nat.le_refl _) (I1.hok.fresh (Nat.le_refl _))
  cases ha : z.cps.all (· < 128)
  · exact wpAny_pyIter_wide ha ⟨s1.heap.objs.size, [s1.heap.objs.size], _, _, H1, rfl, I2 _, turn_str _ z t "str_iterator" (fun A' hA => Walks.strWide hA _ z t) (by decide) (fun _ _ _ _ _ st q => wpAny_pyIter_striter_wide st q), ⟨⟨_, Heap.get?_push_size _ rfl, rfl, rfl⟩, Nat.zero_le _⟩, fp, q⟩
  · exact wpAny_pyIter_ascii ha ⟨s1.heap.objs.size, [s1.heap.objs.size], _, _, H1, rfl, I2 _, turn_str _ z t "str_ascii_iterator" (fun A' hA => Walks.strAscii hA _ z t) (by decide) (fun _ _ _ _ _ st q => wpAny_pyIter_striter_ascii st q), ⟨⟨_, Heap.get?_push_size _ rfl, rfl, rfl⟩, Nat.zero_le _⟩, fp, q⟩

theorem all_range : ∀ bs : List Bool, ((List.range bs.length).all fun i => (bs[i]?).getD true) = bs.all id
  | [] => rfl
  | b :: r => by
    rw [List.length_cons, List.range_succ_eq_map, List.all_cons, List.all_map, List.all_cons, ← all_range r]
    congr 1
theorem call_all_bools (hc : X.calm = true) : CallR X (.builtin "all") (fun xs H Q => ∃ (p : Addr) (bs : List Bool), xs = [.ref p] ∧ SqL X.K H p (bs.map V.bl) ∧ Q (.bl (bs.all id)) H) := by
  intro pins s σ H xs us Q I r h
  obtain ⟨p, bs, rfl, hq, q⟩ := h
  obtain ⟨u, rfl, ru⟩ := vals1 r
  cases ru
  obtain ⟨its, rv, pl, hz⟩ := I.list hq
  have hl := rv.length
  rw [List.length_map] at hl
  refine call_all_walk (wpAny_pyIter_list pl.isList ?_)
  have I2 : Inv X pins σ H { s with heap := s.heap.push { cls := .type "list_iterator", data := .fields #[.ref p, .int 0 0] } } := I.kept (t' := s.toks) fun b u e => Heap.get?_push_of_some _ e
  have hfr : H s.heap.objs.size = none := I.hok.fresh (Nat.le_refl _)
  obtain ⟨f0, f1, f2, f3, f4, f5⟩ := I.fpOk (Nat.le_refl _) hfr
  have hp : p ≠ s.heap.objs.size := by
    obtain ⟨o, e, _⟩ := id pl.isList
    exact Nat.ne_of_lt (Heap.lt_size e)
  refine ⟨s.heap.objs.size, _, _, _, _, _, fun i => (bs[i]?).getD true, rfl, Walks.list (A := X.A.in1) (show X.A.handled = none from I.ok.hd hc) s.heap.objs.size p hp its.toArray, ⟨⟨_, Heap.get?_push_size _ rfl, rfl, rfl⟩, pl.isList.at fun o e => Heap.get?_push_of_some _ e⟩, fun i v s' Q' E' hP hQ' => ?_, fun h' tk kk => ?_⟩
  · have hP : its[i]? = some v := by simpa using hP
    have hi : i < bs.length := by rw [hl]; exact (List.getElem?_eq_some_iff.mp hP).1
    obtain ⟨u, hu, ru⟩ := rv.get (i := i) (x := V.bl bs[i]) (by simp [hi])
    rw [hP] at hu
    cases hu
    obtain rfl : v = Value.bool bs[i] := ru
    have hQ' : Q' ((bs[i]?).getD true) s' := hQ'
    rw [List.getElem?_eq_getElem hi] at hQ'
    exact wpAny_truthy_bool hQ'
  · have e : ((List.range its.toArray.size).all fun i => (bs[i]?).getD true) = bs.all id := by
      rw [List.size_toArray, ← hl]
      exact all_range bs
    rw [e]
    exact ⟨.bl (bs.all id), H, I2.turned (t' := tk) (fun b o hb q' => kk b o (by simpa using hb) q') f0 f1 f3 f4 f5, rfl, q⟩
end
end L2

namespace L2
open PySem PySem.Spec PyProof.Rows
section
variable {X : Cx}
noncomputable def rIsI (K : PySem.W.Frag) : List V → Hp → VK → Prop := fun xs H Q => Ex4_4 (fun x t T b => xs = [x, .ty T]) (fun x t T b => TyOf K H x t) (fun x t T b => PySem.W.kitOne K t (.type T) = some b) (fun x t T b => Q (.bl b) H)
theorem call_isi : CallR X (.builtin "isinstance") (rIsI X.K) := by
  intro pins s σ H xs us Q I r h
  obtain ⟨x, t, T, b, rfl, ty, e, q⟩ := h
  obtain ⟨u, w', rfl, r1, r2⟩ := vals2 r
  obtain rfl : w' = Value.type T := r2
  exact isinst_ok I r1 ty e fun tk => ⟨.bl b, H, I.tok tk, rfl, q⟩
end
end L2

namespace SM

noncomputable def b2z (b : Bool) : Int := if b = true then 1 else 0

noncomputable def bg (sz : Nat → Int) (far : Nat → Bool) : Nat → Int
  | 0 => 0
  | i + 1 => bg sz far i + (sz i + b2z (far i))

noncomputable def near (g : Int) : Bool := decide (-8 ≤ g) && decide (g ≤ 7)

noncomputable def gap (sz : Nat → Int) (far : Nat → Bool) (i t : Nat) : Int := bg sz far t - bg sz far (i + 1)
noncomputable def grows (sz : Nat → Int) (ld : Nat → Option Nat) (far : Nat → Bool) (i : Nat) : Bool :=
  match ld i with
  | none => false
  | some t => !far i && !near (gap sz far i t)

noncomputable def step (sz : Nat → Int) (ld : Nat → Option Nat) (far : Nat → Bool) (i : Nat) : Bool := far i || grows sz ld far i

noncomputable def it (sz : Nat → Int) (ld : Nat → Option Nat) (f0 : Nat → Bool) : Nat → Nat → Bool
  | 0 => f0
  | k + 1 => step sz ld (it sz ld f0 k)
noncomputable def Ends (sz : Nat → Int) (ld : Nat → Option Nat) (f0 far : Nat → Bool) : Prop := (∃ k, far = it sz ld f0 k) ∧ step sz ld far = far

variable {sz : Nat → Int} {ld : Nat → Option Nat} {f0 far far' : Nat → Bool}

noncomputable def cnt (far : Nat → Bool) : Nat → Nat
  | 0 => 0
  | n + 1 => cnt far n + (if far n = true then 0 else 1)

noncomputable def but (far : Nat → Bool) (i j : Nat) : Bool := if j = i then false else far j
end SM

namespace SC
open PySem PySem.Spec PyProof.Rows L2

inductive Rw where
  | mark (x : Str) | grow (n : Int) | tell | jump (x : Str) | whn (x : Str) | halt
  deriving DecidableEq
noncomputable def Rw.tv : Rw → List V
  | .mark x => [.str "mark", .str x]
  | .grow n => [.str "grow", .int n]
  | .tell => [.str "tell"]
  | .jump x => [.str "jump", .str x]
  | .whn x => [.str "when", .str x]
  | .halt => [.str "halt"]
noncomputable def Rw.word : Rw → Str
  | .mark _ => "mark"
  | .grow _ => "grow"
  | .tell => "tell"
  | .jump _ => "jump"
  | .whn _ => "when"
  | .halt => "halt"
noncomputable def Rw.lead : Rw → Option Str
  | .jump x => some x
  | .whn x => some x
  | _ => none
noncomputable def Rw.sz : Rw → Int
  | .mark _ => 0
  | .grow _ => 2
  | .tell => 1
  | .jump _ => 2
  | .whn _ => 2
  | .halt => 1
theorem tv_word (r : Rw) : r.tv[0]? = some (.str r.word) := by cases r <;> rfl
theorem tv_len (r : Rw) : r.tv.length ≤ 2 := by cases r <;> simp [Rw.tv]
theorem lead_tv {r : Rw} {x : Str} (h : r.lead = some x) : r.tv[1]? = some (.str x) := by
  cases r <;> cases h <;> rfl
noncomputable def isMark (x : Str) : Rw → Bool
  | .mark y => decide (y = x)
  | _ => false
theorem isMark_iff {x : Str} {r : Rw} : isMark x r = true ↔ r = .mark x := by
  cases r <;> simp [isMark]
noncomputable def markAt (rs : List Rw) (x : Str) : Option Nat := rs.findIdx? (isMark x)
theorem markAt_some {rs : List Rw} {x : Str} {j : Nat} (h : markAt rs x = some j) : rs[j]? = some (.mark x) ∧ ∀ m : Nat, m < j → rs[m]? ≠ some (.mark x) := by
  obtain ⟨hj, h1, h2⟩ := List.findIdx?_eq_some_iff_getElem.mp h
  refine ⟨?_, fun m hm e => ?_⟩
  · rw [List.getElem?_eq_getElem hj, isMark_iff.mp h1]
  · have := h2 m hm
    obtain ⟨hm', e'⟩ := List.getElem?_eq_some_iff.mp e
    rw [e'] at this
    exact this (isMark_iff.mpr rfl)
theorem markAt_none {rs : List Rw} {x : Str} (h : markAt rs x = none) : ∀ m : Nat, rs[m]? ≠ some (.mark x) := fun m e => by
  obtain ⟨hm, e'⟩ := List.getElem?_eq_some_iff.mp e
  have := List.findIdx?_eq_none_iff.mp h rs[m] (List.getElem_mem hm)
  rw [e', isMark_iff.mpr rfl] at this
  cases this

noncomputable def nm (r : Rw) : Option Str := match r with
  | .mark x => some x
  | .jump x => some x
  | .whn x => some x
  | _ => none
structure Valid (nice : Str → Prop) (rs : List Rw) : Prop where
  nice : ∀ r ∈ rs, ∀ x, nm r = some x → nice x
  once : ∀ (i j : Nat) (x : Str), rs[i]? = some (.mark x) → rs[j]? = some (.mark x) → i = j
  led : ∀ r ∈ rs, ∀ x, r.lead = some x → Rw.mark x ∈ rs
  len : rs.length ≤ 300
  num : ∀ n, Rw.grow n ∈ rs → -(10 ^ 30) ≤ n ∧ n ≤ 10 ^ 30

theorem Valid.at {nice : Str → Prop} {rs : List Rw} (v : Valid nice rs) {i : Nat} {r : Rw} {x : Str} (h : rs[i]? = some r) (hl : r.lead = some x) : ∃ t, markAt rs x = some t ∧ t < rs.length := by
  have hm := v.led r (List.mem_of_getElem? h) x hl
  cases q : markAt rs x with
  | none =>
    obtain ⟨m, hm', e⟩ := List.mem_iff_getElem.mp hm
    exact absurd (by rw [List.getElem?_eq_getElem hm', e]) (markAt_none q m)
  | some t => exact ⟨t, rfl, (List.getElem?_eq_some_iff.mp (markAt_some q).1).1⟩

noncomputable def RowsAt (H : Hp) (a : Addr) (rs : List Rw) : Prop := ∃ ps : List Addr, H a = some (.lst (ps.map V.ref)) ∧ Paired (fun p (r : Rw) => H p = some (.tup r.tv)) ps rs
theorem RowsAt.same {H H' : Hp} {a : Addr} {rs : List Rw} (h : RowsAt H a rs) (s : Same H H') : RowsAt H' a rs := by
  obtain ⟨ps, h1, h2⟩ := h
  exact ⟨ps, s _ _ h1, Paired.mapP h2 fun p r e => s _ _ e⟩
theorem RowsAt.get {H : Hp} {a : Addr} {rs : List Rw} (h : RowsAt H a rs) : ∃ ps : List Addr, H a = some (.lst (ps.map V.ref)) ∧ ps.length = rs.length ∧ ∀ (i : Nat) (r : Rw), rs[i]? = some r → ∃ p, ps[i]? = some p ∧ (ps.map V.ref)[i]? = some (V.ref p) ∧ H p = some (.tup r.tv) := by
  obtain ⟨ps, h1, h2⟩ := h
  refine ⟨ps, h1, Paired.length h2, fun i r e => ?_⟩
  obtain ⟨p, e1, e2⟩ := Paired.at h2 e
  exact ⟨p, e1, by rw [List.getElem?_map, e1]; rfl, e2⟩
noncomputable def intsL (n : Nat) (f : Nat → Int) : List V := (List.range n).map fun i => V.int (f i)
theorem intsL_length (n : Nat) (f : Nat → Int) : (intsL n f).length = n := by simp [intsL]
theorem intsL_at {n i : Nat} {f : Nat → Int} (h : i < n) : (intsL n f)[i]? = some (.int (f i)) := by
  unfold intsL
  rw [List.getElem?_map, List.getElem?_range h]; rfl
theorem intsL_succ (n : Nat) (f : Nat → Int) : intsL (n + 1) f = intsL n f ++ [.int (f n)] := by
  unfold intsL
  rw [List.range_succ, List.map_append]; rfl
theorem intsL_congr {n : Nat} {f g : Nat → Int} (h : ∀ i, i < n → f i = g i) : intsL n f = intsL n g := by
  unfold intsL
  exact List.map_congr_left fun i hi => by rw [h i (List.mem_range.mp hi)]
noncomputable def setf {α : Type} (f : Nat → α) (k : Nat) (v : α) (i : Nat) : α := if i = k then v else f i
theorem map_set_range {α : Type} {n k : Nat} {f : Nat → α} {v : α} : ((List.range n).map f).set k v = (List.range n).map (setf f k v) := by
  apply List.ext_getElem?
  intro i
  rw [List.getElem?_set, List.getElem?_map, List.getElem?_map, List.length_map, List.length_range]
  by_cases h : k = i
  · subst h
    by_cases hk : k < n
    · rw [if_pos rfl, if_pos hk, List.getElem?_range hk]
      simp [setf]
    · rw [if_pos rfl, if_neg hk, List.getElem?_eq_none (by simpa using hk)]; rfl
  · rw [if_neg h]
    cases q : (List.range n)[i]? with
    | none => rfl
    | some j =>
      have : j = i := by
        obtain ⟨hj, e⟩ := List.getElem?_eq_some_iff.mp q
        rw [List.getElem_range] at e
        exact e.symm
      subst this
      simp [setf, Ne.symm h]
theorem intsL_set {n k : Nat} {f : Nat → Int} {v : Int} : (intsL n f).set k (.int v) = intsL n (setf f k v) := by
  unfold intsL
  rw [map_set_range]
  refine List.map_congr_left fun i _ => ?_
  unfold setf
  split <;> rfl
noncomputable def ps (f : Nat → Int) : Nat → Int
  | 0 => 0
  | i + 1 => ps f i + f i
noncomputable def MarksAt (H : Hp) (d : Addr) (rs : List Rw) : Prop := ∃ kvs : List (Key × V), H d = some (.dK kvs) ∧ ∀ x : Str, valV kvs (Sum.inr x) = (markAt rs x).map fun i => V.int (i : Nat)
theorem MarksAt.same {H H' : Hp} {d : Addr} {rs : List Rw} (h : MarksAt H d rs) (s : Same H H') : MarksAt H' d rs := by
  obtain ⟨kvs, h1, h2⟩ := h
  exact ⟨kvs, s _ _ h1, h2⟩
end SC

namespace SC
open PySem PySem.Spec PyProof.Rows L2
theorem bt_len : bootBuiltins "len" = some (.builtin "len") := by decide +kernel
theorem bt_all : bootBuiltins "all" = some (.builtin "all") := by decide +kernel
theorem bt_isinstance : bootBuiltins "isinstance" = some (.builtin "isinstance") := by decide +kernel
theorem bt_int : bootBuiltins "int" = some (.type "int") := by decide +kernel
theorem bt_bool : bootBuiltins "bool" = some (.type "bool") := by decide +kernel
theorem bt_str : bootBuiltins "str" = some (.type "str") := by decide +kernel
theorem bt_list : bootBuiltins "list" = some (.type "list") := by decide +kernel
theorem bt_tuple : bootBuiltins "tuple" = some (.type "tuple") := by decide +kernel
theorem usS {n : Nat} {us : List Value} (h : us.length = n + 1) : ∃ a r, us = a :: r ∧ r.length = n := by
  cases us with
  | nil => cases h
  | cons a r => exact ⟨a, r, rfl, Nat.succ.inj h⟩
theorem us1 {us : List Value} (h : us.length = 1) : ∃ a, us = [a] := by
  obtain ⟨a, r, rfl, h2⟩ := usS h
  exact ⟨a, by rw [List.eq_nil_of_length_eq_zero h2]⟩
theorem us2 {us : List Value} (h : us.length = 2) : ∃ a b, us = [a, b] := by
  obtain ⟨a, r, rfl, h2⟩ := usS h
  obtain ⟨b, rfl⟩ := us1 h2
  exact ⟨a, b, rfl⟩
theorem us3 {us : List Value} (h : us.length = 3) : ∃ a b c, us = [a, b, c] := by
  obtain ⟨a, r, rfl, h2⟩ := usS h
  obtain ⟨b, c, rfl⟩ := us2 h2
  exact ⟨a, b, c, rfl⟩
theorem us4 {us : List Value} (h : us.length = 4) : ∃ a b c d, us = [a, b, c, d] := by
  obtain ⟨a, r, rfl, h2⟩ := usS h
  obtain ⟨b, c, d, rfl⟩ := us3 h2
  exact ⟨a, b, c, d, rfl⟩
structure Def (K : PySem.W.Frag) (mg : Str → Option Value) (x : Str) (st : Stmt) (ps : List Str) : Prop where
  ex : ∃ f fd, Fun K x x st f fd ∧ Binds K fd ps [] ∧ mg x = some (.ref f)
structure Has (P : Program) (w : World) (K : PySem.W.Frag) (mg : Str → Option Value) (base : Heap) (k : Nat) (x : Str) (ps : List Str) (sp : Sp) : Prop where
  ex : ∃ f fd, FnOk P w K mg base CX0 k f fd ps sp ∧ Binds K fd ps [] ∧ mg x = some (.ref f) ∧ PySem.W.keepIn K (.ref f) = true
section
variable {P : Program} {w : World} {K : PySem.W.Frag} {mg : Str → Option Value} {base : Heap}
theorem Def.has {x : Str} {st : Stmt} {N ps : List Str} {k : Nat} {sp : Sp} (D : Def K mg x st ps) (S : FnScope N ps (defScope st)) (len : ∀ vs H Q E, sp vs H Q E → vs.length = ps.length)
    (hbody : ∀ (f : Addr) (cdv : Value) (A : Around) (outer : List Env) (s : Shared) (H : Hp) (vs : List V) (Q : VK) (E : XK), Room k (A.deeper (envOfC x (defScope st) s.heap.objs.size f cdv)) → sp vs H Q E →
      ∃ t, PSs (cxOf CX0 P w K mg base N x (defScope st) f cdv A outer s H E).nox (defBody st) t ∧ t { nx := fun _ H' => Q .non H', rt := Q } (start N vs) H) : Has P w K mg base (k + 1) x ps sp := by
  obtain ⟨f, fd, F, b, m⟩ := D.ex
  exact ⟨f, fd, F.ok S len (hbody f), b, m, F.kp⟩
end
section
variable {X : Cx} {pos p : Pos} {x : Str}
theorem pe_has {k k' : Nat} {ps : List Str} {sp : Sp} {e : Expr} {es : List Expr} {t : TA} (h : Has X.prog X.w X.K X.mg X.base k' x ps sp) (hr : Room k X.A) (hg : Gl X x) (ha : PA X (e :: es) t) (hk : k' ≤ k := by decide)
    (hdb : (x == ("__debug__" : Str)) = false := by decide) (he : starEach (e :: es) X.env = (false, eval e X.env) :: starEach es X.env := by rfl) (hpl : (backTo pos (starEach es X.env)).any (·.1) = false := by rfl) :
    PE X (.Call (.Name x p) (e :: es) [] pos) (tCall sp [] E0 t) := by
  obtain ⟨f, fd, F, b, m, kp⟩ := h.ex
  exact pe_call F (hr.mono hk) hg m kp b .nil pass0 ha hdb he hpl
theorem pe_gI {i : Int} (hg : Gl X x) (h : ∃ t, X.mg x = some (.int i t)) (hd : (x == ("__debug__" : Str)) = false := by decide) : PE X (.Name x pos) (tC (.int i)) := by
  obtain ⟨t, h⟩ := h
  exact pe_glob hg h ⟨t, rfl⟩ hd
theorem pe_gS {z : Str} (hg : Gl X x) (h : ∃ t, X.mg x = some (.str z t)) (hd : (x == ("__debug__" : Str)) = false := by decide) : PE X (.Name x pos) (tC (.str z)) := by
  obtain ⟨t, h⟩ := h
  exact pe_glob hg h ⟨t, rfl⟩ hd
theorem pe_gR {φ : Addr → Prop} (hg : Gl X x) (h : ∃ a, X.mg x = some (.ref a) ∧ φ a) (hd : (x == ("__debug__" : Str)) = false := by decide) : PE X (.Name x pos) (fun _ H Q => ∀ a, φ a → Q (.ref a) H) := by
  obtain ⟨a, h, ha⟩ := h
  exact fun _ _ _ H _ I q => ld_glob I hg h ⟨.ref a, H, I, rfl, q a ha⟩ hd
theorem pe_bty {T : String} (hg : Gl X x) (hm : X.mg x = none) (hv : bootBuiltins x = some (.type T)) (hn : x ≠ "__name__" := by decide) (hd : (x == ("__debug__" : Str)) = false := by decide) : PE X (.Name x pos) (tC (.ty T)) := pe_bltn hg hm hv rfl hn hd
end
end SC

namespace L2
open PySem PySem.Spec PyProof.Rows
section
variable {X : Cx} {K : PySem.W.Frag} {H : Hp} {a : Addr} {xs : List V}
theorem sqL0 (h : SqL [] H a xs) : SqL K H a xs := by
  rcases h with h | ⟨o, its, n, hk, _⟩
  · exact .inl h
  · cases hk
theorem sqT0 (h : SqT [] H a xs) : SqT K H a xs := by
  rcases h with h | ⟨o, its, n, hk, _⟩
  · exact .inl h
  · cases hk
theorem ix_list0 : IxR X (rIxL []) := fun value slice pins s σ H x y v u Q I rx ry ⟨p, xs, i, w, e1, e2, e3, e4, q⟩ hs => ix_list value slice pins s σ H x y v u Q I rx ry ⟨p, xs, i, w, e1, e2, sqL0 e3, e4, q⟩ hs
theorem ix_tup0 : IxR X (rIxT []) := fun value slice pins s σ H x y v u Q I rx ry ⟨p, xs, i, w, e1, e2, e3, e4, q⟩ hs => ix_tup value slice pins s σ H x y v u Q I rx ry ⟨p, xs, i, w, e1, e2, sqT0 e3, e4, q⟩ hs
noncomputable def rLen0 : List V → Hp → VK → Prop := fun xs H Q => Ex2_3 (fun p ys => xs = [.ref p]) (fun p ys => (SqL [] H p ys ∨ SqT [] H p ys)) (fun p ys => Q (.int ys.length) H)
theorem call_len_seq0 : CallR X (.builtin "len") rLen0 := fun pins s σ H xs us Q I r ⟨p, ys, e, h, q⟩ => call_len_seq pins s σ H xs us Q I r ⟨p, ys, e, h.elim (fun z => .inl (sqL0 z)) fun z => .inr (sqT0 z), q⟩
noncomputable def rListOf0 : List V → Hp → VK → Prop := fun xs H Q => Ex2_3 (fun p ys => xs = [.ref p]) (fun p ys => (SqL [] H p ys ∨ SqT [] H p ys)) (fun p ys => ∀ l, H l = none → Q (.ref l) (upd H l (.lst ys)))
theorem call_list_of0 : CallR X (.type "list") rListOf0 := fun pins s σ H xs us Q I r ⟨p, ys, e, h, q⟩ => call_list_of pins s σ H xs us Q I r ⟨p, ys, e, h.elim (fun z => .inl (sqL0 z)) fun z => .inr (sqT0 z), q⟩
theorem tyV0 {T : String} {x : V} {H : Hp} (h : tyV [] T x H) : tyV K T x H := by
  cases x with
  | ref p =>
    rcases h with ⟨e, xs, h⟩ | ⟨_, o, h, _⟩ | h | h
    · exact .inl ⟨e, xs, sqL0 h⟩
    · cases h
    · exact .inr (.inr (.inl h))
    · exact .inr (.inr (.inr h))
  | _ => exact h
variable {o e : Expr} {es : List Expr} {to te : TE} {t : TA} {name : Str} {apos cpos : Pos} {T id : String} {r : V → List V → Hp → VK → Prop}
theorem PE.up (h : PE X e te) : PE X e (fun σ H Q => ∃ P : VK, te σ H P ∧ ∀ x H1, P x H1 → Q x H1) := fun pins s σ H Q I ⟨P, h1, h2⟩ => thn (h pins s σ H P I h1) fun v s' ⟨x, H', I', r, q⟩ => ⟨x, H', I', r, h2 _ _ q⟩
theorem pe_bmF (pa : PlainAttrs T) (slot : Slot T name id) (ty : typeOf (.builtin id) = pure (.type "method_descriptor")) (m : MtR X id r) (h : PE X o to) (a : PA X (e :: es) t)
    (h1 : attributeBase o name X.env (eval o X.env) = eval o X.env := by rfl)
    (h2 : ((backTo cpos (starEach (e :: es) X.env)).all (fun x => !x.1) && (backToKw cpos (keywordEach [] X.env)).all (fun x => x.1.isSome) && decide ((e :: es).length + ([] : List Keyword).length + (if ([] : List Keyword).isEmpty then 0 else 1) < 30)) = true := by rfl)
    (h3 : (apos.endLine == cpos.line) = true := by rfl) (h4 : starEach (e :: es) X.env = (false, eval e X.env) :: starEach es X.env := by rfl) (h5 : (backTo cpos (starEach es X.env)).any (·.1) = false := by rfl) :
    PE X (.Call (.Attribute o name apos) (e :: es) [] cpos) (tBM [] T r to t) := fun pins s σ H Q I q =>
  pe_bm pa slot ty m h.up a h1 h2 h3 h4 h5 pins s σ H Q I ⟨_, q, fun _ _ z => ⟨tyV0 z.1, z.2⟩⟩
end
end L2

namespace L2
open PySem PySem.Spec PyProof.Rows
structure UnB (fs : List Addr) (H H' : Hp) (h B h' : Heap) : Prop where
  keep : ∀ b o, h.get? b = some o → H b = none → b ∉ fs → B.get? b = some o
  slot : ∀ b o, h.get? b = some o → H b = none → b ∈ fs → ∃ sl, h'.get? b = some { o with slots := sl }
  free : ∀ b o, h.get? b = some o → H b = none → H' b = none
  there : ∀ b o, h.get? b = some o → b ∉ fs → ∃ o', B.get? b = some o'
  tups : ∀ b xs, H b = some (.tup xs) → H' b = some (.tup xs)
  frzs : ∀ b o u, H b = some (.frz o u) → H' b = some (.frz o u)
  tbls : ∀ b ps, H b = some (.tbl ps) → ∃ more, H' b = some (.tbl (ps ++ more))

section
variable {fs : List Addr} {H0 H H' : Hp} {h0 h B h' h'' : Heap} {L : Addr}
theorem UnB.un (u : UnB fs H H' h B h') (k : B.StaysIn h') (hf : ∀ b ∈ fs, H b = none) : Un fs [] H H' h h' where
  keep := fun b o q n hb _ => k _ _ (u.keep b o q n hb)
  slot := fun b o q n hb _ => u.slot b o q n hb
  free := fun b o q n _ => u.free b o q n
  there := fun b o q _ => by
    by_cases hb : b ∈ fs
    · obtain ⟨sl, e⟩ := u.slot b o q (hf b hb) hb
      exact ⟨_, e⟩
    · obtain ⟨o', e⟩ := u.there b o q hb
      exact ⟨o', k _ _ e⟩
  tups := u.tups
  frzs := u.frzs
  tbls := u.tbls
theorem nnil {b : Addr} : b ∉ ([] : List Addr) := fun z => nomatch z
theorem UnB.back (a : Un fs [] H0 H h0 h) (u : UnB (L :: fs) H H' h B h') (hL : h0.objs.size ≤ L) (hu : h'.UpToSlots h'') (hr : ∀ b ∈ fs, ∀ o, h0.get? b = some o → ∀ vs, o.data ≠ .fields vs) : UnB fs H0 H' h0 B h'' := by
  have ne : ∀ b o, h0.get? b = some o → b ∉ fs → b ∉ L :: fs := fun b o q hb z => by
    rcases List.mem_cons.mp z with e | e
    · subst e
      exact absurd (Heap.lt_size q) (Nat.not_lt.mpr hL)
    · exact hb e
  refine ⟨fun b o q n hb => u.keep b o (a.keep b o q n hb nnil) (a.free b o q n nnil) (ne b o q hb), fun b o q n hb => ?_, fun b o q n => ?_, fun b o q hb => ?_, fun b xs q => u.tups b xs (a.tups b xs q), fun b o x q => u.frzs b o x (a.frzs b o x q), fun b ps q => ?_⟩
  · obtain ⟨sl, e1⟩ := a.slot b o q n hb nnil
    obtain ⟨sl2, e2⟩ := u.slot b _ e1 (a.free b o q n nnil) (List.mem_cons_of_mem _ hb)
    obtain ⟨sl3, e3⟩ := hu b _ e2 (hr b hb o q)
    exact ⟨sl3, e3⟩
  · obtain ⟨o', e⟩ := a.there b o q nnil
    exact u.free b o' e (a.free b o q n nnil)
  · obtain ⟨o', e⟩ := a.there b o q nnil
    exact u.there b o' e (ne b o q hb)
  · obtain ⟨m1, e1⟩ := a.tbls b ps q
    obtain ⟨m2, e2⟩ := u.tbls b _ e1
    exact ⟨m1 ++ m2, by rw [e2, Array.append_assoc]⟩
end
noncomputable def CX1 (P : Program) (w : World) : CXT := fun outer H s E e s' => ∃ (ea : Addr) (cls a0 : Value) (H' : Hp) (B : Heap),
  e = .ref ea ∧ s'.os = s.os ∧ AllBare s'.gens ∧ UnB (frs outer) H H' s.heap B s'.heap ∧ HOk P w H' B ∧ Heap.FlyingW B outer ea cls a0 s'.heap ∧ E cls none H'

section
variable {P : Program} {w : World} {K : PySem.W.Frag} {mg : Str → Option Value} {base : Heap}
theorem FnOk.lift {CX : CXT} {k : Nat} {f : Addr} {fd : FuncData} {ps : List Str} {sp : Sp} (F : FnOk P w K mg base CX0 k f fd ps sp) : FnOk P w K mg base CX k f fd ps sp :=
  ⟨F.len, fun A outer s H args us vs Q E hr e0 hb r h => codeAny_mono (F.run A outer s H args us vs Q E hr e0 hb r h) fun r s' q => by
    cases r with
    | ok f =>
      cases f with
      | ret u => exact q
      | next => exact q
      | brk => exact q
      | cont => exact q
    | error e => exact q.elim⟩
theorem HOk.sub {H : Hp} {h h' : Heap} (ok : HOk P w H h) (k : ∀ b u, H b ≠ none → h.get? b = some u → h'.get? b = some u) : HOk P w H h' := fun a o q =>
  (ok a o q).stay (fun b u hb e => k b u (by
    rcases hb with z | z
    · rw [z, q]; exact fun z => nomatch z
    · rw [z]; exact fun z => nomatch z) e) (fun _ z => z) fun _ _ z => z
noncomputable def Throws (X : Cx) (E : XK) : Prop := ∀ (pins : List (Addr × Obj)) (σ : St) (H : Hp) (s : Shared) (ea C : Addr) (args : List Value) (h' : Heap), Inv X pins σ H s → Heap.MadeExcOf s.heap h' ea (.ref C) args → E (.ref C) none H →
  X.xe (.ref ea) { s with heap := h' }

section
variable {N : List Str} {qual : Str} {scope : Scope} {f : Addr} {cdv : Value} {A : Around} {outer : List Env} {s : Shared} {H : Hp} {E : XK}
theorem pass1 : Passes (CX1 P w) (cxOf (CX1 P w) P w K mg base N qual scope f cdv A outer s H E) E := by
  rintro pins σ H1 s1 e s' I ⟨ea, cls, a0, H', B, rfl, os, bare, u, hok, fl, q⟩
  refine wpAny_leaves_onW (env := envOfC qual scope s.heap.objs.size f cdv) (outer := outer) (L := s.heap.objs.size) I.ok.frames rfl fl fun h' fl' up => ?_
  have u : UnB (s.heap.objs.size :: frs outer) H1 H' s1.heap B s'.heap := u
  exact ⟨ea, cls, a0, H', B, rfl, os.trans I.os, bare, UnB.back I.base u (Nat.le_refl _) up fun b hb o q vs => by
    obtain ⟨_, o', e, d⟩ := I.ok.funs.mem hb
    have e : s.heap.get? b = some o' := e
    rw [q] at e
    cases e
    exact d vs, hok, fl', q⟩
theorem throws1 : Throws (cxOf (CX1 P w) P w K mg base N qual scope f cdv A outer s H E) E := by
  intro pins σ H1 s1 ea C args h' I hm q
  have hin : ∀ env ∈ (envOfC qual scope s.heap.objs.size f cdv :: outer), ∀ b, env.frame = some b → b ∈ frs (envOfC qual scope s.heap.objs.size f cdv :: outer) := fun env he b hb => List.mem_filterMap.mpr ⟨env, he, hb⟩
  have nf : ∀ b, H1 b ≠ none → b ∉ frs (envOfC qual scope s.heap.objs.size f cdv :: outer) := fun b hb z => hb (I.stkFree b z)
  refine wpAny_leaves_madeW (base := PySem.W.hideAll s1.heap (frs (envOfC qual scope s.heap.objs.size f cdv :: outer))) (env := envOfC qual scope s.heap.objs.size f cdv) (outer := outer) (L := s.heap.objs.size) I.ok.frames rfl
    (fun b o q => PySem.W.of_hideAll _ q) (PySem.W.funFrames_hide I.stack hin) hm fun h'' t fl _ _ up => ?_
  have ne : ∀ b o, s.heap.get? b = some o → b ∉ frs outer → b ∉ frs (envOfC qual scope s.heap.objs.size f cdv :: outer) := fun b o q hb z => by
    have z : b ∈ s.heap.objs.size :: frs outer := z
    rcases List.mem_cons.mp z with e | e
    · subst e
      exact absurd (Heap.lt_size q) (Nat.lt_irrefl _)
    · exact hb e
  have a : Un (frs outer) [] H H1 s.heap s1.heap := I.base
  refine ⟨ea, .ref C, .ref t, H1, _, rfl, I.os, I.bare, ⟨fun b o q n hb => PySem.W.hideAll_get _ (a.keep b o q n hb nnil) (ne b o q hb), fun b o q n hb => ?_, fun b o q n => a.free b o q n nnil, fun b o q hb => ?_, a.tups, a.frzs, a.tbls⟩, I.hok.sub fun b u hb e => PySem.W.hideAll_get _ e (nf b hb), fl, q⟩
  · obtain ⟨sl, e1⟩ := a.slot b o q n hb nnil
    obtain ⟨sl3, e3⟩ := up b _ (hm.keeps _ _ e1) (by
      obtain ⟨_, o', e, d⟩ := I.ok.funs.mem hb
      have e : s.heap.get? b = some o' := e
      rw [q] at e
      cases e
      exact d)
    exact ⟨sl3, e3⟩
  · obtain ⟨o', e⟩ := a.there b o q nnil
    exact ⟨o', PySem.W.hideAll_get _ e (ne b o q hb)⟩
end
theorem Fun.ok1 {x qual : Str} {st : Stmt} {f : Addr} {fd : FuncData} {N ps : List Str} {k : Nat} {sp : Sp} (F : Fun K x qual st f fd) (S : FnScope N ps (defScope st)) (len : ∀ vs H Q E, sp vs H Q E → vs.length = ps.length)
    (hbody : ∀ (cdv : Value) (A : Around) (outer : List Env) (s : Shared) (H : Hp) (vs : List V) (Q : VK) (E : XK), Room k (A.deeper (envOfC qual (defScope st) s.heap.objs.size f cdv)) → sp vs H Q E →
      ∃ t, PSs (cxOf (CX1 P w) P w K mg base N qual (defScope st) f cdv A outer s H E) (defBody st) t ∧ t { nx := fun _ H' => Q .non H', rt := Q } (start N vs) H) : FnOk P w K mg base (CX1 P w) (k + 1) f fd ps sp := by
  obtain ⟨oc, od, kV, doc, pm, an, cdv, ct, osl, rfl, lk, hcd⟩ := F.ex
  exact fn_of lk hcd S len fun A outer s H vs Q E hr hsp => hbody cdv A outer s H vs Q E hr hsp
end

structure ExCls (K : PySem.W.Frag) (C : Addr) : Prop where
  q : PySem.W.excIn K C [.type "ValueError", .type "Exception", .type "BaseException", .type "object"] "ValueError.__new__" = true
  fcl : PySem.W.findIn K (.ref C) "__class__" = some (some (.builtin "object.__class__"))
  fga : PySem.W.findIn K (.ref C) "__getattribute__" = some (some (.builtin "BaseException.__getattribute__"))
  fgx : PySem.W.findIn K (.ref C) "__getattr__" = some none
noncomputable def subIn (K : PySem.W.Frag) (C : Addr) (D : Value) : Bool := match K.lookup C with
  | some ⟨_, _, .cls cd, _⟩ => cd.mro.contains D
  | _ => false
theorem ExCls.obj {K : PySem.W.Frag} {C : Addr} {h : Heap} (E : ExCls K C) (X : K.In h) :
    ∃ bm N nm q bs hdct sn sub ab col dd k0 k1 k2 k3 k5 mN, h.get? C = some (excClassObj nm q C N bs bm hdct sn sub ab col dd k0 k1 k2 k3 k5 "ValueError.__new__") ∧ h.Ns N mN ∧ mN "__init__" = none ∧
      OwnTail h [.type "ValueError", .type "Exception", .type "BaseException", .type "object"] bm ∧ ∀ D, (Value.ref C :: bm).contains D = subIn K C D := by
  have q := E.q
  unfold PySem.W.excIn at q
  split at q
  · rename_i dd cd sl ho
    split at q
    · rename_i C' bm k0 k1 k2 k3 n k5 hm hs
      simp only [Bool.and_eq_true, beq_iff_eq, Bool.not_eq_true'] at q
      obtain ⟨⟨⟨⟨⟨rfl, rfl⟩, hdel⟩, ht⟩, hok⟩, hni⟩ := q
      obtain ⟨nm, bs, mro, ns, qn, hd, sn, sub, ab, col, del⟩ := cd
      dsimp only at hm hdel hok hni
      subst hm hdel
      have hsl : sl = #[k0, k1, k2, k3, some (.builtin "ValueError.__new__"), k5] := by
        obtain ⟨l⟩ := sl
        simp only at hs
        rw [hs]
      subst hsl
      exact ⟨bm, ns, nm, qn, bs, hd, sn, sub, ab, col, dd, k0, k1, k2, k3, k5, _, X _ _ ho, .of_isNs (PySem.W.isNs_of_in X hok), PySem.W.nsMap_none_of_in X hok hni, PySem.W.tail_of_in X ht, fun D => by unfold subIn; rw [ho]⟩
    · cases q
  · cases q

section
variable {X : Cx} {x : Str} {np cpos pos : Pos} {e : Expr} {E : XK} {C : Addr} {te : TE}
noncomputable def tRaise (C : Addr) (E : XK) (te : TE) : TS := fun _ σ H => te σ H fun _ H1 => E (.ref C) none H1
theorem ps_raise (hx : Throws X E) (hc : X.calm = true) (hg : Gl X x) (hm : X.mg x = some (.ref C)) (hC : ExCls X.K C) (he : PE X e te) (hdb : (x == ("__debug__" : Str)) = false := by decide)
    (hst : starEach [e] X.env = [(false, eval e X.env)] := by rfl) : PS X (.Raise (some (.Call (.Name x np) [e] [] cpos)) none pos) (tRaise C E te) := by
  intro pins s σ H D I h
  obtain ⟨tl, N, nm, q, bs, hdct, sn, sub, ab, col, dd, k0, k1, k2, k3, k5, mN, hC0, hN, hni, T, _⟩ := hC.obj I.ok.mod.kin
  refine wpAny_Raise_call_subT (C := C) (nm := nm) (q := q) (N := N) (bs := bs) (bm := tl) (hdct := hdct) (sn := sn) (sub := sub) (ab := ab) (col := col) (dd := dd) (k0 := k0) (k1 := k1) (k2 := k2) (k3 := k3) (k5 := k5)
    PySem.F.excBase_ValueError (mN := mN) (T.hasType PySem.F.excBase_ValueError.hasBase) (I.ok.hd hc) (by rw [hst]; rfl) hni (ld_glob I hg hm ⟨rfl, ?_⟩ hdb)
  rw [hst]
  refine Calls.evalArgs_plain (Calls.spliced_cons (thn (he pins s σ H _ I h) fun v s1 ⟨x, H1, I1, r1, q1⟩ => ?_))
  exact Calls.spliced_nil ⟨rfl, (show 1 ≤ sizeLine by decide), I1.bk _ _ hC0, hN.keeps I1.bk, T.keeps I1.bk, fun h' ea hm => hx pins σ H1 s1 ea C _ h' I1 hm q1⟩
end
end L2

namespace PySem
open Sem (wp)
section
variable {M : Model} {A : Around} {E : Value → Shared → Prop}
variable {nm q : Str} {C N : Addr} {bs bm : List Value} {hdct : Bool} {sn : List Str} {sub : List Value} {ab : Bool} {col : Option Bool} {dd : Option Addr} {k0 k1 k2 k3 k5 : Option Value} {newId : String}
variable {nm' q' : Str} {D N' : Addr} {bs' bm' : List Value} {hdct' : Bool} {sn' : List Str} {sub' : List Value} {ab' : Bool} {col' : Option Bool} {dd' : Option Addr} {k0' k1' k2' k3' k5' : Option Value} {newId' : String}
theorem wpAny_excMatches_sub_own {h : Heap} {g : Array GenState} {d : Drawn} {t : Nat} {os : OsState} {e : Addr} {oe : Obj} {Q : Bool → Shared → Prop}
    (hC : h.get? C = some (excClassObj nm q C N bs bm hdct sn sub ab col dd k0 k1 k2 k3 k5 newId)) (hD : h.get? D = some (excClassObj nm' q' D N' bs' bm' hdct' sn' sub' ab' col' dd' k0' k1' k2' k3' k5' newId'))
    (he : h.get? e = some oe) (hcls : oe.cls = .ref C) (hbase : bm'.contains (.type "BaseException") = true) (hs : (Value.ref C :: bm).contains (.ref D) = true)
    (hq : Q true ⟨h, g, d, t, os⟩) : wpAny M A (excMatches (.ref e) (.ref D)) Q E ⟨h, g, d, t, os⟩ := by
  have hcB : (Value.ref D :: bm').contains (.type "BaseException") = true := by rw [List.contains_cons, hbase, Bool.or_true]
  have f := tc_notTuple
  unfold excMatches
  repeat (first | (with_reducible refine wpAny_loadPart_at he ?_; rw [hcls]) | with_reducible refine wpAny_loadPart_at hD ?_ | (with_reducible refine wpAny_isSubtype_exc hD ?_; rw [hcB]) | (with_reducible refine wpAny_isSubtype_exc hC ?_; rw [hs]) | wp_step)
  exact hq
end
end PySem
namespace L2
open PySem PySem.Spec PyProof.Rows
section
variable {P : Program} {w : World} {H H' : Hp} {h h' h'' B : Heap} {a : Addr} {o : HO} {fs : List Addr}
theorem ObjOk.get (x : ObjOk P w H h a o) : ∃ u, h.get? a = some u := by
  cases o with
  | lst xs => obtain ⟨_, _, _, _, e⟩ := x; exact ⟨_, e⟩
  | tup xs => obtain ⟨_, _, _, ob, e, _⟩ := x; exact ⟨_, e⟩
  | dK kvs => obtain ⟨_, _, _, _, o, _, _, e, _⟩ := x; exact ⟨_, e⟩
  | dT kvs => obtain ⟨_, _, _, _, o, _, _, e, _⟩ := x; exact ⟨_, e⟩
  | set S n => obtain ⟨o, _, _, _, e, _⟩ := x; exact ⟨_, e⟩
  | ins C dx fs => obtain ⟨_, _, _, e, _⟩ := x; exact ⟨_, e⟩
  | own y => exact x
  | xd fs => obtain ⟨_, ⟨_, _, _, e, _⟩, _⟩ := x; exact ⟨_, e⟩
  | rng lo hi => obtain ⟨_, _, _, e⟩ := x; exact ⟨_, e⟩
  | frz ob u => obtain ⟨e, _⟩ := x; exact ⟨_, e⟩
  | tbl ps => exact ⟨_, x⟩
  | met f y => exact ⟨_, x⟩
  | ext φ => exact x.2.1
theorem HOk.none (ok : HOk P w H h) (e : h.get? a = none) : H a = none := by
  cases q : H a with
  | none => rfl
  | some o =>
    obtain ⟨u, z⟩ := (ok a o q).get
    rw [e] at z
    cases z
theorem UnB.up (u : UnB fs H H' h B h') (hu : h'.UpToSlots h'') (hr : ∀ b ∈ fs, ∀ o, h.get? b = some o → ∀ vs, o.data ≠ .fields vs) : UnB fs H H' h B h'' :=
  ⟨u.keep, fun b o q n hb => by
    obtain ⟨sl, e⟩ := u.slot b o q n hb
    exact let ⟨sl2, e2⟩ := hu b _ e (hr b hb o q); ⟨sl2, e2⟩, u.free, u.there, u.tups, u.frzs, u.tbls⟩
end
noncomputable def ExO (ea C : Addr) : HO := .ext fun h => ∃ o, h.get? ea = some o ∧ o.cls = .ref C

section
variable {X : Cx} {pins : List (Addr × Obj)} {σ : St} {H : Hp} {s : Shared}
noncomputable abbrev Cx.tr (X : Cx) (pn : List (Addr × Obj)) (E : Value → Shared → Prop) : Cx := { X with pn := pn, xe := E }
noncomputable abbrev Cx.ct (X : Cx) (ea : Addr) : Cx := { X with A := X.A.mark (some (.ref ea)), calm := false, xe := fun _ _ => False }
theorem Cx.Ok.tr (ok : X.Ok) (pn : List (Addr × Obj)) (E : Value → Shared → Prop) : (X.tr pn E).Ok :=
  ⟨ok.mod, ok.kind, ok.glob, ok.blt, ok.above, ok.inj, ok.has, ok.cab, ok.hd, ok.frames, ok.stk, ok.exf, ok.bs, ok.bsz, ok.noex, ok.exfs, ok.funs, ok.frf⟩
theorem Cx.Ok.untr {pn : List (Addr × Obj)} {E : Value → Shared → Prop} (ok : (X.tr pn E).Ok) : X.Ok :=
  ⟨ok.mod, ok.kind, ok.glob, ok.blt, ok.above, ok.inj, ok.has, ok.cab, ok.hd, ok.frames, ok.stk, ok.exf, ok.bs, ok.bsz, ok.noex, ok.exfs, ok.funs, ok.frf⟩
theorem Cx.Ok.ct (ok : X.Ok) (ea : Addr) : (X.ct ea).Ok :=
  ⟨ok.mod, ok.kind, ok.glob, ok.blt, ok.above, ok.inj, ok.has, ok.cab, (fun z => nomatch z), ok.frames, ok.stk, ok.exf, ok.bs, ok.bsz, ok.noex, ok.exfs, ok.funs, ok.frf⟩
theorem Inv.tr (I : Inv X pins σ H s) (E : Value → Shared → Prop) : Inv (X.tr (X.pn ++ pins) E) [] σ H s :=
  ⟨I.ok.tr _ _, I.os, I.bare, I.base, I.loc, I.cell, I.free, I.freeC, fun p hp => I.pin p (by rw [List.append_nil] at hp; exact hp), I.hok, I.len⟩
theorem Inv.untr {E : Value → Shared → Prop} {pins' : List (Addr × Obj)} (I : Inv (X.tr (X.pn ++ pins) E) pins' σ H s) : Inv X pins σ H s :=
  ⟨I.ok.untr, I.os, I.bare, I.base, I.loc, I.cell, I.free, I.freeC, fun p hp => I.pin p (List.mem_append_left _ hp), I.hok, I.len⟩
theorem Inv.ct (I : Inv X pins σ H s) (ea : Addr) : Inv (X.ct ea) pins σ H s := ⟨I.ok.ct ea, I.os, I.bare, I.base, I.loc, I.cell, I.free, I.freeC, I.pin, I.hok, I.len⟩
theorem Inv.unct {ea : Addr} (ok : X.Ok) (I : Inv (X.ct ea) pins σ H s) : Inv X pins σ H s := ⟨ok, I.os, I.bare, I.base, I.loc, I.cell, I.free, I.freeC, I.pin, I.hok, I.len⟩
theorem Inv.track {ea : Addr} {o : HO} (I : Inv X pins σ H s) (hn : H ea = none) (h0 : X.s₀.heap.get? ea = none) (hL : ea ≠ X.env.locals) (hc : ∀ x c, X.env.cells.lookup x = some c → c ≠ ea) (hp : ∀ p ∈ X.pn ++ pins, p.1 ≠ ea)
    (new : ObjOk X.prog X.w (upd H ea o) s.heap ea o) : Inv X pins σ (upd H ea o) s := by
  refine ⟨I.ok, I.os, I.bare, ⟨I.base.keep, I.base.slot, fun b u q n hx => ?_, I.base.there, fun b xs q => ?_, fun b u x q => ?_, fun b ps q => ?_⟩, I.loc, I.cell, ?_, fun x c e => ?_, fun p q => ?_, fun a u q => ?_, I.len⟩
  · rw [upd_ne (fun z => by rw [z, h0] at q; cases q)]
    exact I.base.free b u q n hx
  · have e := I.base.tups b xs q
    rw [upd_ne (ne_of_none e hn)]
    exact e
  · have e := I.base.frzs b u x q
    rw [upd_ne (ne_of_none e hn)]
    exact e
  · obtain ⟨m, e⟩ := I.base.tbls b ps q
    exact ⟨m, by rw [upd_ne (ne_of_none e hn)]; exact e⟩
  · rw [upd_ne (Ne.symm hL)]
    exact I.free
  · rw [upd_ne (hc x c e)]
    exact I.freeC x c e
  · obtain ⟨e, n, ne, nf, d⟩ := I.pin p q
    exact ⟨e, by rw [upd_ne (hp p q)]; exact n, ne, nf, d⟩
  · by_cases z : a = ea
    · subst z
      rw [upd_same] at q
      cases q
      exact new
    · rw [upd_ne z] at q
      refine (I.hok a u q).stay (fun _ _ _ e => e) (fun b e => ?_) fun b xs e => ?_
      · rw [upd_ne (ne_of_none e hn)]
        exact e
      · rw [upd_ne (ne_of_none e hn)]
        exact e
theorem gone_ok {M : Model} {A : Around} {E : Value → Shared → Prop} {i : Nat} {x : Str} {pos : Pos} {Q : Unit → Shared → Prop} (I : Inv X pins σ H s) (hN : X.N.Nodup) (hi : X.N[i]? = some x) (hk : X.env.kindOf x = some .local)
    (h : ∀ s', Inv X pins (σ.set i none) H s' → Q () s') : wpAny M A (do bindName X.env x .none; unbindBehindTheSuite X.env x pos) Q E s := by
  obtain ⟨m, hn, hl⟩ := id I.loc
  have hcls : (X.env.scope.kind == .class || (X.env.scope.kind == .module && X.env.locals != X.env.globals)) = false := by rw [I.ok.kind]; rfl
  refine wpAny_nameGoes_keeps hk hn hcls fun h' v hn' hs => h _ ?_
  have cne := I.cne
  obtain ⟨oL, _, _, hoL, _⟩ := id hn
  have hiσ : i < σ.length := by rw [I.len]; exact (List.getElem?_eq_some_iff.mp hi).1
  refine ⟨I.ok, I.os, I.bare, ⟨fun b o e n hb hx => ?_, fun b o e n hb hx => ?_, I.base.free, fun b o e hx => ?_, I.base.tups, I.base.frzs, I.base.tbls⟩, ⟨_, hn', fun j y v' e1 e2 e3 => ?_⟩, fun y c e => ?_, I.free, I.freeC, fun p hp => ?_, fun b ob e => ?_, by simpa using I.len⟩
  · exact (hs.2 b (Nat.ne_of_lt (Nat.lt_of_lt_of_le (Heap.lt_size e) I.ok.above))).trans (I.base.keep b o e n hb hx)
  · obtain ⟨sl, e1⟩ := I.base.slot b o e n hb hx
    exact ⟨sl, (hs.2 b (Nat.ne_of_lt (Nat.lt_of_lt_of_le (Heap.lt_size e) I.ok.above))).trans e1⟩
  · obtain ⟨o', e1⟩ := I.base.there b o e hx
    exact ⟨o', (hs.2 b (Nat.ne_of_lt (Nat.lt_of_lt_of_le (Heap.lt_size e) I.ok.above))).trans e1⟩
  · by_cases hj : j = i
    · subst hj
      rw [List.getElem?_set_self hiσ] at e2
      cases e2
    · rw [List.getElem?_set_ne (Ne.symm hj)] at e2
      obtain ⟨u', r', q⟩ := hl j y v' e1 e2 e3
      refine ⟨u', r', ?_⟩
      rcases q with ⟨k, e⟩ | ⟨k, c, e, z⟩
      · refine .inl ⟨k, ?_⟩
        have : y ≠ x := fun e => hj (nodup_ix hN e1 (e ▸ hi))
        simp [this, e]
      · exact .inr ⟨k, c, e, z.sameBut hs (cne y c e)⟩
  · obtain ⟨w', z⟩ := I.cell y c e
    exact ⟨w', z.sameBut hs (cne y c e)⟩
  · obtain ⟨e, n, ne, nf, d⟩ := I.pin p hp
    exact ⟨(hs.2 p.1 ne).trans e, n, ne, nf, d⟩
  · refine (I.hok b ob e).stay (fun c w' hc q => (hs.2 c ?_).trans q) (fun _ q => q) fun _ _ q => q
    rintro rfl
    rcases hc with rfl | hc
    · have := I.free
      rw [e] at this
      cases this
    · have := I.free
      rw [hc] at this
      cases this
end

noncomputable def Passes0 (CX : CXT) (X : Cx) (σ0 : St) (E : XK) : Prop := ∀ (pins : List (Addr × Obj)) (H : Hp) (s : Shared) (e : Value) (s' : Shared), Inv X pins σ0 H s → CX X.stack H s E e s' → X.xe e s'
section
variable {X : Cx} {CX : CXT} {k : Nat} {f C : Addr} {fd : FuncData} {ps : List Str} {sp : Sp} {dvs : List V} {ds : List Value} {E : XK} {x m : Str} {p pos apos : Pos} {e o : Expr} {es : List Expr} {ta : TE} {t : TA} {σ0 : St}
noncomputable def tCallT (sp : Sp) (dvs : List V) (E : XK) (σ0 : St) (t : TA) : TE := fun σ H Q => σ = σ0 ∧ tCall sp dvs E t σ H Q
theorem run_fnT {pins : List (Addr × Obj)} {H : Hp} {s : Shared} {Q : VK} {us : List Value} {vs : List V} (F : FnOk X.prog X.w X.K X.mg X.base CX k f fd ps sp) (hr : Room k X.A) (hb : Binds X.K fd ps ds) (hd : Vals dvs ds) (hx : Passes0 CX X σ0 E)
    (I : Inv X pins σ0 H s) (r : Vals vs us) (h : sp (vs ++ dvs) H Q E) : wpAny (model X.prog X.w) X.A (call (.ref f) us) (EP X pins σ0 Q) X.xe s := by
  have r2 : Vals (vs ++ dvs) (us ++ ds) := r.append hd
  have hl : (us ++ ds).length = ps.length := by rw [← r2.length]; exact F.len _ _ _ _ h
  refine wpAny_call (codeAny_mono (F.run X.A X.stack s H ⟨us, []⟩ (us ++ ds) (vs ++ dvs) Q E hr I.env0 (hb s us I.kIn hl) r2 h) fun r s' hq => ?_)
  cases r with
  | error e => exact hx pins H s e s' I hq
  | ok fl =>
    cases fl with
    | ret u => exact I.after hq
    | next => exact False.elim hq
    | brk => exact False.elim hq
    | cont => exact False.elim hq
theorem pe_callT (F : FnOk X.prog X.w X.K X.mg X.base CX k f fd ps sp) (hr : Room k X.A) (hg : Gl X x) (hm : X.mg x = some (.ref f)) (hk : PySem.W.keepIn X.K (.ref f) = true) (hb : Binds X.K fd ps ds) (hd : Vals dvs ds) (hx : Passes0 CX X σ0 E)
    (ha : PA X (e :: es) t) (hdb : (x == ("__debug__" : Str)) = false := by decide) (he : starEach (e :: es) X.env = (false, eval e X.env) :: starEach es X.env := by rfl) (hpl : (backTo pos (starEach es X.env)).any (·.1) = false := by rfl) :
    PE X (.Call (.Name x p) (e :: es) [] pos) (tCallT sp dvs E σ0 t) := by
  intro pins s σ H Q I ⟨z, h⟩
  subst z
  refine wpAny_Call_Name_kw (ld_glob I hg hm ?_ hdb)
  refine PySem.W.callWith_K (h₀ := X.base) I.ok.mod.kin hk (thn (ha pos pins s σ H _ I h) fun us s1 ⟨vs, H1, I1, r, q⟩ => ⟨I1.kIn, ?_⟩) he hpl
  exact run_fnT F hr hb hd hx I1 r q
end

noncomputable def Ends.less (D : Ends) (i : Nat) : Ends := ⟨fun σ H => D.nx (σ.set i none) H, D.rt, fun σ H => D.bk (σ.set i none) H, fun σ H => D.ct (σ.set i none) H⟩
noncomputable def tTry (K : PySem.W.Frag) (D0 : Addr) (i : Nat) (tb : XK → St → TS) (th : TS) : TS := fun D σ H => ∃ E : XK, tb E σ D σ H ∧ ∀ cls H', E cls none H' → ∃ C, cls = .ref C ∧ ExCls K C ∧ subIn K C (.ref D0) = true ∧
  ∀ ea, H' ea = none → th (D.less i) (σ.set i (some (.ref ea))) (upd H' ea (ExO ea C))
section
variable {X : Cx} {x n : Str} {np hpos pos : Pos} {i : Nat} {D0 : Addr} {body suite : List Stmt} {b₀ : Stmt} {tb : XK → St → TS} {th : TS}
theorem ps_try (hf : X.stack = X.env :: X.outer) (hfr : X.env.frame = some X.env.locals) (hex : X.ex = []) (hb : ∀ (E : XK) (σ0 : St) (pn : List (Addr × Obj)) (xe : Value → Shared → Prop), Passes0 (CX1 X.prog X.w) (X.tr pn xe) σ0 E → PSs (X.tr pn xe) body (tb E σ0))
    (hs : ∀ ea, PSs (X.ct ea) (b₀ :: suite) th) (hg : Gl X x) (hm : X.mg x = some (.ref D0)) (hD : ExCls X.K D0) (hN : X.N.Nodup) (hi : X.N[i]? = some n) (hk : X.env.kindOf n = some .local) (hdb : (x == ("__debug__" : Str)) = false := by decide) :
    PS X (.Try body [.ExceptHandler (some (.Name x np)) (some n) (b₀ :: suite) hpos] [] [] pos) (tTry X.K D0 i tb th) := by
  rintro pins s σ H D I ⟨E, hbt, hh⟩
  refine wpAny_Try_except ?_
  refine wpAny_mono (hb E σ (X.pn ++ pins) (fun e s' => ∃ pins' H1 s1, Inv (X.tr (X.pn ++ pins) fun _ _ => False) pins' σ H1 s1 ∧ CX1 X.prog X.w X.stack H1 s1 E e s') (fun pins' H1 s1 e s' I1 c => ⟨pins', H1, s1, I1.wish _, c⟩) [] s σ H D (I.tr _) hbt) (fun f s1 q => ?_) fun e s1 q => ?_
  · cases f with
    | next =>
      obtain ⟨σ', H', I', q⟩ := q
      exact wpAny_execs_nil ⟨σ', H', I'.untr, q⟩
    | brk => obtain ⟨σ', H', I', q⟩ := q; exact ⟨σ', H', I'.untr, q⟩
    | cont => obtain ⟨σ', H', I', q⟩ := q; exact ⟨σ', H', I'.untr, q⟩
    | ret u => obtain ⟨v, σ', H', I', r, q⟩ := q; exact ⟨v, σ', H', I'.untr, r, q⟩
  · obtain ⟨pins', H1, s2, I1, ea, cls, a0, H', B, rfl, os, bare, u, hok, fl, q⟩ := q
    obtain ⟨C, rfl, hC, hsub, hth⟩ := hh cls H' q
    have I1 : Inv X pins σ H1 s2 := I1.untr
    have rcd : ∀ b ∈ frs X.stack, ∀ o, s2.heap.get? b = some o → ∀ vs, o.data ≠ .fields vs := fun b hb o e vs => by
      obtain ⟨_, o', e', d⟩ := I1.stack.mem hb
      rw [e] at e'
      cases e'
      exact d vs
    have hn : H' ea = none := hok.none fl.2.1
    -- the state behind the exception's way
    have st : ∀ h5, s1.heap.UpToSlots h5 → Heap.FlyingW B X.stack ea (.ref C) a0 h5 → Inv X pins σ H' { s1 with heap := h5 } := fun h5 up fl5 =>
      I1.call' (s' := { s1 with heap := h5 }) (ch := []) os ((u.up up rcd).un fl5.1 I1.stkFree) (hok.kept fl5.1) bare fun b z => nomatch z
    rw [hf] at fl
    refine wpAny_looks_onW (by rw [I1.ok.frames, hf]) hfr fl fun h4 held4 up4 => ?_
    refine wpAny_landsW held4 fun h5 fl5 up5 => ?_
    have I5 := st h5 (up4.trans up5) (by rw [hf]; exact fl5)
    obtain ⟨ob, hob, hobc⟩ := fl5.there
    obtain ⟨bm, N, nm, q', bs, hdct, sn, sub, ab, col, dd, k0, k1, k2, k3, k5, mN, hC0, _, _, _, hm0⟩ := hC.obj I5.kIn
    obtain ⟨bm', N', nm', q'', bs', hdct', sn', sub', ab', col', dd', k0', k1', k2', k3', k5', mN', hD0, _, _, T', _⟩ := hD.obj I5.kIn
    refine wpAny_handleBy_cons (codeAny_handlers_test (ld_glob (X := X.ct ea) (I5.ct ea) hg hm ?_ hdb)) (by intro q; cases q)
    refine wpAny_excMatches_sub_own hC0 hD0 hob hobc (T'.hasType rfl) (by rw [hm0]; exact hsub) (codeAny_handlers_suite_as ?_)
    refine lands_againW fl5 fun h6 fl6 up6 => ?_
    have I6 := st h6 ((up4.trans up5).trans up6) (by rw [hf]; exact fl6)
    obtain ⟨oe, ws, hoe, hoec, hoed, _⟩ := fl6.first
    have nfr : ea ∉ frs X.stack := fun z => by
      obtain ⟨_, o', e', d⟩ := I6.stack.mem z
      have e' : h6.get? ea = some o' := e'
      rw [hoe] at e'
      cases e'
      exact d ws hoed
    have h0 : X.s₀.heap.get? ea = none := by
      cases e : X.s₀.heap.get? ea with
      | none => rfl
      | some o =>
        obtain ⟨o', e1⟩ := I1.base.there ea o e (by rw [hex]; exact nnil)
        obtain ⟨o2, e2⟩ := u.there ea o' e1 nfr
        have := fl6.2.1
        rw [e2] at this
        cases this
    have J6 := (I6.track (o := ExO ea C) hn h0 (fun z => nfr (by rw [hf]; exact List.mem_filterMap.mpr ⟨_, List.mem_cons_self, by rw [hfr, z]⟩)) (fun y c e z => by
      obtain ⟨v, oc, hoc, hcd⟩ := I6.cell y c e
      have hoc : h6.get? c = some oc := hoc
      rw [z, hoe] at hoc
      cases hoc
      rw [hoed] at hcd
      cases hcd) (fun p hp z => by
      obtain ⟨e, n, ne, nf, d⟩ := I1.pin p hp
      have k := u.keep p.1 p.2 e n fun z => (List.mem_cons.mp (I1.stkSub _ z)).elim ne nf
      rw [z, fl6.2.1] at k
      cases k) ⟨⟨oe, hoe, hoec⟩, ⟨oe, hoe⟩, fun h1 h2 ⟨o, e, c⟩ k => ⟨o, k o e, c⟩⟩).ct ea
    refine store_ok (X := X.ct ea) J6 hN hi (.inl hk) (v := .ref ea) rfl (fun s7 J7 => ?_) (.inr hk)
    refine wpAny_mono (hs ea pins s7 _ _ _ J7 (hth ea hn)) (fun f s8 q8 => ?_) fun _ _ z => z.elim
    cases f with
    | next =>
      obtain ⟨σ', H'', I8, q8⟩ := q8
      exact gone_ok (I8.unct I1.ok) hN hi hk fun s9 I9 => ⟨_, _, I9, q8⟩
    | brk =>
      obtain ⟨σ', H'', I8, q8⟩ := q8
      exact gone_ok (I8.unct I1.ok) hN hi hk fun s9 I9 => ⟨_, _, I9, q8⟩
    | cont =>
      obtain ⟨σ', H'', I8, q8⟩ := q8
      exact gone_ok (I8.unct I1.ok) hN hi hk fun s9 I9 => ⟨_, _, I9, q8⟩
    | ret u =>
      obtain ⟨v, σ', H'', I8, r, q8⟩ := q8
      exact gone_ok (I8.unct I1.ok) hN hi hk fun s9 I9 => ⟨v, _, _, I9, r, q8⟩
end
end L2

namespace PySem
open Sem (wp)
section
variable {prog : Program} {w : World} {A : Around} {E : Value → Shared → Prop} {h : Heap} {g : Array GenState} {d : Drawn} {t : Nat} {os : OsState} {a : Addr} {o : Obj}
  {nm q : Str} {C N : Addr} {bs bm : List Value} {hdct : Bool} {sn : List Str} {sub : List Value} {ab : Bool} {col : Option Bool} {dd : Option Addr} {k0 k1 k2 k3 k5 : Option Value} {newId : String}
theorem class_get_exc {R : Result → Shared → Prop} (hC : h.get? C = some (excClassObj nm q C N bs bm hdct sn sub ab col dd k0 k1 k2 k3 k5 newId)) (hob : bm.contains (.type "object") = true)
    (hx : h.get? a = some o) (hc : o.cls = .ref C) (hq : R (.ok (.ret (.ref C))) ⟨h, g, d, t, os⟩) :
    codeAny (model prog w) A (.call (.builtin "getset_descriptor.__get__") ⟨[.builtin "object.__class__", .ref a, .ref C], []⟩) R ⟨h, g, d, t, os⟩ := by
  have hT5 : (⟨h, g, d, t, os⟩ : Shared).TypeIs (.builtin "object.__class__") "getset_descriptor" := F.typeOf_object_class
  have hcB : (Value.ref C :: bm).contains (.type (".".intercalate ("object.__class__".cutAt '.').dropLast)) = true := by
    rw [F.owner_object_class, List.contains_cons, hob]; rfl
  refine codeAny_call_builtin F.slot_gs_get.plain F.entry_gs_get (F.slot_gs_get.check _ _ _ _ _ _ _ _ hT5 (F.args_gs_get _ _ _) ?_)
  repeat (any_goals (first | assumption | (with_reducible refine wpAny_loadPart_at hx ?_; rw [hc]) | (with_reducible refine wpAny_isSubtype_exc hC ?_; rw [hcB]) | wp_step))
  refine ⟨Code.quiet_builtin _ (by decide +kernel), codeAny_builtin F.entry_object_class ?_⟩
  repeat (any_goals (first | assumption | (with_reducible refine wpAny_loadPart_at hx ?_; rw [hc]) | wp_step))
theorem class_entry_exc {tk : Tok} {Q : Fin → Shared → Prop} (hC : h.get? C = some (excClassObj nm q C N bs bm hdct sn sub ab col dd k0 k1 k2 k3 k5 newId)) (hob : bm.contains (.type "object") = true)
    (L : PySem.W.Looks (model prog w) h (typeLookup (.ref C) "__class__") (some (.builtin "object.__class__")))
    (hx : h.get? a = some o) (hc : o.cls = .ref C) (hq : Q (.done (.ret (.ref C))) ⟨h, g, d, t, os⟩) :
    wpAny (model prog w) A (Builtin.«object.__getattribute__» ⟨[.ref a, .str "__class__" tk], []⟩) Q E ⟨h, g, d, t, os⟩ := by
  have hT5 : (⟨h, g, d, t, os⟩ : Shared).TypeIs (.builtin "object.__class__") "getset_descriptor" := F.typeOf_object_class
  have f5 := F.typeOf_object_class
  have f6 := F.slot_gs_get.lookup
  have f7 := F.slot_gs_set.lookup
  repeat (any_goals (first | assumption | (with_reducible refine wpAny_loadPart_at hx ?_; rw [hc]) | with_reducible refine L.at ?_ | wp_step))
  refine class_get_exc hC hob hx hc ?_
  repeat (any_goals (first | assumption | wp_step))
theorem check_ga_exc {M : Model} {nameV : Value} {Q : Unit → Shared → Prop} (hC : h.get? C = some (excClassObj nm q C N bs bm hdct sn sub ab col dd k0 k1 k2 k3 k5 newId)) (hbe : bm.contains (.type "BaseException") = true)
    (hx : h.get? a = some o) (hc : o.cls = .ref C) (hq : Q () ⟨h, g, d, t, os⟩) : wpAny M A (checkBuiltinCall "BaseException.__getattribute__" ⟨[.ref a, nameV], []⟩) Q E ⟨h, g, d, t, os⟩ := by
  have hk : builtinKind "BaseException.__getattribute__" = some .slot := by decide +kernel
  have hsplit : splitId "BaseException.__getattribute__" = some ("BaseException", "__getattribute__") := by decide +kernel
  have hcB : (Value.ref C :: bm).contains (.type "BaseException") = true := by rw [List.contains_cons, hbe]; rfl
  have ha := F.args_bexc_ga (.ref a) nameV
  simp only [checkBuiltinCall, hk, hsplit]
  refine wpAny_bind ?_
  · unfold isInstance
    repeat (first | (with_reducible refine wpAny_loadPart_at hx ?_; rw [hc]) | (with_reducible refine wpAny_isSubtype_exc hC ?_; rw [hcB]) | wp_step)
    exact hq
theorem class_by_exc {tk : Tok} {Q : Value → Shared → Prop} (hC : h.get? C = some (excClassObj nm q C N bs bm hdct sn sub ab col dd k0 k1 k2 k3 k5 newId)) (hob : bm.contains (.type "object") = true) (hbe : bm.contains (.type "BaseException") = true)
    (L : PySem.W.Looks (model prog w) h (typeLookup (.ref C) "__class__") (some (.builtin "object.__class__"))) (L1 : PySem.W.Looks (model prog w) h (typeLookup (.ref C) "__getattribute__") (some (.builtin "BaseException.__getattribute__")))
    (L2 : PySem.W.Looks (model prog w) h (typeLookup (.ref C) "__getattr__") none)
    (hx : h.get? a = some o) (hc : o.cls = .ref C) (hq : Q (.ref C) ⟨h, g, d, t, os⟩) : wpAny (model prog w) A (getAttrBy (.ref a) (.str "__class__" tk) false) Q E ⟨h, g, d, t, os⟩ := by
  have f3 := F.attrBase_ValueError.ga.bind (.ref a)
  have hx2 : (Value.builtin "BaseException.__getattribute__" == Value.builtin "object.__getattribute__") = false := by decide +kernel
  have hx1 : (onTheHeap (Value.ref C) && Value.builtin "BaseException.__getattribute__" == Value.builtin "object.__getattribute__") = false := by rw [hx2]; rfl
  repeat (any_goals (first | assumption | (with_reducible refine wpAny_loadPart_at hx ?_; rw [hc]) | with_reducible refine L1.at ?_ | with_reducible refine L2.at ?_ | wp_step))
  refine codeAny_call_builtin F.attrBase_ValueError.ga.plain F.entry_bexc_ga (check_ga_exc hC hbe hx hc (class_entry_exc hC hob L hx hc ?_))
  repeat (any_goals (first | assumption | wp_step))
theorem class_attr_exc {Q : Option Value → Shared → Prop} (hC : h.get? C = some (excClassObj nm q C N bs bm hdct sn sub ab col dd k0 k1 k2 k3 k5 newId)) (hob : bm.contains (.type "object") = true) (hbe : bm.contains (.type "BaseException") = true)
    (L : PySem.W.Looks (model prog w) h (typeLookup (.ref C) "__class__") (some (.builtin "object.__class__"))) (L1 : PySem.W.Looks (model prog w) h (typeLookup (.ref C) "__getattribute__") (some (.builtin "BaseException.__getattribute__")))
    (L2 : PySem.W.Looks (model prog w) h (typeLookup (.ref C) "__getattr__") none)
    (hx : h.get? a = some o) (hc : o.cls = .ref C) (hq : Q (some (.ref C)) ⟨h, g, d, t + 1, os⟩) : wpAny (model prog w) A (getAttr? (.ref a) "__class__") Q E ⟨h, g, d, t, os⟩ := by
  unfold getAttr? getAttrBy?
  repeat (any_goals (first | assumption | with_reducible apply class_by_exc hC hob hbe L L1 L2 hx hc | wp_step))
end
end PySem
namespace L2
open PySem PySem.Spec PyProof.Rows
theorem kitx_exc {K : PySem.W.Frag} {ea C : Addr} (c : ExCls K C) : PySem.W.KitX K (.ref ea) (.ref C) (fun h => ∃ o, h.get? ea = some o ∧ o.cls = .ref C) where
  ty := fun M h _ ⟨o, h1, h2⟩ => h2 ▸ (PySem.W.Looks.ld h1).andThen .now
  it := fun M h X _ => by
    obtain ⟨bm, N, nm, q', bs, hdct, sn, sub, ab, col, dd, k0, k1, k2, k3, k5, mN, hC0, _⟩ := c.obj X
    intro A' Q' E' s' k q
    unfold isType loadHead
    exact wpAny_bind (wpAny_loadPart (k _ _ hC0) (wpAny_pure q))
  ne := fun h tp dd its n sl X htp => by
    obtain ⟨bm, N, nm, q', bs, hdct, sn, sub, ab, col, dd, k0, k1, k2, k3, k5, mN, hC0, _⟩ := c.obj X
    refine Bool.eq_false_iff.mpr fun q => ?_
    have e : C = tp := Value.ref.inj (beq_iff_eq.mp q)
    subst e
    have z := hC0.symm.trans htp
    have e2 : Value.type "type" = Value.type "tuple" := congrArg Obj.cls (Option.some.inj z)
    injection e2 with e3
    exact absurd e3 (by decide)
  ca := fun {prog w A E Q s} X ⟨o, h1, h2⟩ k => by
    obtain ⟨h, g, d, t, os⟩ := s
    obtain ⟨bm, N, nm, q', bs, hdct, sn, sub, ab, col, dd, k0, k1, k2, k3, k5, mN, hC0, _, _, T, _⟩ := c.obj X
    exact class_attr_exc hC0 (T.hasType rfl) (T.hasType rfl) (PySem.W.looks_findIn X c.fcl) (PySem.W.looks_findIn X c.fga) (PySem.W.looks_findIn X c.fgx) h1 h2 k
section
variable {X : Cx}
noncomputable def rIsE (K : PySem.W.Frag) : List V → Hp → VK → Prop := fun xs H Q => ∃ ea C b, H ea = some (ExO ea C) ∧ ExCls K C ∧ ((∃ D, xs = [.ref ea, .ref D] ∧ PySem.W.kitOne K (.ref C) (.ref D) = some b) ∨
  (∃ T, xs = [.ref ea, .ty T] ∧ PySem.W.kitOne K (.ref C) (.type T) = some b) ∨ ∃ (tp : Addr) (Ds : List Addr), xs = [.ref ea, .ref tp] ∧ H tp = some (.tup (Ds.map V.ref)) ∧ PySem.W.kitAny K (.ref C) (Ds.map Value.ref) = some b) ∧ Q (.bl b) H
theorem vals_refs : ∀ {Ds : List Addr} {us : List Value}, Vals (Ds.map V.ref) us → us = Ds.map Value.ref
  | [], _, .nil => rfl
  | D :: r, _, .cons (b := u) (l₂ := l) h t => by
    have e : u = Value.ref D := h
    rw [List.map_cons, e, vals_refs t]
theorem call_isiE : CallR X (.builtin "isinstance") (rIsE X.K) := by
  intro pins s σ H xs us Q I r h
  obtain ⟨ea, C, b, hE, c, h, q⟩ := h
  have p : ∃ o, s.heap.get? ea = some o ∧ o.cls = .ref C := (show ObjOk X.prog X.w H s.heap ea (ExO ea C) from I.hok ea _ hE).1
  rcases h with ⟨D, rfl, e⟩ | ⟨T, rfl, e⟩ | ⟨tp, Ds, rfl, ht, e⟩
  · obtain ⟨u, w', rfl, r1, r2⟩ := vals2 r
    obtain rfl : u = Value.ref ea := r1
    obtain rfl : w' = Value.ref D := r2
    exact PySem.W.kia_one (kitx_exc c) I.kIn p e (fun z => nomatch z) fun tk => ⟨.bl b, H, I.tok tk, rfl, q⟩
  · obtain ⟨u, w', rfl, r1, r2⟩ := vals2 r
    obtain rfl : u = Value.ref ea := r1
    obtain rfl : w' = Value.type T := r2
    exact PySem.W.kia_one (kitx_exc c) I.kIn p e (fun z => nomatch z) fun tk => ⟨.bl b, H, I.tok tk, rfl, q⟩
  · obtain ⟨u, w', rfl, r1, r2⟩ := vals2 r
    obtain rfl : u = Value.ref ea := r1
    obtain rfl : w' = Value.ref tp := r2
    obtain ⟨_, its, rv, o, h1, h2, n, h3⟩ := (show ObjOk X.prog X.w H s.heap tp (.tup (Ds.map V.ref)) from I.hok tp _ ht)
    obtain rfl := vals_refs rv
    obtain ⟨oc, od, dt, sl⟩ := o
    dsimp only at h2 h3
    subst h2 h3
    exact PySem.W.kia_tup (kitx_exc c) I.kIn p h1 e (fun z => nomatch z) fun tk => ⟨.bl b, H, I.tok tk, rfl, q⟩
end
end L2

namespace SC
open PySem PySem.Spec PyProof.Rows L2
structure Has1 (P : Program) (w : World) (K : PySem.W.Frag) (mg : Str → Option Value) (base : Heap) (k : Nat) (x : Str) (ps : List Str) (sp : Sp) : Prop where
  ex : ∃ f fd, FnOk P w K mg base (CX1 P w) k f fd ps sp ∧ Binds K fd ps [] ∧ mg x = some (.ref f) ∧ PySem.W.keepIn K (.ref f) = true
section
variable {P : Program} {w : World} {K : PySem.W.Frag} {mg : Str → Option Value} {base : Heap}
theorem Def.has1 {x : Str} {st : Stmt} {N ps : List Str} {k : Nat} {sp : Sp} (D : Def K mg x st ps) (S : FnScope N ps (defScope st)) (len : ∀ vs H Q E, sp vs H Q E → vs.length = ps.length)
    (hbody : ∀ (f : Addr) (cdv : Value) (A : Around) (outer : List Env) (s : Shared) (H : Hp) (vs : List V) (Q : VK) (E : XK), Room k (A.deeper (envOfC x (defScope st) s.heap.objs.size f cdv)) → sp vs H Q E →
      ∃ t, PSs (cxOf (CX1 P w) P w K mg base N x (defScope st) f cdv A outer s H E) (defBody st) t ∧ t { nx := fun _ H' => Q .non H', rt := Q } (start N vs) H) : Has1 P w K mg base (k + 1) x ps sp := by
  obtain ⟨f, fd, F, b, m⟩ := D.ex
  exact ⟨f, fd, F.ok1 S len (hbody f), b, m, F.kp⟩
theorem Has.up {k : Nat} {x : Str} {ps : List Str} {sp : Sp} (h : Has P w K mg base k x ps sp) : Has1 P w K mg base k x ps sp := by
  obtain ⟨f, fd, F, r⟩ := h.ex
  exact ⟨f, fd, F.lift, r⟩
end
section
variable {X : Cx} {pos p : Pos} {x : Str} {E : XK} {σ0 : L2.St}
theorem pe_has1 {k k' : Nat} {ps : List Str} {sp : Sp} {e : Expr} {es : List Expr} {t : TA} (h : Has1 X.prog X.w X.K X.mg X.base k' x ps sp) (hr : Room k X.A) (hx : Passes (CX1 X.prog X.w) X E) (hg : Gl X x) (ha : PA X (e :: es) t) (hk : k' ≤ k := by decide)
    (hdb : (x == ("__debug__" : Str)) = false := by decide) (he : starEach (e :: es) X.env = (false, eval e X.env) :: starEach es X.env := by rfl) (hpl : (backTo pos (starEach es X.env)).any (·.1) = false := by rfl) :
    PE X (.Call (.Name x p) (e :: es) [] pos) (tCall sp [] E t) := by
  obtain ⟨f, fd, F, b, m, kp⟩ := h.ex
  exact pe_call F (hr.mono hk) hg m kp b .nil hx ha hdb he hpl
theorem pe_hasT {k k' : Nat} {ps : List Str} {sp : Sp} {e : Expr} {es : List Expr} {t : TA} (h : Has1 X.prog X.w X.K X.mg X.base k' x ps sp) (hr : Room k X.A) (hx : Passes0 (CX1 X.prog X.w) X σ0 E) (hg : Gl X x) (ha : PA X (e :: es) t) (hk : k' ≤ k := by decide)
    (hdb : (x == ("__debug__" : Str)) = false := by decide) (he : starEach (e :: es) X.env = (false, eval e X.env) :: starEach es X.env := by rfl) (hpl : (backTo pos (starEach es X.env)).any (·.1) = false := by rfl) :
    PE X (.Call (.Name x p) (e :: es) [] pos) (tCallT sp [] E σ0 t) := by
  obtain ⟨f, fd, F, b, m, kp⟩ := h.ex
  exact pe_callT F (hr.mono hk) hg m kp b .nil hx ha hdb he hpl
theorem pe_cls {C : Addr} (hg : Gl X x) (h : X.mg x = some (.ref C)) (hd : (x == ("__debug__" : Str)) = false := by decide) : PE X (.Name x pos) (tC (.ref C)) := pe_glob hg h rfl hd
end
end SC

namespace L2
open PySem PySem.Spec PyProof.Rows
section
variable {X : Cx}
theorem empty_cat {z : Str} : Str.empty ++ z = z := by
  cases z with
  | mk c => show Str.mk (#[] ++ c) = Str.mk c; rw [Array.empty_append]
theorem join_const {z : Str} {j : Nat} {p1 : Pos} {rest : List (Sem Value)} {pins : List (Addr × Obj)} {s : Shared} {σ : St} {H : Hp} {acc : Str} {Q : Str → Shared → Prop} (I : Inv X pins σ H s) (hz : (acc ++ z).length ≤ sizeLine)
    (k : ∀ s1, Inv X pins σ H s1 → Joins (model X.prog X.w) X.A X.xe rest (acc ++ z) Q s1) : Joins (model X.prog X.w) X.A X.xe (eval (.Constant (.str z) j p1) X.env :: rest) acc Q s := by
  show wpAny _ _ (eval (.Constant (.str z) j p1) X.env) _ _ s
  refine thn (pe_str (X := X) pins s σ H (fun v H' => v = .str z ∧ H' = H) I ⟨rfl, rfl⟩) fun v s1 ⟨x, H1, I1, r1, e1, e2⟩ => ?_
  subst e1 e2
  obtain ⟨t1, rfl⟩ := r1
  exact ⟨z, t1, rfl, hz, k s1 I1⟩
noncomputable def tFmtI (t : TE) : TE := fun σ H Q => t σ H fun x H1 => Ex1_4 (fun (i : Int) => x = .int i) (fun (i : Int) => 0 ≤ i) (fun (i : Int) => i < 10 ^ 9) (fun (i : Int) => ∀ z, Q (.str z) H1)
theorem pe_fmt3 {z z2 : Str} {j j2 : Nat} {p1 p2 p3 pos : Pos} {e : Expr} {t : TE} (he : PE X e t) (hz : z.length ≤ 1000 := by decide +kernel) (hz2 : z2.length ≤ 1000 := by decide +kernel) :
    PE X (.JoinedStr [.Constant (.str z) j p1, .FormattedValue e (-1) none p2, .Constant (.str z2) j2 p3] pos) (tFmtI t) := by
  intro pins s σ H Q I h
  have hsz : sizeLine = 2 ^ 24 := rfl
  refine wpAny_JoinedStr (join_const (rest := [eval (.FormattedValue e (-1) none p2) X.env, eval (.Constant (.str z2) j2 p3) X.env]) I (by rw [empty_cat, hsz]; omega) fun s1 I1 => ?_)
  rw [empty_cat]
  show wpAny _ _ (eval (.FormattedValue e (-1) none p2) X.env) _ _ s1
  refine wpAny_FormattedValue_plain (thn (he pins s1 σ _ _ I1 h) fun v s2 ⟨x, H2, I2, r2, i, ei, h0, h9, q⟩ => ?_)
  subst ei
  obtain ⟨t2, rfl⟩ := r2
  have lg : i.natAbs.log2 < 1920 := by
    by_cases z : i.natAbs = 0
    · rw [z]; decide
    · exact Nat.lt_of_lt_of_le ((Nat.log2_lt z).mpr (show i.natAbs < 2 ^ 40 by omega)) (by decide)
  have lt := toString_length_le h0 (k := 9) (by decide) h9
  have fit : (z ++ Str.ofString (toString i)).length ≤ 2000 := by rw [strLen_append]; omega
  refine wpAny_formatField_int lg ?_
  refine ⟨_, _, rfl, by rw [hsz]; exact Nat.le_trans fit (by decide), ?_⟩
  have fit2 : ((z ++ Str.ofString (toString i)) ++ z2).length ≤ sizeLine := by rw [strLen_append, hsz]; omega
  refine join_const (rest := []) (I2.tok _) fit2 fun s3 I3 => ?_
  exact ⟨fit2, .str _, H2, I3.tok _, ⟨_, rfl⟩, q _⟩
end
end L2

namespace L2
open PySem PySem.Spec PyProof.Rows
section
variable {K : PySem.W.Frag} {C D : Addr} {t : Value} {b : Bool}
theorem subIn_of {v : Value} (h : PySem.W.mroIn K C v = some true) : subIn K C v = true := by
  unfold PySem.W.mroIn PySem.W.clsIn at h
  unfold subIn
  obtain ⟨cd, a, b⟩ := Option.bind_eq_some_iff.mp h
  split at a
  · rename_i ho
    cases a
    rw [ho]
    split at b
    · cases b
    · exact Option.some.inj b
  · cases a
theorem kit_self : PySem.W.kitOne K t t = some true := by
  unfold PySem.W.kitOne
  rw [if_pos (beq_iff_eq.mpr rfl)]
theorem kit_of (c : ExCls K D) (h : PySem.W.mroIn K C (.ref D) = some b) (ne : (C == D) = false) : PySem.W.kitOne K (.ref C) (.ref D) = some b := by
  have q := c.q
  unfold PySem.W.excIn at q
  split at q
  · rename_i ho
    unfold PySem.W.kitOne
    rw [if_neg (fun z => by
      have e : C = D := Value.ref.inj (beq_iff_eq.mp z)
      subst e
      rw [beq_iff_eq.mpr rfl] at ne
      cases ne)]
    show (if ((PySem.W.clsIn K D).isSome && PySem.W.typeIn K (.ref D) == some (.type "type")) = true then PySem.W.subIn K (.ref C) (.ref D) else none) = some b
    rw [if_pos]
    · exact h
    · refine Bool.and_eq_true_iff.mpr ⟨?_, beq_iff_eq.mpr ?_⟩
      · unfold PySem.W.clsIn
        rw [ho]
        rfl
      · show Option.map (fun x => x.cls) (List.lookup D K) = _
        rw [ho]
        rfl
  · cases q
theorem kit_ty {T : String} (m : PySem.W.kitMeta T = true) (h : PySem.W.mroIn K C (.type T) = some b) : PySem.W.kitOne K (.ref C) (.type T) = some b := by
  unfold PySem.W.kitOne
  rw [if_neg (fun z => by have := beq_iff_eq.mp z; cases this)]
  show (if PySem.W.kitMeta T = true then PySem.W.subIn K (.ref C) (.type T) else none) = some b
  rw [if_pos m]
  exact h
theorem kit_none : ∀ {cs : List Value}, (∀ c ∈ cs, PySem.W.kitOne K t c = some false) → PySem.W.kitAny K t cs = some false
  | [], _ => rfl
  | c :: r, h => by
    unfold PySem.W.kitAny
    rw [h c (.head _)]
    exact kit_none fun d hd => h d (.tail _ hd)
theorem meta_VE : PySem.W.kitMeta "ValueError" = true := by decide +kernel
end
end L2
namespace L2
open PySem PySem.Spec PyProof.Rows
section
variable {X : Cx} {xs es : List Expr} {te : TE} {t : TA} {p : Pos} {e : Expr}
theorem pa_tup {x1} (ha : PE X (.Tuple xs x1 p) te) (hr : PA X es t) : PA X (.Tuple xs x1 p :: es) (tCons te t) := pa_cons ha hr rfl
theorem pa_con {c : Const} {j : Nat} (ha : PE X (.Constant c j p) te) (hr : PA X es t) : PA X (.Constant c j p :: es) (tCons te t) := pa_cons ha hr rfl
theorem pa_un {o} (ha : PE X (.UnaryOp o e p) te) (hr : PA X es t) : PA X (.UnaryOp o e p :: es) (tCons te t) := pa_cons ha hr rfl
end
end L2
namespace SC
open PySem
theorem bt_ValueError : bootBuiltins "ValueError" = some (.type "ValueError") := by decide +kernel
end SC

namespace L2
open PySem PySem.Spec PyProof.Rows
section
variable {X : Cx}
end
end L2

namespace L2
open PySem PySem.Spec PyProof.Rows
section
variable {X : Cx} {tg : Expr}
noncomputable def Itdn (lo : Int) (n : Nat) : It := ⟨fun i _ => i < n, fun i H x H' => H' = H ∧ x = .int (lo - i), fun i _ => n ≤ i⟩
theorem turn_down {P : Program} {w : World} {K : PySem.W.Frag} {tg : Expr} (it : Addr) (lo : Int) (n : Nat) : Turn P w K tg (Itdn lo n) [it] it (fun i h => IsRangeIter h it (lo + (i : Nat) * (-1)) ((n : Int) - (i : Nat)) (-1)) where
  mem := by simp
  obj := fun i h st b hb => by
    have e : b = it := by simpa using hb
    subst e
    exact ⟨_, st, fun v z => by
      have z' : Data.fields _ = Data.cell v := z
      cases z'⟩
  keep := fun i h h' st k => k it (by simp) _ st
  item := by
    intro X hP hw hK hc i pins s σ H E I hf st hg
    subst hP hw hK
    obtain ⟨f0, f1, f2, f3, f4, f5⟩ := hf it (by simp)
    have W := Walks.range (prog := X.prog) (w := X.w) (I.ok.hd hc) it lo (-1) n
    refine W.item i s _ _ hg st fun v h' tk hv st' kk => ?_
    obtain ⟨t, rfl⟩ := hv
    have I1 : Inv X pins σ H { s with heap := h', toks := tk } := I.turned (fun b o hb e => kk b o (by simpa using hb) e) f0 f1 f3 f4 f5
    refine ⟨_, rfl, go_of (s := { s with heap := h', toks := tk }) (n := "range_iterator") st' rfl rfl (by decide) ⟨.int (lo - i), H, I1, ⟨t, ?_⟩, ⟨rfl, rfl⟩, st', fun b hb => (hf b hb).1⟩⟩
    rw [show lo + (i : Int) * (-1) = lo - i by omega]
  done := by
    intro X hP hw hK hc i pins s σ H E I hf st hg
    subst hP hw hK
    obtain ⟨f0, f1, f2, f3, f4, f5⟩ := hf it (by simp)
    exact wpAny_pyNext_range_end (I.ok.hd hc) st (by have : n ≤ i := hg; omega) fun h' eb => ⟨rfl, I.turned (t' := s.toks) (fun b o hb e => eb b o hb e) f0 f1 f3 f4 f5⟩
  self := fun _ _ _ _ _ st h => wpAny_pyIter_rangeiter st h
theorem rangeD_it {pins : List (Addr × Obj)} {σ : St} {H : Hp} {s : Shared} {R : It → Hp → Prop} {E : Value → Shared → Prop} {lo hi : Int} {t u v : Tok} {tk : Nat} (I : Inv X pins σ H s) (h1 : -(2 ^ 62) ≤ lo) (h2 : lo < 2 ^ 62) (h3 : -(2 ^ 62) ≤ hi) (h4 : hi < 2 ^ 62)
    (q : R (Itdn lo (lo - hi).toNat) H) : wpAny (model X.prog X.w) X.A (pyIter (.ref s.heap.objs.size)) (PIE X pins σ tg R) E { s with heap := s.heap.push { cls := .type "range", data := .fields #[.int lo t, .int hi u, .int (-1) v] }, toks := tk } := by
  refine wpAny_pyIter_range (IsRange.new ..) (PySem.W.small_down h1 h2 h3 h4) ?_
  have I1 : Inv X pins σ H { s with heap := s.heap.push { cls := .type "range", data := .fields #[.int lo t, .int hi u, .int (-1) v] }, toks := tk } := I.kept fun b o e => Heap.get?_push_of_some _ e
  refine ⟨(s.heap.push { cls := .type "range", data := .fields #[.int lo t, .int hi u, .int (-1) v] }).objs.size, [(s.heap.push { cls := .type "range", data := .fields #[.int lo t, .int hi u, .int (-1) v] }).objs.size], _, _, H, rfl,
    I1.kept (t' := tk) fun b o e => Heap.get?_push_of_some _ e, turn_down _ lo (lo - hi).toNat, ?_, fun b hb => ?_, q⟩
  · have e1 : lo + ((0 : Nat) : Int) * (-1) = lo := by simp
    have e2 : (((lo - hi).toNat : Nat) : Int) - ((0 : Nat) : Int) = Builtin.Range.rangeSize lo hi (-1) := by rw [PySem.W.rangeSize_downNat]; omega
    show IsRangeIter _ _ (lo + ((0 : Nat) : Int) * (-1)) ((((lo - hi).toNat : Nat) : Int) - ((0 : Nat) : Int)) (-1)
    rw [e1, e2]
    exact Heap.get?_push_size _ rfl
  · have e : b = (s.heap.push { cls := .type "range", data := .fields #[.int lo t, .int hi u, .int (-1) v] }).objs.size := by simpa using hb
    subst e
    exact I1.fpOk (Nat.le_refl _) (I1.hok.fresh (Nat.le_refl _))
noncomputable def iRngD (ta : TA) : TI := fun σ H R => ta σ H fun vs H1 => ∃ i j : Int, vs = [.int i, .int j, .int (-1)] ∧ (-(2 ^ 62) ≤ i ∧ i < 2 ^ 62 ∧ -(2 ^ 62) ≤ j ∧ j < 2 ^ 62) ∧ R (Itdn i (i - j).toNat) H1
theorem pi_rangeD {a b c : Expr} {ta : TA} {p pos : Pos} (hg : Gl X "range") (hm : X.mg "range" = none) (ha : PA X [a, b, c] ta) (hs : starEach [a, b, c] X.env = [(false, eval a X.env), (false, eval b X.env), (false, eval c X.env)] := by rfl) (hs2 : starEach [b, c] X.env = [(false, eval b X.env), (false, eval c X.env)] := by rfl) :
    PI X tg (.Call (.Name "range" p) [a, b, c] [] pos) (iRngD ta) := by
  intro pins s σ H R I h
  refine Call_ (ld_blt I hg hm boot_range (PyProof.Rows.callWith_type1 (thn (ha pos pins s σ H _ I h) fun us s1 ⟨vs, H1, I1, r1, q1⟩ => ?_) (by rw [hs, hs2]) (by rw [hs2]; rfl)))
  obtain ⟨i, j, e, ⟨q1, q2, q3, q4⟩, q⟩ := q1
  subst e
  cases r1 with
  | cons r rr =>
    cases rr with
    | cons r' rr =>
      cases rr with
      | cons r'' rr =>
        cases rr
        obtain ⟨t, rfl⟩ := r
        obtain ⟨t', rfl⟩ := r'
        obtain ⟨t'', rfl⟩ := r''
        exact call_range_3 (by decide) (rangeD_it I1 q1 q2 q3 q4 q) (Or.inl (PyProof.noPylong_small (by decide)))
theorem for_down {lo : Int} {n : Nat} {g : TG} {tb : TS} {D : Ends} {σ : St} {H : Hp} (Pv : Nat → St → Hp → Prop) (h0 : Pv 0 σ H)
    (hs : ∀ i σ H, i < n → Pv i σ H → g (.int (lo - i)) σ H fun σ2 H2 => tb { D with nx := Pv (i + 1), ct := Pv (i + 1), bk := D.nx } σ2 H2) (hd : ∀ σ H, Pv n σ H → D.nx σ H) :
    ∃ W : Nat → Nat → St → Hp → Prop, (∃ m, W 0 m σ H) ∧ ∀ i m σ H, W i m σ H →
      ((Itdn lo n).stop i H ∧ D.nx σ H) ∨ ((Itdn lo n).go i H ∧ ∃ N : St → Hp → Prop, (∀ σ' H', N σ' H' → ∃ m', m' < m ∧ W (i + 1) m' σ' H') ∧ ∀ x H', (Itdn lo n).yld i H x H' → g x σ H' fun σ2 H2 => tb { D with nx := N, ct := N, bk := D.nx } σ2 H2) := by
  refine ⟨fun i m σ H => m = n - i ∧ i ≤ n ∧ Pv i σ H, ⟨n, by simp, Nat.zero_le _, h0⟩, ?_⟩
  rintro i m σ H ⟨rfl, hi, p⟩
  by_cases hlt : i < n
  · refine .inr ⟨hlt, Pv (i + 1), fun σ' H' p' => ⟨n - (i + 1), by omega, rfl, hlt, p'⟩, fun x H' y => ?_⟩
    obtain ⟨e, y⟩ := y
    subst e y
    exact hs i σ _ hlt p
  · have e : i = n := by omega
    subst e
    exact .inl ⟨Nat.le_refl _, hd σ H p⟩
end

section
variable {X : Cx} {pins : List (Addr × Obj)} {σ : St} {H : Hp} {s : Shared}
theorem Inv.freeze {d : Addr} {kvs : List (Key × V)} (I : Inv X pins σ H s) (e : H d = some (.dK kvs)) : ∃ ob, Inv X pins σ (upd H d (.frz ob (.dK kvs))) s := by
  obtain ⟨z, y, vs, r, ob, es, ep, e1, c⟩ := (show ObjOk X.prog X.w H s.heap d (.dK kvs) from I.hok d _ e)
  refine ⟨ob, I.un (h' := s.heap) (t' := s.toks) ⟨fun b o q _ _ _ => q, fun b o q _ _ _ => ⟨o.slots, q⟩, fun b o q n _ => ?_, fun b o q _ => ⟨o, q⟩, fun b xs q => ?_, fun b o u q => ?_, fun b ps q => ⟨#[], ?_⟩⟩ fun b u q => ?_⟩
  · rw [upd_ne (fun w => by rw [w, e] at n; cases n)]; exact n
  · rw [upd_ne (ne_of q e (by intro z; cases z))]; exact q
  · rw [upd_ne (ne_of q e (by intro z; cases z))]; exact q
  · rw [upd_ne (ne_of q e (by intro z; cases z)), q]; simp
  · have st : ∀ b o, ObjOk X.prog X.w H s.heap b o → ObjOk X.prog X.w (upd H d (.frz ob (.dK kvs))) s.heap b o := fun b o x => x.stay (fun c v _ q => q) (fun c q => by rw [upd_ne (ne_of q e (by intro z; cases z))]; exact q) fun c xs q => by rw [upd_ne (ne_of q e (by intro z; cases z))]; exact q
    by_cases hb : b = d
    · subst hb
      rw [upd_same] at q
      cases q
      exact ⟨e1, st _ _ (I.hok b _ e)⟩
    · rw [upd_ne hb] at q
      exact st b u (I.hok b u q)
theorem Inv.thaw {d : Addr} {ob : Obj} {kvs : List (Key × V)} (I : Inv X pins σ H s) (e : H d = some (.frz ob (.dK kvs))) (h0 : ∀ o u, X.H₀ d ≠ some (.frz o u)) : Inv X pins σ (upd H d (.dK kvs)) s := by
  have nn : ∀ b, H b = none → upd H d (.dK kvs) b = none := fun b n => by rw [upd_ne (fun w => by rw [w, e] at n; cases n)]; exact n
  refine ⟨I.ok, I.os, I.bare, ⟨I.base.keep, I.base.slot, fun b o q n hx => nn b (I.base.free b o q n hx), I.base.there, fun b xs q => ?_, fun b o u q => ?_, fun b ps q => ?_⟩, I.loc, I.cell, nn _ I.free, fun x c q => nn c (I.freeC x c q), fun p hp => ?_, fun b u q => ?_, I.len⟩
  · have q := I.base.tups b xs q
    rw [upd_ne (ne_of q e (by intro z; cases z))]; exact q
  · have hb : b ≠ d := fun w => h0 o u (by rw [← w]; exact q)
    rw [upd_ne hb]; exact I.base.frzs b o u q
  · obtain ⟨more, q⟩ := I.base.tbls b ps q
    exact ⟨more, by rw [upd_ne (ne_of q e (by intro z; cases z))]; exact q⟩
  · obtain ⟨a, n, r⟩ := I.pin p hp
    exact ⟨a, nn _ n, r⟩
  · have st : ∀ b o, ObjOk X.prog X.w H s.heap b o → ObjOk X.prog X.w (upd H d (.dK kvs)) s.heap b o := fun b o x => x.stay (fun c v _ q => q) (fun c q => by rw [upd_ne (ne_of q e (by intro z; cases z))]; exact q) fun c xs q => by rw [upd_ne (ne_of q e (by intro z; cases z))]; exact q
    by_cases hb : b = d
    · subst hb
      rw [upd_same] at q
      cases q
      exact st _ _ (I.hok b _ e).2
    · rw [upd_ne hb] at q
      exact st b u (I.hok b u q)
noncomputable abbrev thawE (d : Addr) (kvs : List (Key × V)) (ob : Obj) (D : Ends) : Ends := ⟨fun σ' H' => H' d = some (.frz ob (.dK kvs)) ∧ D.nx σ' (upd H' d (.dK kvs)), fun v H' => H' d = some (.frz ob (.dK kvs)) ∧ D.rt v (upd H' d (.dK kvs)),
  fun σ' H' => H' d = some (.frz ob (.dK kvs)) ∧ D.bk σ' (upd H' d (.dK kvs)), fun σ' H' => H' d = some (.frz ob (.dK kvs)) ∧ D.ct σ' (upd H' d (.dK kvs))⟩
noncomputable def tFrz (t : TS) : TS := fun D σ H => ∃ (d : Addr) (kvs : List (Key × V)), H d = some (.dK kvs) ∧ ∀ ob, t (thawE d kvs ob D) σ (upd H d (.frz ob (.dK kvs)))
theorem ps_frz {st : Stmt} {t : TS} (h : PS X st t) : PS X st (tFrz t) := by
  intro pins s σ H D I hq
  obtain ⟨d, kvs, e, k⟩ := hq
  obtain ⟨ob, I1⟩ := I.freeze e
  have h0 : ∀ o u, X.H₀ d ≠ some (.frz o u) := fun o u q => by
    have := I.base.frzs d o u q
    rw [e] at this; cases this
  refine thn (h pins s σ _ _ I1 (k ob)) fun f s1 q => ?_
  cases f with
  | next => obtain ⟨σ', H', I', e', q'⟩ := q; exact ⟨σ', _, I'.thaw e' h0, q'⟩
  | brk => obtain ⟨σ', H', I', e', q'⟩ := q; exact ⟨σ', _, I'.thaw e' h0, q'⟩
  | cont => obtain ⟨σ', H', I', e', q'⟩ := q; exact ⟨σ', _, I'.thaw e' h0, q'⟩
  | ret u => obtain ⟨v, σ', H', I', r, e', q'⟩ := q; exact ⟨v, σ', _, I'.thaw e' h0, r, q'⟩
theorem frz_at {d : Addr} {ob : Obj} {kvs : List (Key × V)} {es0 : Array DictEntry} {ep : Nat} (I : Inv X pins σ H s) (e : H d = some (.frz ob (.dK kvs))) (hd : ob.data = .dict es0 ep) :
    ∃ vs, KV kvs vs ∧ s.heap.DictAt (mixKind X.prog X.w) d vs ep ∧ (d == sysModules) = false := by
  obtain ⟨e1, z, y, vs, r, o, es, ep', e2, c1, c2, c3⟩ := (show ObjOk X.prog X.w H s.heap d (.frz ob (.dK kvs)) from I.hok d _ e)
  rw [e1] at e2
  cases e2
  rw [hd] at c2
  cases c2
  exact ⟨vs, r, ⟨ob, _, e1, c1, hd, c3⟩, y⟩
theorem frz_data {d : Addr} {ob : Obj} {kvs : List (Key × V)} (I : Inv X pins σ H s) (e : H d = some (.frz ob (.dK kvs))) : ∃ es ep, ob.data = .dict es ep := by
  obtain ⟨e1, z, y, vs, r, o, es, ep', e2, c1, c2, c3⟩ := (show ObjOk X.prog X.w H s.heap d (.frz ob (.dK kvs)) from I.hok d _ e)
  rw [e1] at e2
  cases e2
  exact ⟨_, _, c2⟩
theorem KV.at {kvs : List (Key × V)} {vs : List (Key × Value)} {i : Nat} {k : Key} {x : V} (r : KV kvs vs) (h : kvs[i]? = some (k, x)) : ∃ u, vs[i]? = some (k, u) ∧ RelV x u := by
  induction r generalizing i with
  | nil => simp at h
  | @cons p q ps qs hq t ih =>
    cases i with
    | zero =>
      simp at h
      subst h
      obtain ⟨a, b⟩ := hq
      refine ⟨q.2, ?_, b⟩
      simp at a ⊢
      rw [a]
    | succ i => simpa using ih (by simpa using h)
theorem key_rel {P : Program} {w : World} {k : Key} {u : Value} (h : (mixKind P w).is k u = true) : RelV (kV k) u := by
  rcases keyIs_shape (show keyIs k u = true from h) with ⟨i, t, rfl, rfl⟩ | ⟨x, t, rfl, rfl⟩
  · exact ⟨t, rfl⟩
  · exact ⟨t, rfl⟩
end
section
variable {X : Cx} {tg : Expr}
noncomputable def Itk (d : Addr) (ob : Obj) (kvs : List (Key × V)) : It :=
  ⟨fun i H => H d = some (.frz ob (.dK kvs)) ∧ i < kvs.length, fun i H x H' => H' = H ∧ ∃ k y, kvs[i]? = some (k, y) ∧ x = kV k, fun i H => H d = some (.frz ob (.dK kvs)) ∧ kvs.length ≤ i⟩
theorem turn_keys {P : Program} {w : World} {K : PySem.W.Frag} {tg : Expr} {d it : Addr} {ob : Obj} {kvs : List (Key × V)} {es0 : Array DictEntry} {ep : Nat} (hd : ob.data = .dict es0 ep) :
    Turn P w K tg (Itk d ob kvs) [it] it (fun i h => h.IsKeyIter it d i kvs.length ep) where
  mem := by simp
  obj := fun i h st b hb => by
    have e : b = it := by simpa using hb
    subst e
    obtain ⟨o, e, c, d⟩ := st
    exact ⟨o, e, fun v z => by rw [d] at z; cases z⟩
  keep := fun i h h' st k => let ⟨o, e, r⟩ := st; ⟨o, k it (by simp) o e, r⟩
  item := by
    intro X hP hw hK hc i pins s σ H E I hf st hg
    subst hP hw hK
    obtain ⟨he, hi⟩ := hg
    obtain ⟨vs, r, dd, _⟩ := frz_at I he hd
    obtain ⟨f0, f1, f2, f3, f4, f5⟩ := hf it (by simp)
    have hl := r.length
    obtain ⟨⟨k, x⟩, hx⟩ : ∃ p, kvs[i]? = some p := ⟨_, List.getElem?_eq_getElem hi⟩
    obtain ⟨u, hu, _⟩ := r.at hx
    rw [hl] at st
    refine wpAny_pyNext_dict_item st dd hu fun key h' hk st' sb => ?_
    have I1 : Inv X pins σ H { s with heap := h' } := I.turned (t' := s.toks) (fun b o hb e => (sb.2 b hb).trans e) f0 f1 f3 f4 f5
    obtain ⟨o, e, c, dd'⟩ := id st'
    rw [← hl] at st'
    exact ⟨key, rfl, go_of (s := { s with heap := h' }) e c dd' (by decide) ⟨kV k, H, I1, key_rel hk, ⟨rfl, k, x, hx, rfl⟩, st', fun b hb => (hf b hb).1⟩⟩
  done := by
    intro X hP hw hK hc i pins s σ H E I hf st hg
    subst hP hw hK
    obtain ⟨he, hi⟩ := hg
    obtain ⟨vs, r, dd, _⟩ := frz_at I he hd
    obtain ⟨f0, f1, f2, f3, f4, f5⟩ := hf it (by simp)
    have hl := r.length
    rw [hl] at st
    exact wpAny_pyNext_dict_end (I.ok.hd hc) st dd (List.getElem?_eq_none (by omega)) fun h' eb => ⟨rfl, I.turned (t' := s.toks) (fun b o hb e => eb b o hb e) f0 f1 f3 f4 f5⟩
  self := fun A i s Q E st h => wpAny_pyIter_keyiter st h
noncomputable def iKeys (tl : TE) : TI := fun σ H R => tl σ H fun x H1 => ∃ d ob kvs, x = .ref d ∧ H1 d = some (.frz ob (.dK kvs)) ∧ R (Itk d ob kvs) H1
theorem pi_keys {l : Expr} {tl : TE} (hl : PE X l tl) : PI X tg l (iKeys tl) := by
  intro pins s σ H R I h
  refine thn (hl pins s σ H _ I h) fun v s1 ⟨x, H1, I1, r1, q1⟩ => ?_
  obtain ⟨d, ob, kvs, e, he, q⟩ := q1
  subst e
  cases r1
  obtain ⟨es, ep, hd⟩ := frz_data I1 he
  obtain ⟨vs, r, dd, hs⟩ := frz_at I1 he hd
  refine wpAny_pyIter_dict hs dd ?_
  refine ⟨s1.heap.objs.size, [s1.heap.objs.size], _, _, H1, rfl, I1.kept (t' := s1.toks) fun b o e => Heap.get?_push_of_some _ e, turn_keys (es0 := es) (ep := ep) hd, ⟨_, Heap.get?_push_size _ rfl, rfl, by rw [r.length]; rfl⟩, fun b hb => ?_, q⟩
  have e : b = s1.heap.objs.size := by simpa using hb
  subst e
  exact I1.fpOk (Nat.le_refl _) (I1.hok.fresh (Nat.le_refl _))
noncomputable def Itv (d : Addr) (ob : Obj) (kvs : List (Key × V)) : It :=
  ⟨fun i H => H d = some (.frz ob (.dK kvs)) ∧ i < kvs.length, fun i H x H' => H' = H ∧ ∃ k, kvs[i]? = some (k, x), fun i H => H d = some (.frz ob (.dK kvs)) ∧ kvs.length ≤ i⟩
theorem turn_vals {P : Program} {w : World} {K : PySem.W.Frag} {tg : Expr} {d it : Addr} {ob : Obj} {kvs : List (Key × V)} {es0 : Array DictEntry} {ep : Nat} (hd : ob.data = .dict es0 ep) :
    Turn P w K tg (Itv d ob kvs) [it] it (fun i h => h.IsValIter it d i kvs.length ep) where
  mem := by simp
  obj := fun i h st b hb => by
    have e : b = it := by simpa using hb
    subst e
    obtain ⟨o, e, c, d⟩ := st
    exact ⟨o, e, fun v z => by rw [d] at z; cases z⟩
  keep := fun i h h' st k => let ⟨o, e, r⟩ := st; ⟨o, k it (by simp) o e, r⟩
  item := by
    intro X hP hw hK hc i pins s σ H E I hf st hg
    subst hP hw hK
    obtain ⟨he, hi⟩ := hg
    obtain ⟨vs, r, dd, _⟩ := frz_at I he hd
    obtain ⟨f0, f1, f2, f3, f4, f5⟩ := hf it (by simp)
    have hl := r.length
    obtain ⟨⟨k, x⟩, hx⟩ : ∃ p, kvs[i]? = some p := ⟨_, List.getElem?_eq_getElem hi⟩
    obtain ⟨u, hu, ru⟩ := r.at hx
    rw [hl] at st
    refine wpAny_pyNext_values_item st dd hu fun h' st' sb => ?_
    have I1 : Inv X pins σ H { s with heap := h' } := I.turned (t' := s.toks) (fun b o hb e => (sb.2 b hb).trans e) f0 f1 f3 f4 f5
    obtain ⟨o, e, c, dd'⟩ := id st'
    rw [← hl] at st'
    exact ⟨u, rfl, go_of (s := { s with heap := h' }) e c dd' (by decide) ⟨x, H, I1, ru, ⟨rfl, k, hx⟩, st', fun b hb => (hf b hb).1⟩⟩
  done := by
    intro X hP hw hK hc i pins s σ H E I hf st hg
    subst hP hw hK
    obtain ⟨he, hi⟩ := hg
    obtain ⟨vs, r, dd, _⟩ := frz_at I he hd
    obtain ⟨f0, f1, f2, f3, f4, f5⟩ := hf it (by simp)
    have hl := r.length
    rw [hl] at st
    exact wpAny_pyNext_values_end (I.ok.hd hc) st dd (List.getElem?_eq_none (by omega)) fun h' eb => ⟨rfl, I.turned (t' := s.toks) (fun b o hb e => eb b o hb e) f0 f1 f3 f4 f5⟩
  self := fun A i s Q E st h => wpAny_pyIter_valiter st h
noncomputable def iVals (tl : TE) : TI := fun σ H R => tl σ H fun x H1 => ∃ d ob kvs, x = .ref d ∧ H1 d = some (.frz ob (.dK kvs)) ∧ R (Itv d ob kvs) H1
theorem dict_none {d : Addr} {vs : List (Key × Value)} {ep : Nat} {P : Program} {w : World} {s : Shared} (dd : s.heap.DictAt (mixKind P w) d vs ep) : ∀ b, Value.ref d = .ref b → ∃ ob, s.heap.get? b = some ob ∧ ob.dict = none := fun b q => by
  cases q
  obtain ⟨ob, _, h1, h2, _⟩ := dd
  exact ⟨ob, h1, h2.2.1⟩
theorem pi_vals {o : Expr} {apos cpos : Pos} {to : TE} (ho : PE X o to) (hbase : attributeBase o "values" X.env (eval o X.env) = eval o X.env := by rfl) (hline : (apos.endLine == cpos.line) = true := by rfl) :
    PI X tg (.Call (.Attribute o "values" apos) [] [] cpos) (iVals to) := by
  intro pins s σ H R I h
  refine wpAny_Call_method0_late hbase hline (thn (ho pins s σ H _ I h) fun v s1 ⟨x, H1, I1, r1, q1⟩ => ?_)
  obtain ⟨d, ob, kvs, e, he, q⟩ := q1
  subst e
  cases r1
  obtain ⟨es, ep, hd⟩ := frz_data I1 he
  obtain ⟨vs, r, dd, hs⟩ := frz_at I1 he hd
  refine ⟨"dict", "dict.values", PySem.F.plainAttrs_dict, PySem.F.slot_dict_values, PySem.F.type_dict_values, dd.dictOf.typeIs, dict_none dd, Calls.callWith_builtin rfl (PySem.evalArgs_none ?_)⟩
  refine call_meetsIn PySem.F.slot_dict_values dd.dictOf.typeIs PySem.F.entry_dict_values (PySem.F.args_dict_values_1 _) (meets_dict_values (mixKind X.prog X.w) d hs) ⟨⟨vs, dd.dictOf⟩, ?_⟩
  have I2 : Inv X pins σ H1 { s1 with heap := s1.heap.push { cls := .type "dict_values", data := .fields #[.ref d] } } := I1.kept (t' := s1.toks) fun b o e => Heap.get?_push_of_some _ e
  refine wpAny_pyIter_values (s := { s1 with heap := s1.heap.push { cls := .type "dict_values", data := .fields #[.ref d] } }) (knd := mixKind X.prog X.w) ⟨_, Heap.get?_push_size _ rfl, rfl, rfl⟩ (dd.push _) ?_
  refine ⟨(s1.heap.push { cls := .type "dict_values", data := .fields #[.ref d] }).objs.size, [(s1.heap.push { cls := .type "dict_values", data := .fields #[.ref d] }).objs.size], _, _, H1, rfl, I2.kept (t' := s1.toks) fun b o e => Heap.get?_push_of_some _ e, turn_vals (es0 := es) (ep := ep) hd, ⟨_, Heap.get?_push_size _ rfl, rfl, by rw [r.length]; rfl⟩, fun b hb => ?_, q⟩
  have e : b = (s1.heap.push { cls := .type "dict_values", data := .fields #[.ref d] }).objs.size := by simpa using hb
  subst e
  exact I2.fpOk (Nat.le_refl _) (I2.hok.fresh (Nat.le_refl _))
noncomputable def Iti (d : Addr) (ob : Obj) (kvs : List (Key × V)) : It :=
  ⟨fun i H => H d = some (.frz ob (.dK kvs)) ∧ i < kvs.length, fun i H x H' => ∃ p k y, x = .ref p ∧ H p = none ∧ H' = upd H p (.tup [kV k, y]) ∧ kvs[i]? = some (k, y), fun i H => H d = some (.frz ob (.dK kvs)) ∧ kvs.length ≤ i⟩
theorem turn_items {P : Program} {w : World} {K : PySem.W.Frag} {xs : List Expr} {n : Nat} {tp : Pos} {d it : Addr} {ob : Obj} {kvs : List (Key × V)} {es0 : Array DictEntry} {ep : Nat} (hd : ob.data = .dict es0 ep) :
    Turn P w K (.Tuple xs n tp) (Iti d ob kvs) [it] it (fun i h => ∃ ok ov, IsItemIter h it d i kvs.length ep ok ov) where
  mem := by simp
  obj := fun i h st b hb => by
    have e : b = it := by simpa using hb
    subst e
    obtain ⟨ok, ov, st⟩ := st
    exact ⟨_, st, fun v z => by cases z⟩
  keep := fun i h h' st k => let ⟨ok, ov, e⟩ := st; ⟨ok, ov, k it (by simp) _ e⟩
  item := by
    intro X hP hw hK hc i pins s σ H E I hf st hg
    subst hP hw hK
    obtain ⟨he, hi⟩ := hg
    obtain ⟨vs, r, dd, _⟩ := frz_at I he hd
    have hl := r.length
    obtain ⟨⟨k, x⟩, hx⟩ : ∃ p, kvs[i]? = some p := ⟨_, List.getElem?_eq_getElem hi⟩
    obtain ⟨u, hu, ru⟩ := r.at hx
    obtain ⟨ok, ov, st⟩ := st
    rw [hl] at st
    have hfr : H s.heap.objs.size = none := I.hok.fresh (Nat.le_refl _)
    have hiH : it < s.heap.objs.size := Heap.lt_size st
    refine wpAny_pyNext_items_item st dd hu fun key h1 hk st1 ht1 hz1 hk1 => ⟨_, rfl, ?_⟩
    refine wpAny_letOwnedTupleGo_items (s := { s with heap := h1 }) st1 fun h2 he2 hs2 => ?_
    have hs2 : Heap.SameBut it h1 h2 := hs2
    have ht2 : h2.get? s.heap.objs.size = some { cls := .type "tuple", data := .seq #[key, u] } := (hs2.2 _ (Nat.ne_of_gt hiH)).trans ht1
    have I1 : Inv X pins σ (upd H s.heap.objs.size (.tup [kV k, x])) { s with heap := h2, toks := s.toks } := by
      refine I.laidTurned (ch := [it]) hf (fun b o hb q => ?_) (Nat.le_refl _) ?_
      · have b1 : b ≠ it := fun z => hb (by simp [z])
        exact (hs2.2 b b1).trans (hk1 b o b1 q)
      · exact ⟨by show 2 ≤ sizeLine; decide, [key, u], .cons (key_rel hk) (.cons ru .nil), _, ht2, rfl, _, rfl⟩
    refine ⟨.ref s.heap.objs.size, upd H s.heap.objs.size (.tup [kV k, x]), I1, rfl, ⟨_, k, x, rfl, hfr, rfl, hx⟩, ⟨_, _, by rw [← hl] at he2; exact he2⟩, fun b hb => ?_⟩
    have z : b = it := by simpa using hb
    subst z; rw [upd_ne (Nat.ne_of_lt hiH)]; exact (hf _ (by simp)).1
  done := by
    intro X hP hw hK hc i pins s σ H E I hf st hg
    subst hP hw hK
    obtain ⟨he, hi⟩ := hg
    obtain ⟨vs, r, dd, _⟩ := frz_at I he hd
    obtain ⟨f0, f1, f2, f3, f4, f5⟩ := hf it (by simp)
    have hl := r.length
    obtain ⟨ok, ov, st⟩ := st
    rw [hl] at st
    exact wpAny_pyNext_items_end (I.ok.hd hc) st dd (List.getElem?_eq_none (by omega)) fun h' eb => ⟨rfl, I.turned (t' := s.toks) (fun b o hb e => eb b o hb e) f0 f1 f3 f4 f5⟩
  self := fun A i s Q E st h => let ⟨_, _, e⟩ := st; PySem.W.kcp_self e h
noncomputable def iItems (tl : TE) : TI := fun σ H R => tl σ H fun x H1 => ∃ d ob kvs, x = .ref d ∧ H1 d = some (.frz ob (.dK kvs)) ∧ R (Iti d ob kvs) H1
theorem pi_items {o : Expr} {apos cpos : Pos} {to : TE} {xs : List Expr} {n : Nat} {tp : Pos} (ho : PE X o to) (hbase : attributeBase o "items" X.env (eval o X.env) = eval o X.env := by rfl) (hline : (apos.endLine == cpos.line) = true := by rfl) :
    PI X (.Tuple xs n tp) (.Call (.Attribute o "items" apos) [] [] cpos) (iItems to) := by
  intro pins s σ H R I h
  refine wpAny_Call_method0_late hbase hline (thn (ho pins s σ H _ I h) fun v s1 ⟨x, H1, I1, r1, q1⟩ => ?_)
  obtain ⟨d, ob, kvs, e, he, q⟩ := q1
  subst e
  cases r1
  obtain ⟨es, ep, hd⟩ := frz_data I1 he
  obtain ⟨vs, r, dd, hs⟩ := frz_at I1 he hd
  refine ⟨"dict", "dict.items", PySem.F.plainAttrs_dict, PySem.F.slot_dict_items, PySem.F.type_dict_items, dd.dictOf.typeIs, dict_none dd, Calls.callWith_builtin rfl (PySem.evalArgs_none ?_)⟩
  refine call_meetsIn PySem.F.slot_dict_items dd.dictOf.typeIs PySem.F.entry_dict_items (PySem.F.args_dict_items_1 _) (meets_dict_items (mixKind X.prog X.w) d hs) ⟨⟨vs, dd.dictOf⟩, ?_⟩
  have I2 : Inv X pins σ H1 { s1 with heap := s1.heap.push { cls := .type "dict_items", data := .fields #[.ref d] } } := I1.kept (t' := s1.toks) fun b o e => Heap.get?_push_of_some _ e
  refine wpAny_pyIter_items (s := { s1 with heap := s1.heap.push { cls := .type "dict_items", data := .fields #[.ref d] } }) (knd := mixKind X.prog X.w) ⟨_, Heap.get?_push_size _ rfl, rfl, rfl⟩ (dd.push _) ?_
  refine ⟨(s1.heap.push { cls := .type "dict_items", data := .fields #[.ref d] }).objs.size, [(s1.heap.push { cls := .type "dict_items", data := .fields #[.ref d] }).objs.size], _, _, H1, rfl, I2.kept (t' := s1.toks) fun b o e => Heap.get?_push_of_some _ e, turn_items (es0 := es) (ep := ep) hd, ⟨.none, .none, by rw [r.length]; exact Heap.get?_push_size _ rfl⟩, fun b hb => ?_, q⟩
  have e : b = (s1.heap.push { cls := .type "dict_items", data := .fields #[.ref d] }).objs.size := by simpa using hb
  subst e
  exact I2.fpOk (Nat.le_refl _) (I2.hok.fresh (Nat.le_refl _))
theorem for_frz {J : It} {n : Nat} {g : TG} {tb : TS} {D : Ends} {σ : St} {H : Hp} {d : Addr} {o : HO} (hgo : ∀ i H, H d = some o → i < n → J.go i H) (hst : ∀ i H, H d = some o → n ≤ i → J.stop i H)
    (Pv : Nat → St → Hp → Prop) (h0 : Pv 0 σ H) (hl : ∀ i σ H, i ≤ n → Pv i σ H → H d = some o)
    (hs : ∀ i x σ H H', i < n → Pv i σ H → J.yld i H x H' → g x σ H' fun σ2 H2 => tb { D with nx := Pv (i + 1), ct := Pv (i + 1), bk := D.nx } σ2 H2) (hd : ∀ σ H, Pv n σ H → D.nx σ H) :
    ∃ W : Nat → Nat → St → Hp → Prop, (∃ m, W 0 m σ H) ∧ ∀ i m σ H, W i m σ H →
      (J.stop i H ∧ D.nx σ H) ∨ (J.go i H ∧ ∃ N : St → Hp → Prop, (∀ σ' H', N σ' H' → ∃ m', m' < m ∧ W (i + 1) m' σ' H') ∧ ∀ x H', J.yld i H x H' → g x σ H' fun σ2 H2 => tb { D with nx := N, ct := N, bk := D.nx } σ2 H2) := by
  refine ⟨fun i m σ H => m = n - i ∧ i ≤ n ∧ Pv i σ H, ⟨n, by simp, Nat.zero_le _, h0⟩, ?_⟩
  rintro i m σ H ⟨rfl, hi, p⟩
  have q := hl i σ H hi p
  by_cases hlt : i < n
  · exact .inr ⟨hgo i H q hlt, Pv (i + 1), fun σ' H' p' => ⟨n - (i + 1), by omega, rfl, hlt, p'⟩, fun x H' y => hs i x σ H H' hlt p y⟩
  · have e : i = n := by omega
    subst e
    exact .inl ⟨hst i H q (Nat.le_refl _), hd σ H p⟩
noncomputable def tFmt (z : Str) (t : TE) : TE := fun σ H Q => t σ H fun x H1 => Ex1_4 (fun (i : Int) => x = .int i) (fun (i : Int) => 0 ≤ i) (fun (i : Int) => i < 10 ^ 9) (fun (i : Int) => Q (.str (z ++ Str.ofString (toString i))) H1)
theorem pe_fmt {z : Str} {j : Nat} {p1 p2 pos : Pos} {e : Expr} {t : TE} (he : PE X e t) (hz : z.length ≤ 1000) : PE X (.JoinedStr [.Constant (.str z) j p1, .FormattedValue e (-1) none p2] pos) (tFmt z t) := by
  intro pins s σ H Q I h
  refine wpAny_JoinedStr ?_
  show wpAny _ _ (eval (.Constant (.str z) j p1) X.env) _ _ s
  refine thn (pe_str (X := X) pins s σ H (fun v H' => v = .str z ∧ H' = H) I ⟨rfl, rfl⟩) fun v s1 ⟨x, H1, I1, r1, e1, e2⟩ => ?_
  subst e1 e2
  obtain ⟨t1, rfl⟩ := r1
  have e0 : Str.empty ++ z = z := by
    cases z with
    | mk c => show Str.mk (#[] ++ c) = Str.mk c; rw [Array.empty_append]
  have hsz : sizeLine = 2 ^ 24 := rfl
  refine ⟨z, t1, rfl, by rw [e0, hsz]; omega, ?_⟩
  rw [e0]
  show wpAny _ _ (eval (.FormattedValue e (-1) none p2) X.env) _ _ s1
  refine wpAny_FormattedValue_plain (thn (he pins s1 σ _ _ I1 h) fun v s2 ⟨x, H2, I2, r2, i, ei, h0, h9, q⟩ => ?_)
  subst ei
  obtain ⟨t2, rfl⟩ := r2
  have lg : i.natAbs.log2 < 1920 := by
    by_cases z : i.natAbs = 0
    · rw [z]; decide
    · exact Nat.lt_of_lt_of_le ((Nat.log2_lt z).mpr (show i.natAbs < 2 ^ 40 by omega)) (by decide)
  have lt := toString_length_le h0 (k := 9) (by decide) h9
  have fit : (z ++ Str.ofString (toString i)).length ≤ sizeLine := by rw [strLen_append, hsz]; omega
  refine wpAny_formatField_int lg ?_
  exact ⟨_, _, rfl, fit, fit, ⟨.str _, H2, I2.tok _, ⟨_, rfl⟩, q⟩⟩
end
end L2

namespace L2
open PySem PySem.Spec PyProof.Rows
structure CompOk2 (X : Cx) (x x2 : Str) (xs : List Str) (caps : List Nat) (scope : Scope) (osc : Scope) : Prop where
  eqs : X.env.scope = osc
  kind : scope.kind = .function
  cell : ∀ y ∈ scope.names, y.2 ≠ .cell
  names : ∀ y ∈ scope.names, y.2 = .local → scope.names.lookup y.1 = some .local
  loc : scope.names.lookup x = some .local
  loc2 : scope.names.lookup x2 = some .local
  nd : (x :: x2 :: xs).Nodup
  nofl : ∀ y ∈ scope.names, y.2 = .free → scope.names.lookup y.1 = some .free
  frees : ∀ y ∈ scope.names, y.2 = .free → osc.names.lookup y.1 = some .cell
  caps : Paired (fun (j : Nat) (n : Str) => X.N[j]? = some n ∧ (n, NameKind.free) ∈ scope.names) caps xs
section
variable {X : Cx} {x x2 : Str} {xs : List Str} {caps : List Nat} {scope osc : Scope} {pins : List (Addr × Obj)} {σ : St} {H : Hp} {s : Shared}
theorem CompOk2.hasC (C : CompOk2 X x x2 xs caps scope osc) (ok : X.Ok) : ∀ y ∈ scope.names, y.2 = .free → ∃ c, X.env.cells.lookup y.1 = some c := fun y hy hf =>
  ok.has y.1 (.inl (by show X.env.scope.names.lookup y.1 = _; rw [C.eqs]; exact C.frees y hy hf))
theorem comp_inv2 {fp : List Addr} {h' : Heap} {tk : Nat} (C : CompOk2 X x x2 xs caps scope osc) (I : Inv X pins σ H s) (hf : ∀ b ∈ fp, FpOk X pins H b) (hb : ∀ b ∈ fp, b < s.heap.objs.size)
    (hns : h'.Ns s.heap.objs.size (fun _ => none)) (hk : ∀ b o, s.heap.get? b = some o → h'.get? b = some o) :
    Inv (cxIn X (x :: x2 :: xs) scope s H fp) [] (none :: none :: capV σ caps) H { s with heap := h', toks := tk } := by
  have hx := C.hasC I.ok
  have look : ∀ n c, (closL X.env scope.names []).lookup n = some c → X.env.cells.lookup n = some c := fun n c h => closL_mem scope.names [] hx (fun _ _ z => by cases z) h
  have lenC : caps.length = xs.length := Paired.length C.caps
  refine ⟨⟨I.ok.mod, C.kind, I.ok.glob, I.ok.blt, Nat.le_refl _, fun y z c h1 h2 => I.ok.inj y z c (look y c h1) (look z c h2), fun y hy => ?_, fun y c hfn _ => ?_, I.ok.hd, I.ok.frames, .inl rfl, fun b hbf => ⟨Nat.ne_of_lt (hb b hbf), fun y c h => (hf b hbf).2.2.2.2.1 y c (look y c h)⟩, I.bs, Nat.le_trans I.ok.bsz I.sz, fun b o e hbf => ?_, fun b hbf hs => ?_, I.stack, I.stkFree⟩,
    rfl, I.bare, Un.kept hk, ⟨_, hns, fun i y v h1 h2 h3 => ?_⟩, fun y c h => ?_, I.hok.fresh (Nat.le_refl _), fun y c h => I.freeC y c (look y c h), fun p hp => absurd (show p ∈ ([] : List (Addr × Obj)) from hp) (by simp), I.hok.kept hk, ?_⟩
  · have hy : (relabel scope X.env).names.lookup y = some .cell ∨ (relabel scope X.env).names.lookup y = some .free := hy
    have m : (y, NameKind.free) ∈ scope.names := by
      rcases hy with z | z
      · exact relab_of C.cell z (.inl rfl)
      · exact relab_of C.cell z (.inr rfl)
    exact Option.isSome_iff_exists.mp (closL_has scope.names [] m)
  · cases hfn
  · obtain ⟨f0, f1, f2, f3, f4, f5⟩ := hf b hbf
    rcases f3 with z | z
    · exact I.ok.noex b o e z
    · have := Heap.lt_size (I.ok.bs b o e).1
      exact absurd (Nat.lt_of_lt_of_le this z) (Nat.lt_irrefl _)
  · obtain ⟨f0, f1, f2, f3, f4, f5⟩ := hf b hbf
    rcases List.mem_cons.mp (I.stkSub b hs) with z | z
    · exact f1 z
    · exact f2 z
  · cases i with
    | zero =>
      have h2 : some (none : Option V) = some (some v) := h2
      cases h2
    | succ i =>
      cases i with
      | zero =>
        have h2 : some (none : Option V) = some (some v) := h2
        cases h2
      | succ i =>
        have h1 : xs[i]? = some y := by simpa [cxIn] using h1
        have h2 : (capV σ caps)[i]? = some (some v) := by simpa using h2
        obtain ⟨j, hj, hN, hm⟩ := L2.Paired.at C.caps h1
        have e2 : σ[j]? = some (some v) := by
          unfold capV at h2
          rw [List.getElem?_map, hj] at h2
          have h2 : (σ[j]?).getD none = some v := Option.some.inj h2
          cases q : σ[j]? with
          | none => rw [q] at h2; cases h2
          | some u => rw [q] at h2; have h2 : u = some v := h2; rw [h2]
        have ky : X.env.scope.names.lookup y = some .cell := by rw [C.eqs]; exact C.frees _ hm rfl
        obtain ⟨m, _, hl⟩ := I.loc
        obtain ⟨u, r, l⟩ := hl j y v hN e2 (.inr (.inl ky))
        refine ⟨u, r, ?_⟩
        rcases l with ⟨k, _⟩ | ⟨_, c, hc, o, ho, hd⟩
        · have k : X.env.scope.names.lookup y = some .local := k
          rw [ky] at k; cases k
        · have nl := relab_free (env := X.env) (C.nofl _ hm rfl)
          exact .inr ⟨nl, c, (closL_look hx hm).trans hc, o, hk c o ho, hd⟩
  · obtain ⟨v, o, ho, hd⟩ := I.cell y c (look y c h)
    exact ⟨v, o, hk c o ho, hd⟩
  · show (none :: none :: capV σ caps).length = (x :: x2 :: xs).length
    simp only [List.length_cons, capV_length, lenC]
noncomputable def CompG2 (K : PySem.W.Frag) (J : It) (tt : TT) (te : TE) (cs : St) (H1 : Hp) (Q : VK) : Prop := ∀ l, H1 l = none → ∃ W : Nat → Nat → List V → Hp → Prop, (∃ m, W 0 m [] (upd H1 l (.lst []))) ∧ ∀ i m ys H2, W i m ys H2 →
  H2 l = some (.lst ys) ∧ ((J.stop i H2 ∧ Q (.ref l) H2) ∨ (J.go i H2 ∧ ys.length < sizeLine ∧ ∀ y H3, J.yld i H2 y H3 → ∃ pa xa xb, y = .ref pa ∧ SqT K H3 pa [xa, xb] ∧ tt (some xa :: some xb :: cs) H3 fun b H4 =>
    if b = true then te (some xa :: some xb :: cs) H4 fun z H5 => H5 l = some (.lst ys) ∧ ∃ m', m' < m ∧ W (i + 1) m' (ys ++ [z]) (upd H5 l (.lst (ys ++ [z]))) else ∃ m', m' < m ∧ W (i + 1) m' ys H4))
noncomputable def tComp2 (K : PySem.W.Frag) (caps : List Nat) (wi : TI) (tt : TT) (te : TE) : TE := fun σ H Q => wi σ H fun J H1 => CompG2 K J tt te (capV σ caps) H1 Q
theorem comp_core2 {elt iter : Expr} {px p1 p2 : Pos} {pk : Nat} {ifs : List Expr} {pos : Pos} {tt : TT} {te : TE} {Rr : Result → Shared → Prop} {it : Addr} {fp : List Addr} {tn : Nat → Heap → Prop} {J : It} {Q : VK} (hc : X.calm = true) (C : CompOk2 X x x2 xs caps scope osc)
    (he : ∀ s₃ H₃ fp, PE (cxIn X (x :: x2 :: xs) scope s₃ H₃ fp) elt te) (hi : ∀ s₃ H₃ fp, PIfs (cxIn X (x :: x2 :: xs) scope s₃ H₃ fp) ifs tt)
    {s3 : Shared} {H3 : Hp} {l : Addr} (I3 : Inv X pins σ H3 s3) (T : Turn X.prog X.w X.K (.Tuple [.Name x p1, .Name x2 p2] pk px) J fp it tn) (st3 : tn 0 s3.heap) (hf : ∀ b ∈ fp, FpOk X pins H3 b)
    {W : Nat → Nat → List V → Hp → Prop} {m0 : Nat} (w0 : W 0 m0 [] H3)
    (turn : ∀ i m ys H4, W i m ys H4 → H4 l = some (.lst ys) ∧ ((J.stop i H4 ∧ Q (.ref l) H4) ∨ (J.go i H4 ∧ ys.length < sizeLine ∧ ∀ y H5, J.yld i H4 y H5 → ∃ pa xa xb, y = .ref pa ∧ SqT X.K H5 pa [xa, xb] ∧ tt (some xa :: some xb :: capV σ caps) H5 fun b H6 =>
      if b = true then te (some xa :: some xb :: capV σ caps) H6 fun z H7 => H7 l = some (.lst ys) ∧ ∃ m', m' < m ∧ W (i + 1) m' (ys ++ [z]) (upd H7 l (.lst (ys ++ [z]))) else ∃ m', m' < m ∧ W (i + 1) m' ys H6)))
    (fin : ∀ (s' : Shared) (H' : Hp), Inv X pins σ H' s' → Q (.ref l) H' → (∃ m, s'.heap.Ns s3.heap.objs.size m) → FpOk X pins H' s3.heap.objs.size → Rr (.ok .next) s') :
    wpAny (model X.prog X.w) X.A (newFunctionEnv scope X.env.globals (closL X.env scope.names []) [] X.env.qual none .none (some X.env)) (fun cenv s4 =>
      cenv.locals = s3.heap.objs.size ∧ codeAny (model X.prog X.w) X.A (.compStart (.ListComp elt [⟨.Tuple [.Name x p1, .Name x2 p2] pk px, iter, ifs, 0⟩] scope pos) 0 (.ref it) (.ref l) { cenv with scope := relabel scope X.env }) Rr s4) X.xe s3 := by
  refine wpAny_newFunctionEnv C.cell (by intro y hy; simp at hy) (fun h1 hns1 hsb1 => ⟨rfl, ?_⟩) C.kind
  have hk : ∀ b o, s3.heap.get? b = some o → h1.get? b = some o := fun b o e => hsb1.extBut b o (Nat.ne_of_lt (Heap.lt_size e)) (Heap.get?_push_of_some _ e)
  have hns : h1.Ns s3.heap.objs.size (fun _ => none) := by simpa using hns1
  have hlt : ∀ b ∈ fp, b < s3.heap.objs.size := fun b hb => by
    obtain ⟨o, e, _⟩ := T.obj 0 _ st3 b hb
    exact Heap.lt_size e
  have I4 : Inv (cxIn X (x :: x2 :: xs) scope s3 H3 fp) [] (none :: none :: capV σ caps) H3 { s3 with heap := h1, toks := s3.toks + ([] : List (Str × Value)).length } := comp_inv2 C I3 hf hlt hns hk
  have hx' : (relabel scope X.env).names.lookup x = some .local := lookup_relabel_local C.loc
  have hx2' : (relabel scope X.env).names.lookup x2 = some .local := lookup_relabel_local C.loc2
  have stat : ∀ {H' : Hp}, (∀ b ∈ fp, H' b = none) → ∀ b ∈ fp, FpOk (cxIn X (x :: x2 :: xs) scope s3 H3 fp) [] H' b := fun hn b hb =>
    ⟨hn b hb, Nat.ne_of_lt (hlt b hb), (I4.ok.exfs b hb), .inl hb, (I4.ok.exf b hb).2, fun p hp => absurd (show p ∈ ([] : List (Addr × Obj)) from hp) (by simp)⟩
  have loop : ∀ s5 : Shared, (∃ i v0 w0 ys H', Inv (cxIn X (x :: x2 :: xs) scope s3 H3 fp) [] (v0 :: w0 :: capV σ caps) H' s5 ∧ tn i s5.heap ∧ (∀ b ∈ fp, H' b = none) ∧ W i m0 ys H') →
      codeAny (model X.prog X.w) X.A (.compLoop (.ListComp elt [⟨.Tuple [.Name x p1, .Name x2 p2] pk px, iter, ifs, 0⟩] scope pos) 0 (.ref it) (.ref l) (compEnvC scope (closL X.env scope.names []) s3.heap.objs.size X.env)) Rr s5 := by
    intro s5 h5
    refine comp_turns (fun n s' => ∃ i v0 w0 ys H', Inv (cxIn X (x :: x2 :: xs) scope s3 H3 fp) [] (v0 :: w0 :: capV σ caps) H' s' ∧ tn i s'.heap ∧ (∀ b ∈ fp, H' b = none) ∧ W i n ys H') ?_ m0 h5
    rintro n s6 ⟨i, v0, w0, ys, H6, I6, st6, fr6, w6⟩
    obtain ⟨hl6, stop | ⟨go, hz, step⟩⟩ := turn i n ys H6 w6
    · refine thn (T.done (cxIn X (x :: x2 :: xs) scope s3 H3 fp) rfl rfl rfl hc i [] s6 _ H6 (fun _ _ => False) I6 (stat fr6) st6 stop.1) fun r s7 ⟨hr, I7⟩ => ?_
      subst hr
      obtain ⟨m, hn, _⟩ := I7.loc
      refine fin s7 H6 (I3.call' (ch := fp) I7.os I7.base I7.hok I7.bare fun b hb => ?_) stop.2 ⟨m, hn⟩ (I3.fpOk (Nat.le_refl _) I7.free)
      obtain ⟨f0, f1, f2, f3, f4, f5⟩ := hf b hb
      exact ⟨f3, f1, f4, f5⟩
    · refine thn (T.item (cxIn X (x :: x2 :: xs) scope s3 H3 fp) rfl rfl rfl hc i [] s6 _ H6 (fun _ _ => False) I6 (stat fr6) st6 go) fun r s7 ⟨u, hr, h7⟩ => ?_
      subst hr
      refine thn h7 fun _ s8 ⟨y, H8, I8, r8, y8, st8, fr8⟩ => ?_
      have I8' := I8.pinned (stat fr8) (T.obj _ _ st8)
      have again : ∀ {σ9 : St} {H9 : Hp} {s9 : Shared} {v1 v2 : Option V} {zs : List V}, Inv (cxIn X (x :: x2 :: xs) scope s3 H3 fp) ([] ++ pinsAt fp s8.heap) σ9 H9 s9 → σ9 = v1 :: v2 :: capV σ caps → (∃ m', m' < n ∧ W (i + 1) m' zs H9) →
          ∃ m, m < n ∧ ∃ i v0 w0 ys H', Inv (cxIn X (x :: x2 :: xs) scope s3 H3 fp) [] (v0 :: w0 :: capV σ caps) H' s9 ∧ tn i s9.heap ∧ (∀ b ∈ fp, H' b = none) ∧ W i m ys H' := fun {σ9 H9 s9 v1 v2 zs} I9 e9 hw => by
        subst e9
        obtain ⟨m', hm, w9⟩ := hw
        refine ⟨m', hm, i + 1, v1, v2, zs, H9, I9.unpinned, T.keep _ _ _ st8 fun b hb o e => (I9.pin (b, o) (List.mem_append_right _ (List.mem_append_right _ (mem_pinsAt hb e)))).1, fun b hb => ?_, w9⟩
        obtain ⟨o, e, d⟩ := T.obj _ _ st8 b hb
        exact (I9.pin (b, o) (List.mem_append_right _ (List.mem_append_right _ (mem_pinsAt hb e)))).2.1
      obtain ⟨pa, xa, xb, rfl, hsq, step⟩ := step y H8 y8
      have pg : PG (cxIn X (x :: x2 :: xs) scope s3 H3 fp) (.Tuple [.Name x p1, .Name x2 p2] pk px) (gTup X.K 2 (gCons (gName 0) (gCons (gName 1) gNil))) := pg_tup hc (pgs_cons (pg_name C.nd rfl (.inl hx') (.inr hx')) (pgs_cons (pg_name C.nd rfl (.inl hx2') (.inr hx2')) pgs_nil))
      refine thn (pg _ s8 _ H8 (.ref pa) u (fun σ' H' => σ' = some xa :: some xb :: capV σ caps ∧ H' = H8) I8' r8 ⟨pa, _, rfl, hsq, rfl, xa, _, rfl, xb, _, rfl, rfl, rfl, rfl⟩) fun _ s9 ⟨σ9, H9, I9, e9, e9'⟩ => ?_
      subst e9 e9'
      refine thn (hi s3 H3 fp _ s9 _ _ _ I9 step) fun b s10 ⟨H10, I10, q10⟩ => ?_
      cases b with
      | false =>
        have q10 : ∃ m', m' < n ∧ W (i + 1) m' ys H10 := q10
        exact again I10 rfl q10
      | true =>
        have q10 : te (some xa :: some xb :: capV σ caps) H10 fun z H7 => H7 l = some (.lst ys) ∧ ∃ m', m' < n ∧ W (i + 1) m' (ys ++ [z]) (upd H7 l (.lst (ys ++ [z]))) := q10
        show wpAny _ _ (eval elt _) _ _ s10
        refine thn (he s3 H3 fp _ s10 _ _ _ I10 q10) fun z' s11 ⟨z, H11, I11, r11, hl11, q11⟩ => ?_
        refine thn (mt_append (X := cxIn X (x :: x2 :: xs) scope s3 H3 fp) _ s11 _ H11 (.ref l) [z] (.ref l) [z'] (fun _ H' => H' = upd H11 l (.lst (ys ++ [z]))) I11 rfl (.cons r11 .nil) ⟨l, ys, z, rfl, rfl, hl11, hz, rfl⟩) fun _ s12 ⟨_, H12, I12, _, e12⟩ => ?_
        subst e12
        exact again I12 rfl q11
  have start : ∃ i v0 w0 ys H', Inv (cxIn X (x :: x2 :: xs) scope s3 H3 fp) [] (v0 :: w0 :: capV σ caps) H' { s3 with heap := h1, toks := s3.toks + ([] : List (Str × Value)).length } ∧ tn i h1 ∧ (∀ b ∈ fp, H' b = none) ∧ W i m0 ys H' :=
    ⟨0, none, none, [], H3, I4, T.keep _ _ _ st3 fun b _ o e => hk b o e, fun b hb => (hf b hb).1, w0⟩
  exact codeAny_compStart_list (loop _ start) (T.self X.A 0 _ _ _ (T.keep _ _ _ st3 fun b _ o e => hk b o e) (loop _ start))
theorem pe_comp2 {elt iter : Expr} {px p1 p2 : Pos} {pk : Nat} {ifs : List Expr} {pos : Pos} {wi : TI} {tt : TT} {te : TE} (hc : X.calm = true) (C : CompOk2 X x x2 xs caps scope osc) (hit : PI X (.Tuple [.Name x p1, .Name x2 p2] pk px) iter wi)
    (he : ∀ s₃ H₃ fp, PE (cxIn X (x :: x2 :: xs) scope s₃ H₃ fp) elt te) (hi : ∀ s₃ H₃ fp, PIfs (cxIn X (x :: x2 :: xs) scope s₃ H₃ fp) ifs tt) (hs : ∀ x, foldedSetIterable iter X.env x = pure x := by intro _; rfl) :
    PE X (.ListComp elt [⟨.Tuple [.Name x p1, .Name x2 p2] pk px, iter, ifs, 0⟩] scope pos) (tComp2 X.K caps wi tt te) := by
  intro pins s σ H Q I h
  rw [eval_ListComp]
  refine wpAny_comprehension_free (use := none) rfl hs (closureFor_eq (C.hasC I.ok)) C.kind C.names (thn (hit pins s σ H _ I h) fun v s1 h1 => thn h1 fun itv s2 h2 => ?_)
  obtain ⟨it, fp, tn, J, H2, rfl, I2, T, st2, f2, R⟩ := h2
  obtain ⟨W, ⟨m0, w0⟩, turn⟩ := R s2.heap.objs.size (I2.hok.fresh (Nat.le_refl _))
  refine comp_lay I2 T st2 f2 fun s3 I3 st3 f3 hz3 => ?_
  refine thn (comp_core2 (Rr := compPost (model X.prog X.w) X.A X.xe none (EP X pins σ Q) (.ref s2.heap.objs.size) s3.heap.objs.size) (pos := pos) (iter := iter) hc C he hi I3 T st3 f3 w0 turn ?_) fun cenv s4 ⟨e, h4⟩ => ?_
  · rintro s' H' I' q ⟨m, hn⟩ f
    exact ⟨m, hn, fun h' hs' => ⟨.ref s2.heap.objs.size, H', I'.let f hs', rfl, q⟩⟩
  · simp only [e] at h4 ⊢
    exact h4
theorem comp_list2 {K : PySem.W.Frag} {a : Addr} {xs : List V} {te : TE} {cs : St} {H1 : Hp} {Q : VK} (hsz : xs.length ≤ sizeLine) (ha : SqL K H1 a xs) (Pv : Nat → List V → Hp → Prop) (hSame : ∀ i ys H, Pv i ys H → Same H1 H)
    (h0 : ∀ H, Same H1 H → Pv 0 [] H) (hl : ∀ i ys zs H l o, H1 l = none → H l = some (.lst zs) → Pv i ys H → Pv i ys (upd H l (.lst o))) (hlen : ∀ i ys H, Pv i ys H → ys.length = i)
    (hs : ∀ i y ys H, xs[i]? = some y → Pv i ys H → ∃ pa xa xb, y = .ref pa ∧ SqT K H pa [xa, xb] ∧ ∀ Q : VK, (∀ z H5, Same H H5 → Pv (i + 1) (ys ++ [z]) H5 → Q z H5) → te (some xa :: some xb :: cs) H Q)
    (hQ : ∀ l ys H', H1 l = none → Pv xs.length ys H' → H' l = some (.lst ys) → Q (.ref l) H') :
    CompG2 K (Itl K a) tTrue te cs H1 Q := by
  intro l hl1
  refine ⟨fun i m ys H2 => m = xs.length - i ∧ i ≤ xs.length ∧ Pv i ys H2 ∧ H2 l = some (.lst ys), ⟨xs.length, rfl, Nat.zero_le _, h0 _ ((Same.refl H1).upd hl1), upd_same⟩, ?_⟩
  rintro i m ys H2 ⟨rfl, hi, p, hl2⟩
  refine ⟨hl2, ?_⟩
  have s2 := hSame i ys H2 p
  have hq : SqL K H2 a xs := s2.seq ha
  by_cases hlt : i < xs.length
  · refine .inr ⟨⟨xs, xs[i], hq, by simp [hlt]⟩, by rw [hlen i ys H2 p]; omega, fun y H3 hy => ?_⟩
    obtain ⟨rfl, hy⟩ := hy
    obtain ⟨pa, xa, xb, e, hsq, k⟩ := hs i y ys H3 (hy xs hq) p
    refine ⟨pa, xa, xb, e, hsq, ?_⟩
    unfold tTrue
    dsimp only
    rw [if_pos rfl]
    exact k _ fun z H5 s5 p5 => ⟨s5 _ _ hl2, xs.length - (i + 1), by omega, rfl, hlt, hl _ _ _ _ l _ hl1 (s5 _ _ hl2) p5, upd_same⟩
  · have e : i = xs.length := by omega
    subst e
    exact .inl ⟨⟨xs, hq, Nat.le_refl _⟩, hQ l ys H2 hl1 p hl2⟩
end
end L2

namespace SC
open PySem PySem.Spec PyProof.Rows L2
noncomputable def lookI (kvs : List (Int × V)) (k : Int) : Option V := (kvs.find? fun p => decide (p.1 = k)).map (·.2)
theorem tabI_of {P : Program} {w : World} {kvs : List (Int × V)} {es : List DictEntry} (h : Paired (fun (p : Int × V) (e : DictEntry) => (∃ t, e.key = .int p.1 t) ∧ RelV p.2 e.val) kvs es) (k : Int) : RelO (lookI kvs k) (findBy (mixKind P w).is es.toArray (Sum.inl k : Key)) := by
  unfold lookI findBy
  rw [List.find?_toArray]
  induction h with
  | nil => trivial
  | @cons p e ps qs hq t ih =>
    obtain ⟨⟨t, ek⟩, rv⟩ := hq
    rw [List.find?_cons, List.find?_cons, ek]
    have e1 : (mixKind P w).is (Sum.inl k : Key) (.int p.1 t) = decide (p.1 = k) := by
      show Value.isInt k (.int p.1 t) = _
      by_cases h : p.1 = k
      · subst h; simp [Value.isInt]
      · rw [decide_eq_false h]
        simp only [Value.isInt]
        exact beq_eq_false_iff_ne.mpr h
    rw [e1]
    cases decide (p.1 = k) with
    | true => exact rv
    | false => exact ih
noncomputable def TabI (P : Program) (w : World) (K : PySem.W.Frag) (a : Addr) (kvs : List (Int × V)) : Prop :=
  (a == sysModules) = false ∧ ∃ es ep, K.lookup a = some { cls := .type "dict", data := .dict es ep } ∧ KeysOf (mixKind P w) es ∧ ∀ k : Int, RelO (lookI kvs k) (findBy (mixKind P w).is es (Sum.inl k : Key))
section
variable {X : Cx} {pos p : Pos} {x : Str}
theorem pe_gtabI {kvs : List (Int × V)} {k : Expr} {tk : TE} (h : ∃ a, X.mg x = some (.ref a) ∧ TabI X.prog X.w X.K a kvs) (hk : PE X k tk) (hg : Gl X x) (hs : NoSl k) (hd : (x == ("__debug__" : Str)) = false := by decide) :
    PE X (.Subscript (.Name x p) k pos) (fun σ H Q => tk σ H fun y H1 => ∃ i v, y = .int i ∧ lookI kvs i = some v ∧ Q v H1) := by
  obtain ⟨a, hm, sm, es, ep, hl, hk1, hv⟩ := h
  intro pins s σ H Q I hq
  refine subD_of PySem.F.slot_dict_getitem.lookup hs (ld_glob I hg hm (thn (hk pins s σ H _ I hq) fun iv s2 ⟨y, H2, I2, ry, i, v, ei, hi, q2⟩ => ?_) hd)
  subst ei
  have hmo : s2.heap.MapOf (mixKind X.prog X.w) a (fun k => findBy (mixKind X.prog X.w).is es k) := ⟨_, es, ep, I2.kIn a _ hl, ⟨rfl, rfl, rfl⟩, rfl, hk1, fun _ => rfl⟩
  obtain ⟨w', hw, rw'⟩ := RelO.some_of (v := v) (o := findBy (mixKind X.prog X.w).is es (Sum.inl i : Key)) (by rw [← hi]; exact hv i)
  exact ⟨hmo.typeIs, wpAny_getItem_of (kV_is (k := (Sum.inl i : Key)) ry) hmo hw ⟨v, H2, I2.tok _, rw', q2⟩⟩
theorem pc_gnotin {kvs : List (Int × V)} {i : Expr} {ti : TE} (h : ∃ a, X.mg x = some (.ref a) ∧ TabI X.prog X.w X.K a kvs) (hi : PE X i ti) (hg : Gl X x) (hd : (x == ("__debug__" : Str)) = false := by decide) :
    PC X .NotIn i (.Name x p) (fun σ H Q => ti σ H fun y H1 => ∃ k : Int, y = .int k ∧ Q (.bl (!(lookI kvs k).isSome)) H1) := by
  obtain ⟨a, hm, sm, es, ep, hl, hk1, hv⟩ := h
  intro pins s σ H Q I hq
  refine thn (hi pins s σ H _ I hq) fun iv s1 ⟨y, H1, I1, ry, k, ek, q1⟩ => ld_glob I1 hg hm ?_ hd
  subst ek
  have hmo : s1.heap.MapOf (mixKind X.prog X.w) a (fun k => findBy (mixKind X.prog X.w).is es k) := ⟨_, es, ep, I1.kIn a _ hl, ⟨rfl, rfl, rfl⟩, rfl, hk1, fun _ => rfl⟩
  refine wpAny_notIn_of (kV_is (k := (Sum.inl k : Key)) ry) sm hmo ?_
  rw [← (hv k).isSome_eq]
  exact ⟨.bl _, H1, I1.tok _, rfl, q1⟩
end
end SC

namespace SC
open PySem PySem.Spec PyProof.Rows L2
noncomputable def LETT : Str := "abcdefghijklmnopqrstuvwxyz"
noncomputable def FIGS : Str := "0123456789"
noncomputable def occ (j : Str) (c : Nat) : Bool := !(Builtin.Str.occurrences j ⟨#[c]⟩ 0 j.length 1).isEmpty
noncomputable def niceB (x : Str) : Bool := !(x.cps.size == 0) && occ LETT (x.cps.getD 0 0) && (List.range x.cps.size).all (fun i => occ LETT (x.cps.getD i 0) || occ FIGS (x.cps.getD i 0))
noncomputable def Nice (x : Str) : Prop := niceB x = true ∧ x.length ≤ 1000
theorem iteF' {c : Bool} {A B : Prop} (e : c = false) (h : B) : if c = true then A else B := by subst e; exact iteF h
theorem iteT' {c : Bool} {A B : Prop} (e : c = true) (h : A) : if c = true then A else B := by subst e; exact iteT h
theorem s1000 {n : Nat} (h : n ≤ 1000) : n ≤ sizeLine := Nat.le_of_lt (small1000 h)
noncomputable def top (i : Nat) : Stmt := PySem.Challenge.pw_stepcells_k09_whole_cells_read_or_refuse.main.body.getD i (.Pass ⟨0, 0, 0, 0⟩)
structure Tx (P : Program) (w : World) (K : PySem.W.Frag) (mg : Str → Option Value) : Prop where
  c_LETTERS : ∃ t, mg "LETTERS" = some (.str LETT t)
  c_FIGURES : ∃ t, mg "FIGURES" = some (.str FIGS t)
  c_LONE_WORDS : ∃ a, mg "LONE_WORDS" = some (.ref a) ∧ ∀ H, SqT K H a [.str "tell", .str "halt"]
  c_NAMED_WORDS : ∃ a, mg "NAMED_WORDS" = some (.ref a) ∧ ∀ H, SqT K H a [.str "mark", .str "jump", .str "when"]
  c_LEADING_WORDS : ∃ a, mg "LEADING_WORDS" = some (.ref a) ∧ ∀ H, SqT K H a [.str "jump", .str "when"]
  c_LEAST_NEAR_GAP : ∃ t, mg "LEAST_NEAR_GAP" = some (.int (-8) t)
  c_MOST_NEAR_GAP : ∃ t, mg "MOST_NEAR_GAP" = some (.int 7 t)
  c_FAR_UNIT : ∃ t, mg "FAR_UNIT" = some (.int 16 t)
  c_WORDS : ∃ a, mg "WORDS" = some (.ref a) ∧ TabI P w K a [(1, .str "grow"), (2, .str "tell"), (3, .str "halt"), (4, .str "jump"), (5, .str "jump"), (6, .str "when"), (7, .str "when")]
  c_SIZES : ∃ a, mg "SIZES" = some (.ref a) ∧ TabI P w K a [(1, .int 2), (2, .int 1), (3, .int 1), (4, .int 2), (5, .int 3), (6, .int 2), (7, .int 3)]
  c_NEAR_FIRSTS : ∃ a, mg "NEAR_FIRSTS" = some (.ref a) ∧ ∀ H, SqT K H a [.int 4, .int 6]
  c_FAR_FIRSTS : ∃ a, mg "FAR_FIRSTS" = some (.ref a) ∧ ∀ H, SqT K H a [.int 5, .int 7]
  b_ValueError : mg "ValueError" = none
  b_len : mg "len" = none
  b_range : mg "range" = none
  b_enumerate : mg "enumerate" = none
  b_all : mg "all" = none
  b_isinstance : mg "isinstance" = none
  b_int : mg "int" = none
  b_str : mg "str" = none
  b_bool : mg "bool" = none
  b_list : mg "list" = none
  b_tuple : mg "tuple" = none
structure Cn where
  CellError : Addr
  NoRow : Addr
  TwoMarks : Addr
  NoMark : Addr
  NoCells : Addr
  NoLine : Addr
structure Tc (K : PySem.W.Frag) (mg : Str → Option Value) (c : Cn) : Prop where
  n_CellError : mg "CellError" = some (.ref c.CellError)
  e_CellError : ExCls K c.CellError
  n_NoRow : mg "NoRow" = some (.ref c.NoRow)
  e_NoRow : ExCls K c.NoRow
  n_TwoMarks : mg "TwoMarks" = some (.ref c.TwoMarks)
  e_TwoMarks : ExCls K c.TwoMarks
  n_NoMark : mg "NoMark" = some (.ref c.NoMark)
  e_NoMark : ExCls K c.NoMark
  n_NoCells : mg "NoCells" = some (.ref c.NoCells)
  e_NoCells : ExCls K c.NoCells
  n_NoLine : mg "NoLine" = some (.ref c.NoLine)
  e_NoLine : ExCls K c.NoLine
  u_NoCells : L2.subIn K c.NoCells (.ref c.CellError) = true
  v_NoCells : PySem.W.kitOne K (.ref c.NoCells) (.type "ValueError") = some true
  i_NoCells_NoRow : PySem.W.kitOne K (.ref c.NoCells) (.ref c.NoRow) = some false
  i_NoCells_TwoMarks : PySem.W.kitOne K (.ref c.NoCells) (.ref c.TwoMarks) = some false
  i_NoCells_NoMark : PySem.W.kitOne K (.ref c.NoCells) (.ref c.NoMark) = some false
  i_NoCells_NoCells : PySem.W.kitOne K (.ref c.NoCells) (.ref c.NoCells) = some true
  i_NoCells_NoLine : PySem.W.kitOne K (.ref c.NoCells) (.ref c.NoLine) = some false
section
variable {P : Program} {w : World} {K : PySem.W.Frag} {mg : Str → Option Value} {base : Heap}
noncomputable abbrev s_is_name : Stmt := top 13
theorem sc_is_name : FnScope ["text"] ["text"] (defScope s_is_name) := ⟨rfl, rfl, rfl, by decide +kernel, rfl, by decide +kernel, by decide +kernel⟩
noncomputable def spIsName : Sp := fun vs H Q _ => Ex1_3 (fun (x : Str) => vs = [.str x]) (fun (x : Str) => x.length ≤ 1000) (fun (x : Str) => ∀ H', Same H H' → Q (.bl (niceB x)) H')
theorem ok_is_name (D : Def K mg "is_name" s_is_name ["text"]) (T : Tx P w K mg) : Has P w K mg base 1 "is_name" ["text"] spIsName := by
  refine D.has sc_is_name (fun vs H Q E h => ?_) (fun f cdv A outer s H vs Q E hr h => ?_)
  · obtain ⟨x, rfl, _⟩ := h
    rfl
  · obtain ⟨x, rfl, hx, k⟩ := h
    refine ⟨_, (pss_cons (ps_if (PW.pt (pw_or (pt_cmpR op_eq (pv 0) pe_str (nomark _)) (pw_or1 (pt_cmpR op_notin_str (pe_ix ix_str (pv 0) pe_int (fun _ _ => rfl)) (pe_gS rfl T.c_LETTERS) (by with_unfolding_all rfl))))) (pss_one (ps_ret pe_bl)) pss_nil)
      (pss_one (ps_ret (pe_callB (call_all_bools rfl) (by rfl) T.b_all bt_all (pa_cons (pe_comp rfl (x := "sign") (xs := []) (caps := []) (osc := defScope s_is_name) ⟨rfl, rfl, by decide +kernel, by decide +kernel, rfl, by decide +kernel, by decide +kernel, by decide +kernel, .nil⟩ (pi_str (pv 0)) (fun _ _ _ => (pe_or (pe_cmpR op_in_str (pv 0) (pe_gS rfl T.c_LETTERS) (by with_unfolding_all rfl)) (pe_one (pe_cmpR op_in_str (pv 0) (pe_gS rfl T.c_FIGURES) (by with_unfolding_all rfl))))) (fun _ _ _ => pifs_nil)) pa_nil))))), ?_⟩
    refine ⟨_, rfl, rfl, _, rfl, ?_⟩
    refine ite2 (fun h0 => ?_) (fun h0 => ?_)
    · refine iteT ?_
      have e : x = "" := by
        have h0 := of_decide_eq_true h0
        injection h0
      subst e
      have q := k H (Same.refl H)
      rw [show niceB "" = false by decide +kernel] at q
      exact q
    · have hsz : x.cps.size ≠ 0 := fun z => h0 (by
        have e : x = "" := by
          obtain ⟨cps⟩ := x
          have z : cps.size = 0 := z
          have : cps = #[] := Array.eq_empty_of_size_eq_zero z
          subst this
          rfl
        subst e
        rfl)
      have hlt : 0 < x.cps.size := Nat.pos_of_ne_zero hsz
      have hat : atI x.cps.toList (0 : Int) = some (x.cps.getD 0 0) := by
        refine atI_nat (j := 0) ?_
        simp [Array.getD, hlt]
      refine ⟨_, rfl, x, 0, _, rfl, rfl, s1000 hx, hat, _, _, rfl, rfl, _, rfl, ?_⟩
      show if (!occ LETT (x.cps.getD 0 0)) = true then _ else _
      cases e0 : occ LETT (x.cps.getD 0 0) with
      | false =>
        refine iteT' rfl ?_
        have q := k H (Same.refl H)
        rw [show niceB x = false by unfold niceB; rw [e0]; simp] at q
        exact q
      | true =>
        refine iteF' rfl ?_
        refine ⟨_, rfl, x, rfl, comp_pure (n := x.cps.size) (item := fun i => V.str ⟨#[x.cps.getD i 0]⟩) (p := fun _ => true) (f := fun i => V.bl (occ LETT (x.cps.getD i 0) || occ FIGS (x.cps.getD i 0)))
          (s1000 hx) (fun i H2 _ h => h) (fun H2 _ => Nat.le_refl _) (fun i H2 y H3 _ hi hy => ?_) (fun i H2 _ _ Q2 k2 => k2 H2 (Same.refl H2)) (fun i H2 hi _ _ Q2 k2 => ?_) (fun l H2 hl s2 hl2 => ?_)⟩
        · obtain ⟨e1, c, hc, e2⟩ := hy
          refine ⟨?_, e1⟩
          rw [e2]
          have : x.cps.getD i 0 = c := by
            have hi : i < x.cps.size := hi
            rw [Array.getElem?_eq_getElem hi] at hc
            simp [Array.getD, hi, Option.some.inj hc]
          rw [this]
        · refine ⟨_, rfl, _, _, rfl, rfl, _, rfl, ?_⟩
          show if occ LETT (x.cps.getD i 0) = true then _ else _
          have q := k2 H2 (Same.refl H2)
          cases e1 : occ LETT (x.cps.getD i 0) with
          | true =>
            rw [e1] at q
            exact iteT q
          | false =>
            rw [e1, Bool.false_or] at q
            refine iteF ?_
            exact ⟨_, rfl, _, _, rfl, rfl, q⟩
        · refine ⟨l, (List.range x.cps.size).map fun i => occ LETT (x.cps.getD i 0) || occ FIGS (x.cps.getD i 0), rfl, SqL.of (by rw [hl2, List.map_map, List.filter_eq_self.mpr (fun _ _ => rfl)]; rfl), ?_⟩
          have q := k H2 s2
          rw [show niceB x = ((List.range x.cps.size).map fun i => occ LETT (x.cps.getD i 0) || occ FIGS (x.cps.getD i 0)).all id by
            unfold niceB
            rw [e0, List.all_map]
            have : (x.cps.size == 0) = false := by simpa using hsz
            rw [this]
            rfl] at q
          exact q
noncomputable abbrev s_is_row : Stmt := top 14
theorem sc_is_row : FnScope ["row", "word"] ["row"] (defScope s_is_row) := ⟨rfl, rfl, rfl, by decide +kernel, rfl, by decide +kernel, by decide +kernel⟩
noncomputable def spIsRow : Sp := fun vs H Q _ => Ex2_4 (fun p r => vs = [.ref p]) (fun p r => H p = some (.tup (Rw.tv r))) (fun p r => (∀ x, nm r = some x → Nice x)) (fun p r => ∀ H', Same H H' → Q (.bl true) H')
theorem ok_is_row (D : Def K mg "is_row" s_is_row ["row"]) (T : Tx P w K mg) (h_is_name : Has P w K mg base 1 "is_name" ["text"] spIsName) : Has P w K mg base 2 "is_row" ["row"] spIsRow := by
  refine D.has sc_is_row (fun vs H Q E h => ?_) (fun f cdv A outer s H vs Q E hr h => ?_)
  · obtain ⟨p, r, rfl, _⟩ := h
    rfl
  · obtain ⟨p, r, rfl, hp, hn, k⟩ := h
    refine ⟨_, (pss_cons (ps_set (i := 1) sc_is_row.nd rfl (Or.inl rfl) (pe_ix ix_tup0 (pv 0) pe_int (fun _ _ => rfl)))
      (pss_cons (ps_if (pt_cmpR op_in_seq (pv 1) (pe_gR rfl T.c_LONE_WORDS) (by with_unfolding_all rfl)) (pss_one (ps_ret (pe_cmpR op_eq (pe_callB call_len_seq0 (by rfl) T.b_len bt_len (pa_cons (pv 0) pa_nil)) pe_int (nomark _)))) pss_nil)
      (pss_cons (ps_if (pt_cmpR op_eq (pv 1) pe_str (nomark _)) (pss_one (ps_ret (pe_cmpR op_eq (pe_callB call_len_seq0 (by rfl) T.b_len bt_len (pa_cons (pv 0) pa_nil)) pe_int (nomark _)))) pss_nil)
      (pss_cons (ps_if (pt_cmpR op_in_seq (pv 1) (pe_gR rfl T.c_NAMED_WORDS) (by with_unfolding_all rfl)) (pss_one (ps_ret (pe_and (pe_cmpR op_eq (pe_callB call_len_seq0 (by rfl) T.b_len bt_len (pa_cons (pv 0) pa_nil)) pe_int (nomark _)) (pe_one (pe_has h_is_name hr rfl (pa_cons (pe_ix ix_tup0 (pv 0) pe_int (fun _ _ => rfl)) pa_nil)))))) pss_nil)
      (pss_one (ps_ret pe_bl)))))), ?_⟩
    refine ⟨_, rfl, p, _, 0, _, rfl, rfl, SqT.of hp, atI_nat (j := 0) (tv_word r), ?_⟩
    have named : ∀ x, nm r = some x → r.tv = [.str r.word, .str x] → ∀ H2, Same H H2 → tAndV (tOp rEq (tCB rLen0 (tCons (tVar 0) tNil)) (tC (.int 2)))
        (tCall spIsName [] E0 (tCons (tOp (rIxT []) (tVar 0) (tC (.int 1))) tNil)) [some (.ref p), some (.str r.word)] H2 Q := by
      intro x hx ht H2 s2
      have hp2 := s2 _ _ hp
      refine ⟨_, rfl, p, _, rfl, .inr (SqT.of hp2), rfl, _, rfl, ?_⟩
      rw [ht]
      refine iteT' rfl ?_
      refine ⟨_, rfl, p, _, 1, _, rfl, rfl, SqT.of hp2, atI_nat (j := 1) (by rw [ht]; rfl), x, rfl, (hn x hx).2, fun H3 s3 => ?_⟩
      rw [(hn x hx).1]
      exact k H3 (s2.trans s3)
    cases r with
    | mark x =>
      refine ⟨_, rfl, fun a ha => ⟨a, _, rfl, .inr (ha H), rfl, rfl, _, rfl, iteF' (by first | decide +kernel | (dsimp only [Rw.word]; decide +kernel) | (rw [dec_str]; dsimp only [Rw.word]; decide +kernel)) ?_⟩⟩
      refine ⟨_, rfl, rfl, _, rfl, iteF' (by first | decide +kernel | (dsimp only [Rw.word]; decide +kernel) | (rw [dec_str]; dsimp only [Rw.word]; decide +kernel)) ?_⟩
      refine ⟨_, rfl, fun a ha => ⟨a, _, rfl, .inr (ha H), rfl, rfl, _, rfl, iteT' (by first | decide +kernel | (dsimp only [Rw.word]; decide +kernel) | (rw [dec_str]; dsimp only [Rw.word]; decide +kernel)) ?_⟩⟩
      exact named x rfl rfl H (Same.refl H)
    | jump x =>
      refine ⟨_, rfl, fun a ha => ⟨a, _, rfl, .inr (ha H), rfl, rfl, _, rfl, iteF' (by first | decide +kernel | (dsimp only [Rw.word]; decide +kernel) | (rw [dec_str]; dsimp only [Rw.word]; decide +kernel)) ?_⟩⟩
      refine ⟨_, rfl, rfl, _, rfl, iteF' (by first | decide +kernel | (dsimp only [Rw.word]; decide +kernel) | (rw [dec_str]; dsimp only [Rw.word]; decide +kernel)) ?_⟩
      refine ⟨_, rfl, fun a ha => ⟨a, _, rfl, .inr (ha H), rfl, rfl, _, rfl, iteT' (by first | decide +kernel | (dsimp only [Rw.word]; decide +kernel) | (rw [dec_str]; dsimp only [Rw.word]; decide +kernel)) ?_⟩⟩
      exact named x rfl rfl H (Same.refl H)
    | whn x =>
      refine ⟨_, rfl, fun a ha => ⟨a, _, rfl, .inr (ha H), rfl, rfl, _, rfl, iteF' (by first | decide +kernel | (dsimp only [Rw.word]; decide +kernel) | (rw [dec_str]; dsimp only [Rw.word]; decide +kernel)) ?_⟩⟩
      refine ⟨_, rfl, rfl, _, rfl, iteF' (by first | decide +kernel | (dsimp only [Rw.word]; decide +kernel) | (rw [dec_str]; dsimp only [Rw.word]; decide +kernel)) ?_⟩
      refine ⟨_, rfl, fun a ha => ⟨a, _, rfl, .inr (ha H), rfl, rfl, _, rfl, iteT' (by first | decide +kernel | (dsimp only [Rw.word]; decide +kernel) | (rw [dec_str]; dsimp only [Rw.word]; decide +kernel)) ?_⟩⟩
      exact named x rfl rfl H (Same.refl H)
    | grow n =>
      refine ⟨_, rfl, fun a ha => ⟨a, _, rfl, .inr (ha H), rfl, rfl, _, rfl, iteF' (by first | decide +kernel | (dsimp only [Rw.word]; decide +kernel) | (rw [dec_str]; dsimp only [Rw.word]; decide +kernel)) ?_⟩⟩
      refine ⟨_, rfl, rfl, _, rfl, iteT' (by first | decide +kernel | (dsimp only [Rw.word]; decide +kernel) | (rw [dec_str]; dsimp only [Rw.word]; decide +kernel)) ?_⟩
      exact ⟨_, rfl, p, _, rfl, .inr (SqT.of hp), rfl, k H (Same.refl H)⟩
    | tell =>
      refine ⟨_, rfl, fun a ha => ⟨a, _, rfl, .inr (ha H), rfl, rfl, _, rfl, iteT' (by first | decide +kernel | (dsimp only [Rw.word]; decide +kernel) | (rw [dec_str]; dsimp only [Rw.word]; decide +kernel)) ?_⟩⟩
      exact ⟨_, rfl, p, _, rfl, .inr (SqT.of hp), rfl, k H (Same.refl H)⟩
    | halt =>
      refine ⟨_, rfl, fun a ha => ⟨a, _, rfl, .inr (ha H), rfl, rfl, _, rfl, iteT' (by first | decide +kernel | (dsimp only [Rw.word]; decide +kernel) | (rw [dec_str]; dsimp only [Rw.word]; decide +kernel)) ?_⟩⟩
      exact ⟨_, rfl, p, _, rfl, .inr (SqT.of hp), rfl, k H (Same.refl H)⟩
noncomputable abbrev s_leads : Stmt := top 15
theorem sc_leads : FnScope ["row"] ["row"] (defScope s_leads) := ⟨rfl, rfl, rfl, by decide +kernel, rfl, by decide +kernel, by decide +kernel⟩
noncomputable def spLeads : Sp := fun vs H Q _ => Ex2_3 (fun p r => vs = [.ref p]) (fun p r => H p = some (.tup (Rw.tv r))) (fun p r => ∀ H', Same H H' → Q (.bl r.lead.isSome) H')
theorem ok_leads (D : Def K mg "leads" s_leads ["row"]) (T : Tx P w K mg) : Has P w K mg base 1 "leads" ["row"] spLeads := by
  refine D.has sc_leads (fun vs H Q E h => ?_) (fun f cdv A outer s H vs Q E hr h => ?_)
  · obtain ⟨p, r, rfl, _⟩ := h
    rfl
  · obtain ⟨p, r, rfl, hp, k⟩ := h
    refine ⟨_, (pss_one (ps_ret (pe_cmpR op_in_seq (pe_ix ix_tup0 (pv 0) pe_int (fun _ _ => rfl)) (pe_gR rfl T.c_LEADING_WORDS) (by with_unfolding_all rfl)))), ?_⟩
    refine ⟨_, rfl, p, _, 0, _, rfl, rfl, SqT.of hp, atI_nat (j := 0) (tv_word r), fun a ha => ⟨a, _, rfl, .inr (ha H), rfl, rfl, ?_⟩⟩
    have q := k H (Same.refl H)
    rw [show r.lead.isSome = (if false = true then !inV (V.str r.word) [.str "jump", .str "when"] else inV (V.str r.word) [.str "jump", .str "when"]) by cases r <;> (dsimp only [Rw.word, Rw.lead, Option.isSome]; decide +kernel)] at q
    exact q
noncomputable abbrev s_refuse_other_tuples : Stmt := top 16
theorem sc_refuse_other_tuples : FnScope ["rows", "place", "row"] ["rows"] (defScope s_refuse_other_tuples) := ⟨rfl, rfl, rfl, by decide +kernel, rfl, by decide +kernel, by decide +kernel⟩
noncomputable def spRows (post : Hp → List Rw → V → Hp → Prop) : Sp := fun vs H Q _ => Ex2_5 (fun a rs => vs = [.ref a]) (fun a rs => RowsAt H a rs) (fun a rs => rs.length ≤ 300) (fun a rs => (∀ r ∈ rs, ∀ x, nm r = some x → Nice x)) (fun a rs => ∀ v H', Same H H' → post H rs v H' → Q v H')
theorem ok_refuse_other_tuples (D : Def K mg "refuse_other_tuples" s_refuse_other_tuples ["rows"]) (T : Tx P w K mg) (h_is_row : Has P w K mg base 2 "is_row" ["row"] spIsRow) :
    Has P w K mg base 3 "refuse_other_tuples" ["rows"] (spRows fun _ _ v _ => v = .non) := by
  refine D.has sc_refuse_other_tuples (fun vs H Q E h => ?_) (fun f cdv A outer s H vs Q E hr h => ?_)
  · obtain ⟨a, rs, rfl, _⟩ := h
    rfl
  · obtain ⟨a, rs, rfl, hR, hl, hn, k⟩ := h
    obtain ⟨ps, ha, hlen, hget⟩ := hR.get
    refine ⟨_, (pss_one (ps_for PassesOwn.never rfl (pi_enum (by rfl) T.b_enumerate (pa_cons (pv 0) pa_nil)) (pg_tup rfl (pgs_cons (pg_name (i := 1) sc_refuse_other_tuples.nd rfl (Or.inl rfl)) (pgs_cons (pg_name (i := 2) sc_refuse_other_tuples.nd rfl (Or.inl rfl)) pgs_nil)))
        (pss_one (ps_if (pt_not (pt_val (pe_has h_is_row hr rfl (pa_cons (pv 2) pa_nil)))) (pss_one ps_never) pss_nil)))), ?_⟩
    refine ⟨_, rfl, a, _, rfl, SqL.of ha, for_enum (K := K) (a := a) (xs := ps.map V.ref) (fun i σ H2 => ∃ v1 v2, σ = [some (.ref a), v1, v2] ∧ Same H H2)
      ⟨none, none, rfl, Same.refl H⟩ (fun i σ H2 _ ⟨_, _, _, s2⟩ => s2.seq (SqL.of ha)) ?_ (fun σ H2 ⟨_, _, _, s2⟩ => k .non H2 s2 rfl)⟩
    rintro i y p σ H2 hi ⟨v1, v2, rfl, s2⟩ hp
    have hil : i < rs.length := by
      have := (List.getElem?_eq_some_iff.mp hi).1
      rw [List.length_map] at this
      omega
    obtain ⟨q, e1, e2, hq⟩ := hget i rs[i] (List.getElem?_eq_getElem hil)
    rw [e2] at hi
    cases hi
    have s3 : Same H2 (upd H2 p (.tup [.int (i : Nat), .ref q])) := (Same.refl H2).upd hp
    refine ⟨p, _, rfl, SqT.of upd_same, rfl, _, _, rfl, _, _, rfl, rfl, ?_⟩
    refine ⟨_, rfl, q, rs[i], rfl, s3 _ _ (s2 _ _ hq), hn _ (List.getElem_mem hil), fun H4 s4 => ⟨true, rfl, iteF ?_⟩⟩
    exact ⟨_, _, rfl, (s2.trans s3).trans s4⟩
end
end SC

namespace SC
open PySem PySem.Spec PyProof.Rows L2
theorem markAt_take {rs : List Rw} {i : Nat} {r : Rw} (h : rs[i]? = some r) (x : Str) : markAt (rs.take (i + 1)) x = match markAt (rs.take i) x with
    | some j => some j
    | none => if isMark x r = true then some i else none := by
  have hi : i < rs.length := (List.getElem?_eq_some_iff.mp h).1
  unfold markAt
  rw [List.take_add_one, h, Option.toList_some, List.findIdx?_append]
  cases q : (rs.take i).findIdx? (isMark x) with
  | some j => rfl
  | none =>
    rw [List.findIdx?_singleton]
    by_cases e : isMark x r = true
    · simp [e, List.length_take]
      omega
    · simp [e]
theorem markAt_take_none {rs : List Rw} {i : Nat} {x : Str} (h : rs[i]? = some (.mark x)) (once : ∀ (i j : Nat) (x : Str), rs[i]? = some (.mark x) → rs[j]? = some (.mark x) → i = j) : markAt (rs.take i) x = none := by
  cases q : markAt (rs.take i) x with
  | none => rfl
  | some j =>
    have e := (markAt_some q).1
    have hj := (List.getElem?_eq_some_iff.mp e).1
    rw [List.length_take] at hj
    rw [List.getElem?_take_of_lt (by omega)] at e
    have := once i j x h e
    omega
section
variable {P : Program} {w : World} {K : PySem.W.Frag} {mg : Str → Option Value} {base : Heap}
noncomputable abbrev s_mark_places : Stmt := top 17
theorem sc_mark_places : FnScope ["rows", "places", "place", "row", "name"] ["rows"] (defScope s_mark_places) := ⟨rfl, rfl, rfl, by decide +kernel, rfl, by decide +kernel, by decide +kernel⟩
noncomputable def spMarks : Sp := fun vs H Q _ => Ex2_4 (fun a rs => vs = [.ref a]) (fun a rs => RowsAt H a rs) (fun a rs => Valid Nice rs) (fun a rs => ∀ d H', Same H H' → MarksAt H' d rs → Q (.ref d) H')
theorem ok_mark_places (D : Def K mg "mark_places" s_mark_places ["rows"]) (T : Tx P w K mg) : Has P w K mg base 1 "mark_places" ["rows"] spMarks := by
  refine D.has sc_mark_places (fun vs H Q E h => ?_) (fun f cdv A outer s H vs Q E hr h => ?_)
  · obtain ⟨a, rs, rfl, _⟩ := h
    rfl
  · obtain ⟨a, rs, rfl, hR, hv, k⟩ := h
    obtain ⟨ps, ha, hlen, hget⟩ := hR.get
    have hu := hu_of hr
    refine ⟨_, (pss_cons (ps_set (i := 1) sc_mark_places.nd rfl (Or.inl rfl) pe_dnewK)
      (pss_cons (ps_for PassesOwn.never rfl (pi_enum (by rfl) T.b_enumerate (pa_cons (pv 0) pa_nil)) (pg_tup rfl (pgs_cons (pg_name (i := 2) sc_mark_places.nd rfl (Or.inl rfl)) (pgs_cons (pg_name (i := 3) sc_mark_places.nd rfl (Or.inl rfl)) pgs_nil)))
        (pss_one (ps_if (pt_cmpR op_eq (pe_ix ix_tup0 (pv 3) pe_int (fun _ _ => rfl)) pe_str (nomark _)) (pss_cons (ps_set (i := 4) sc_mark_places.nd rfl (Or.inl rfl) (pe_ix ix_tup0 (pv 3) pe_int (fun _ _ => rfl)))
      (pss_cons (ps_if (pt_cmp (pc_din hu (pv 4) (pv 1))) (pss_one ps_never) pss_nil)
      (pss_one (ps_dput hu (pv 1) (pv 4) (pv 2) rfl)))) pss_nil)))
      (pss_one (ps_ret (pv 1))))), ?_⟩
    intro d hd
    have s0 : Same H (upd H d (.dK [])) := (Same.refl H).upd hd
    refine ⟨_, rfl, a, _, rfl, SqL.of (s0 _ _ ha), for_enum (K := K) (a := a) (xs := ps.map V.ref) (fun i σ H2 => ∃ v2 v3 v4, ∃ kvs : List (Key × V), σ = [some (.ref a), some (.ref d), v2, v3, v4] ∧ Same H H2 ∧ H2 d = some (.dK kvs) ∧ kvs.length ≤ i ∧
        ∀ x : Str, valV kvs (Sum.inr x) = (markAt (rs.take i) x).map fun i => V.int (i : Nat))
      ⟨none, none, none, [], rfl, s0, upd_same, Nat.le_refl _, fun x => rfl⟩ (fun i σ H2 _ ⟨_, _, _, _, _, s2, _⟩ => s2.seq (SqL.of ha)) ?_ ?_⟩
    · rintro i y p σ H2 hi ⟨v2, v3, v4, kvs, rfl, s2, hd2, hk, hval⟩ hp
      have hil : i < rs.length := by
        have := (List.getElem?_eq_some_iff.mp hi).1
        rw [List.length_map] at this
        omega
      have hri : rs[i]? = some rs[i] := List.getElem?_eq_getElem hil
      obtain ⟨q, e1, e2, hq⟩ := hget i rs[i] hri
      rw [e2] at hi
      cases hi
      have s3 : Same H2 (upd H2 p (.tup [.int (i : Nat), .ref q])) := (Same.refl H2).upd hp
      have hq3 := s3 _ _ (s2 _ _ hq)
      have hd3 := s3 _ _ hd2
      refine ⟨p, _, rfl, SqT.of upd_same, rfl, _, _, rfl, _, _, rfl, rfl, ?_⟩
      refine ⟨_, rfl, q, _, 0, _, rfl, rfl, SqT.of hq3, atI_nat (j := 0) (tv_word rs[i]), rfl, _, rfl, ?_⟩
      have other : (∀ x, rs[i] ≠ .mark x) → ∀ x : Str, valV kvs (Sum.inr x) = (markAt (rs.take (i + 1)) x).map fun i => V.int (i : Nat) := fun hno x => by
        rw [hval x, markAt_take hri x]
        cases markAt (rs.take i) x with
        | some j => rfl
        | none => rw [if_neg fun z => hno x (isMark_iff.mp z)]
      cases er : rs[i] with
      | mark x =>
        rw [er] at hq3 hri
        refine iteT' (by first | decide +kernel | (dsimp only [Rw.word]; decide +kernel) | (rw [dec_str]; dsimp only [Rw.word]; decide +kernel)) ?_
        refine ⟨_, rfl, q, _, 1, _, rfl, rfl, SqT.of hq3, atI_nat (j := 1) rfl, ?_⟩
        have hx : valV kvs (Sum.inr x : Key) = none := by rw [hval x, markAt_take_none hri hv.once]; rfl
        refine ⟨_, rfl, _, rfl, d, _, rfl, DGet.k (k := (Sum.inr x : Key)) hd3, _, rfl, ?_⟩
        rw [hx]
        refine iteF ?_
        have hl := hv.len
        refine ⟨_, rfl, _, rfl, _, rfl, d, _, rfl, DPut.k (k := (Sum.inr x : Key)) hd3 (small1000 (by omega)), ?_⟩
        refine ⟨_, _, _, _, rfl, ((s2.trans s3).upd hd), upd_same, Nat.le_trans (length_putK _ _ _) (by omega), fun y => ?_⟩
        rw [valV_put, hval y, markAt_take hri y]
        by_cases e : y = x
        · subst e
          rw [if_pos rfl, markAt_take_none hri hv.once]
          show _ = Option.map _ (if isMark y (.mark y) = true then some i else none)
          rw [if_pos (isMark_iff.mpr rfl)]
          rfl
        · rw [if_neg (fun z => e (Sum.inr.inj z))]
          cases markAt (rs.take i) y with
          | some j => rfl
          | none => rw [if_neg fun z => e (by have := isMark_iff.mp z; injection this with this; exact this.symm)]
      | jump x => exact iteF' (by first | decide +kernel | (dsimp only [Rw.word]; decide +kernel) | (rw [dec_str]; dsimp only [Rw.word]; decide +kernel)) ⟨_, _, _, _, rfl, s2.trans s3, hd3, Nat.le_succ_of_le hk, other fun y z => by rw [er] at z; cases z⟩
      | whn x => exact iteF' (by first | decide +kernel | (dsimp only [Rw.word]; decide +kernel) | (rw [dec_str]; dsimp only [Rw.word]; decide +kernel)) ⟨_, _, _, _, rfl, s2.trans s3, hd3, Nat.le_succ_of_le hk, other fun y z => by rw [er] at z; cases z⟩
      | grow x => exact iteF' (by first | decide +kernel | (dsimp only [Rw.word]; decide +kernel) | (rw [dec_str]; dsimp only [Rw.word]; decide +kernel)) ⟨_, _, _, _, rfl, s2.trans s3, hd3, Nat.le_succ_of_le hk, other fun y z => by rw [er] at z; cases z⟩
      | tell => exact iteF' (by first | decide +kernel | (dsimp only [Rw.word]; decide +kernel) | (rw [dec_str]; dsimp only [Rw.word]; decide +kernel)) ⟨_, _, _, _, rfl, s2.trans s3, hd3, Nat.le_succ_of_le hk, other fun y z => by rw [er] at z; cases z⟩
      | halt => exact iteF' (by first | decide +kernel | (dsimp only [Rw.word]; decide +kernel) | (rw [dec_str]; dsimp only [Rw.word]; decide +kernel)) ⟨_, _, _, _, rfl, s2.trans s3, hd3, Nat.le_succ_of_le hk, other fun y z => by rw [er] at z; cases z⟩
    · rintro σ H2 ⟨v2, v3, v4, kvs, rfl, s2, hd2, hk, hval⟩
      refine ⟨_, rfl, k d H2 s2 ⟨kvs, hd2, fun x => ?_⟩⟩
      rw [hval x, List.take_of_length_le (by rw [List.length_map]; omega)]
noncomputable abbrev s_refuse_unmarked_names : Stmt := top 18
theorem sc_refuse_unmarked_names : FnScope ["rows", "places", "row", "name"] ["rows", "places"] (defScope s_refuse_unmarked_names) := ⟨rfl, rfl, rfl, by decide +kernel, rfl, by decide +kernel, by decide +kernel⟩
noncomputable def spUnmarked : Sp := fun vs H Q _ => Ex3_5 (fun a d rs => vs = [.ref a, .ref d]) (fun a d rs => RowsAt H a rs) (fun a d rs => MarksAt H d rs) (fun a d rs => Valid Nice rs) (fun a d rs => ∀ H', Same H H' → Q .non H')
theorem ok_refuse_unmarked_names (D : Def K mg "refuse_unmarked_names" s_refuse_unmarked_names ["rows", "places"]) (T : Tx P w K mg) (h_leads : Has P w K mg base 1 "leads" ["row"] spLeads) :
    Has P w K mg base 2 "refuse_unmarked_names" ["rows", "places"] spUnmarked := by
  refine D.has sc_refuse_unmarked_names (fun vs H Q E h => ?_) (fun f cdv A outer s H vs Q E hr h => ?_)
  · obtain ⟨a, d, rs, rfl, _⟩ := h
    rfl
  · obtain ⟨a, d, rs, rfl, hR, ⟨kvs, hd, hval⟩, hv, k⟩ := h
    obtain ⟨ps, ha, hlen, hget⟩ := hR.get
    have hu := hu_of hr
    refine ⟨_, (pss_one (ps_for PassesOwn.never rfl (pi_list (pv 0)) (pg_name (i := 2) sc_refuse_unmarked_names.nd rfl (Or.inl rfl))
        (pss_one (ps_if (PW.pt (pw_and (pt_val (pe_has h_leads hr rfl (pa_cons (pv 2) pa_nil))) (pw_and1 (pt_cmp (pc_dnotin hu (pe_ix ix_tup0 (pv 2) pe_int (fun _ _ => rfl)) (pv 1)))))) (pss_cons (ps_set (i := 3) sc_refuse_unmarked_names.nd rfl (Or.inl rfl) (pe_ix ix_tup0 (pv 2) pe_int (fun _ _ => rfl)))
      (pss_one ps_never)) pss_nil)))), ?_⟩
    refine ⟨_, rfl, a, rfl, ⟨_, SqL.of ha⟩, for_list (K := K) (a := a) (xs := ps.map V.ref) (fun i σ H2 => ∃ v2 v3, σ = [some (.ref a), some (.ref d), v2, v3] ∧ Same H H2)
      ⟨none, none, rfl, Same.refl H⟩ (fun i σ H2 _ ⟨_, _, _, s2⟩ => s2.seq (SqL.of ha)) ?_ (fun σ H2 ⟨_, _, _, s2⟩ => k H2 s2)⟩
    rintro i y σ H2 hi ⟨v2, v3, rfl, s2⟩
    have hil : i < rs.length := by
      have := (List.getElem?_eq_some_iff.mp hi).1
      rw [List.length_map] at this
      omega
    have hri : rs[i]? = some rs[i] := List.getElem?_eq_getElem hil
    obtain ⟨q, e1, e2, hq⟩ := hget i rs[i] hri
    rw [e2] at hi
    cases hi
    refine ⟨_, rfl, q, rs[i], rfl, s2 _ _ hq, fun H3 s3 => ⟨_, rfl, ?_⟩⟩
    cases el : rs[i].lead with
    | none => exact iteF' rfl (iteF ⟨_, _, rfl, s2.trans s3⟩)
    | some x =>
      refine iteT' rfl ?_
      obtain ⟨t, ht, _⟩ := hv.at hri el
      refine ⟨_, rfl, q, _, 1, _, rfl, rfl, SqT.of (s3 _ _ (s2 _ _ hq)), atI_nat (j := 1) (lead_tv el), _, rfl, d, _, rfl, DGet.k (k := (Sum.inr x : Key)) (s3 _ _ (s2 _ _ hd)), _, rfl, ?_⟩
      rw [hval x, ht]
      exact iteF ⟨_, _, rfl, s2.trans s3⟩
noncomputable abbrev s_checked_marks : Stmt := top 19
theorem sc_checked_marks : FnScope ["rows", "places"] ["rows"] (defScope s_checked_marks) := ⟨rfl, rfl, rfl, by decide +kernel, rfl, by decide +kernel, by decide +kernel⟩
theorem ok_checked_marks (D : Def K mg "checked_marks" s_checked_marks ["rows"]) (T : Tx P w K mg) (h_refuse_other_tuples : Has P w K mg base 3 "refuse_other_tuples" ["rows"] (spRows fun _ _ v _ => v = .non))
    (h_mark_places : Has P w K mg base 1 "mark_places" ["rows"] spMarks) (h_refuse_unmarked_names : Has P w K mg base 2 "refuse_unmarked_names" ["rows", "places"] spUnmarked) :
    Has P w K mg base 4 "checked_marks" ["rows"] spMarks := by
  refine D.has sc_checked_marks (fun vs H Q E h => ?_) (fun f cdv A outer s H vs Q E hr h => ?_)
  · obtain ⟨a, rs, rfl, _⟩ := h
    rfl
  · obtain ⟨a, rs, rfl, hR, hv, k⟩ := h
    refine ⟨_, (pss_cons (ps_expr (pe_has h_refuse_other_tuples hr rfl (pa_cons (pv 0) pa_nil)))
      (pss_cons (ps_set (i := 1) sc_checked_marks.nd rfl (Or.inl rfl) (pe_has h_mark_places hr rfl (pa_cons (pv 0) pa_nil)))
      (pss_cons (ps_expr (pe_has h_refuse_unmarked_names hr rfl (pa_cons (pv 0) (pa_cons (pv 1) pa_nil))))
      (pss_one (ps_ret (pv 1)))))), ?_⟩
    refine ⟨_, rfl, a, rs, rfl, hR, hv.len, hv.nice, fun v H1 s1 _ => ?_⟩
    refine ⟨_, rfl, a, rs, rfl, hR.same s1, hv, fun d H2 s2 hM => ?_⟩
    refine ⟨_, rfl, _, rfl, a, d, rs, rfl, (hR.same s1).same s2, hM, hv, fun H3 s3 => ?_⟩
    exact ⟨_, rfl, k d H3 ((s1.trans s2).trans s3) (hM.same s3)⟩
end
end SC

namespace SC
open PySem PySem.Spec PyProof.Rows L2
theorem dV {a b : Int} : decide (V.int a = V.int b) = decide (a = b) := by
  by_cases h : a = b
  · subst h; simp
  · rw [decide_eq_false h]
    exact decide_eq_false fun z => h (by injection z)
theorem ixN_nat {n k : Nat} (h : k < n) : ixN n (k : Int) = some k := by
  unfold ixN
  rw [if_pos (by omega), if_pos (by omega)]
  simp
theorem at_int {n i : Nat} {f : Nat → Int} (h : i < n) : atI (intsL n f) (i : Int) = some (.int (f i)) := atI_nat (intsL_at h)
section
variable {P : Program} {w : World} {K : PySem.W.Frag} {mg : Str → Option Value} {base : Heap}
noncomputable abbrev s_is_near_gap : Stmt := top 24
theorem sc_is_near_gap : FnScope ["gap"] ["gap"] (defScope s_is_near_gap) := ⟨rfl, rfl, rfl, by decide +kernel, rfl, by decide +kernel, by decide +kernel⟩
noncomputable def spNear : Sp := fun vs H Q _ => Ex1_2 (fun (g : Int) => vs = [.int g]) (fun (g : Int) => ∀ H', Same H H' → Q (.bl (SM.near g)) H')
theorem ok_is_near_gap (D : Def K mg "is_near_gap" s_is_near_gap ["gap"]) (T : Tx P w K mg) : Has P w K mg base 1 "is_near_gap" ["gap"] spNear := by
  refine D.has sc_is_near_gap (fun vs H Q E h => ?_) (fun f cdv A outer s H vs Q E hr h => ?_)
  · obtain ⟨g, rfl, _⟩ := h
    rfl
  · obtain ⟨g, rfl, k⟩ := h
    refine ⟨_, (pss_one (ps_ret (pe_and (pe_cmpR op_le (pe_gI rfl T.c_LEAST_NEAR_GAP) (pv 0) (nomark _)) (pe_one (pe_cmpR op_le (pv 0) (pe_gI rfl T.c_MOST_NEAR_GAP) (nomark _)))))), ?_⟩
    refine ⟨_, rfl, _, _, rfl, rfl, _, rfl, ?_⟩
    have q := k H (Same.refl H)
    unfold SM.near at q
    cases e : decide (-8 ≤ g) with
    | false =>
      rw [e, Bool.false_and] at q
      exact iteF q
    | true =>
      rw [e, Bool.true_and] at q
      exact iteT ⟨_, rfl, _, _, rfl, rfl, q⟩
end
end SC

namespace SC
open PySem PySem.Spec PyProof.Rows L2
inductive Pr where
  | row (r : Rw) | pre (w : Bool) (i : Int)
noncomputable def wordOf (w : Bool) : Str := if w = true then "when" else "jump"
noncomputable def Pr.tv : Pr → List V
  | .row r => r.tv
  | .pre w i => [.str (wordOf w), .int i]
noncomputable def But (l : Addr) (H H' : Hp) : Prop := ∀ b o, H b = some o → b ≠ l → H' b = some o
theorem But.same {l : Addr} {H0 H H' : Hp} (b : But l H H') (s : Same H0 H) (hl : H0 l = none) : Same H0 H' := fun c o e => b c o (s c o e) (ne_of_none e hl)
theorem paired_map {α β γ : Type} {F : α → β → Prop} {G : α → γ → Prop} {g : β → γ} (h : ∀ a b, F a b → G a (g b)) {l : List α} {m : List β} (p : Paired F l m) : Paired G l (m.map g) := by
  induction p with
  | nil => exact .nil
  | cons r _ ih => exact .cons (h _ _ r) ih
theorem paired_append {α β : Type} {F : α → β → Prop} {l l' : List α} {m m' : List β} (p : Paired F l m) (s : Paired F l' m') : Paired F (l ++ l') (m ++ m') := by
  induction p with
  | nil => exact s
  | cons r _ ih => exact .cons r ih
end SC

namespace SC
open PySem PySem.Spec PyProof.Rows L2
theorem paired_rep {α β : Type} {F : α → β → Prop} {a : α} {b : β} (h : F a b) : ∀ n, Paired F (List.replicate n a) (List.replicate n b)
  | 0 => .nil
  | n + 1 => .cons h (paired_rep h n)
theorem flat_one {α : Type} (x : α) : ∀ n, (List.replicate n [x]).flatten = List.replicate n x
  | 0 => rfl
  | n + 1 => by rw [List.replicate_succ, List.flatten_cons, flat_one x n]; rfl
theorem at2 {α : Type} {a b : α} {i : Int} (h0 : 0 ≤ i) (h1 : i < 2) : atI [a, b] i = some (if i = 0 then a else b) := by
  rcases (show i = 0 ∨ i = 1 by omega) with z | z <;> subst z <;> rfl
section
variable {P : Program} {w : World} {K : PySem.W.Frag} {mg : Str → Option Value} {base : Heap}
end
end SC

namespace SC
open PySem PySem.Spec PyProof.Rows L2
theorem seq_cut {t u : TS} {D : Ends} {σ : L2.St} {H : Hp} (J : L2.St → Hp → Prop) (h1 : ∀ D' : Ends, (∀ σ' H', J σ' H' → D'.nx σ' H') → t D' σ H) (h2 : ∀ σ' H', J σ' H' → u D σ' H') : tSeq t u D σ H := h1 _ h2
theorem for_rng {n : Nat} {g : TG} {tb : TS} {D : Ends} {σ : L2.St} {H : Hp} (Pv : Nat → L2.St → Hp → Prop) (h0 : Pv 0 σ H)
    (hs : ∀ i σ H, i < n → Pv i σ H → g (.int (i : Nat)) σ H fun σ2 H2 => tb { D with nx := Pv (i + 1), ct := Pv (i + 1), bk := D.nx } σ2 H2) (hd : ∀ σ H, Pv n σ H → D.nx σ H) :
    ∃ W : Nat → Nat → L2.St → Hp → Prop, (∃ m, W 0 m σ H) ∧ ∀ i m σ H, W i m σ H →
      ((Itr 0 n).stop i H ∧ D.nx σ H) ∨ ((Itr 0 n).go i H ∧ ∃ N : L2.St → Hp → Prop, (∀ σ' H', N σ' H' → ∃ m', m' < m ∧ W (i + 1) m' σ' H') ∧ ∀ x H', (Itr 0 n).yld i H x H' → g x σ H' fun σ2 H2 => tb { D with nx := N, ct := N, bk := D.nx } σ2 H2) :=
  for_range Pv h0 (fun i σ H hi p => by rw [Int.zero_add]; exact hs i σ H hi p) hd
section
variable {P : Program} {w : World} {K : PySem.W.Frag} {mg : Str → Option Value} {base : Heap}
end
end SC

set_option maxHeartbeats 600000
namespace SC
open PySem PySem.Spec PyProof.Rows L2
theorem kit_ib (K : PySem.W.Frag) : PySem.W.kitOne K (.type "int") (.type "bool") = some false := rfl
theorem kit_is (K : PySem.W.Frag) : PySem.W.kitOne K (.type "int") (.type "str") = some false := rfl
theorem kit_ss (K : PySem.W.Frag) : PySem.W.kitOne K (.type "str") (.type "str") = some true := rfl
theorem kit_sb (K : PySem.W.Frag) : PySem.W.kitOne K (.type "str") (.type "bool") = some false := rfl
theorem kit_ll (K : PySem.W.Frag) : PySem.W.kitOne K (.type "list") (.type "list") = some true := rfl
theorem kit_tt (K : PySem.W.Frag) : PySem.W.kitOne K (.type "tuple") (.type "tuple") = some true := rfl
section
variable {P : Program} {w : World} {K : PySem.W.Frag} {mg : Str → Option Value} {base : Heap}
end
end SC

set_option maxHeartbeats 600000
namespace SC
open PySem PySem.Spec PyProof.Rows L2
section
variable {P : Program} {w : World} {K : PySem.W.Frag} {mg : Str → Option Value} {base : Heap}
end
end SC

set_option maxHeartbeats 1000000
namespace SC
open PySem PySem.Spec PyProof.Rows L2
theorem tv_part {r : Rw} {j : Nat} {v : V} (h : r.tv[j]? = some v) : (∃ x, v = .str x) ∨ (∃ i, v = .int i) := by
  have m := List.mem_of_getElem? h
  cases r <;> simp [Rw.tv] at m <;> first | (rcases m with z | z <;> subst z) | subst m
  all_goals first | exact .inl ⟨_, rfl⟩ | exact .inr ⟨_, rfl⟩
theorem dnot {a b : V} (h : a = b) : (!decide (a = b)) = false := by rw [decide_eq_true h]; rfl
section
variable {P : Program} {w : World} {K : PySem.W.Frag} {mg : Str → Option Value} {base : Heap}
noncomputable abbrev s__law_same_rows : Stmt := top 49
theorem sc__law_same_rows : FnScope ["_law_found", "_law_rows", "_law_k", "_law_j"] ["_law_found", "_law_rows"] (defScope s__law_same_rows) := ⟨rfl, rfl, rfl, by decide +kernel, rfl, by decide +kernel, by decide +kernel⟩
noncomputable def spSame : Sp := fun vs H Q _ => Ex3_5 (fun (f a : Addr) (rs : List Rw) => vs = [.ref f, .ref a]) (fun (f a : Addr) (rs : List Rw) => RowsAt H f rs) (fun (f a : Addr) (rs : List Rw) => RowsAt H a rs) (fun (f a : Addr) (rs : List Rw) => rs.length ≤ 300) (fun (f a : Addr) (rs : List Rw) => ∀ H', Same H H' → Q (.bl true) H')
theorem ok__law_same_rows (D : Def K mg "_law_same_rows" s__law_same_rows ["_law_found", "_law_rows"]) (T : Tx P w K mg) : Has P w K mg base 1 "_law_same_rows" ["_law_found", "_law_rows"] spSame := by
  refine D.has sc__law_same_rows (fun vs H Q E h => ?_) (fun fa cdv A outer s H vs Q E hr h => ?_)
  · obtain ⟨f, a, rs, rfl, _⟩ := h
    rfl
  · obtain ⟨f, a, rs, rfl, hF, hR, hn, k⟩ := h
    obtain ⟨qs, hf, hlf, hgf⟩ := hF.get
    obtain ⟨ps, ha, hla, hga⟩ := hR.get
    have lf : (qs.map V.ref).length = rs.length := by rw [List.length_map]; exact hlf
    have la : (ps.map V.ref).length = rs.length := by rw [List.length_map]; exact hla
    refine ⟨_, (pss_cons (ps_if (PW.pt (pw_or (pt_not (pt_val (pe_callB call_isi (by rfl) T.b_isinstance bt_isinstance (pa_cons (pv 0) (pa_cons (pe_bty (by rfl) T.b_list bt_list) pa_nil))))) (pw_or1 (pt_cmpR op_ne (pe_callB call_len_seq0 (by rfl) T.b_len bt_len (pa_cons (pv 0) pa_nil)) (pe_callB call_len_seq0 (by rfl) T.b_len bt_len (pa_cons (pv 1) pa_nil)) (nomark _))))) (pss_one (ps_ret pe_bl)) pss_nil)
      (pss_cons (ps_for PassesOwn.never rfl (pi_range1 (by rfl) T.b_range (pa_cons (pe_callB call_len_seq0 (by rfl) T.b_len bt_len (pa_cons (pv 1) pa_nil)) pa_nil)) (pg_name (i := 2) sc__law_same_rows.nd rfl (Or.inl rfl))
        (pss_cons (ps_if (PW.pt (pw_or (pt_not (pt_val (pe_callB call_isi (by rfl) T.b_isinstance bt_isinstance (pa_cons (pe_ix ix_list0 (pv 0) (pv 2) (fun _ _ => rfl)) (pa_cons (pe_bty (by rfl) T.b_tuple bt_tuple) pa_nil))))) (pw_or1 (pt_cmpR op_ne (pe_callB call_len_seq0 (by rfl) T.b_len bt_len (pa_cons (pe_ix ix_list0 (pv 0) (pv 2) (fun _ _ => rfl)) pa_nil)) (pe_callB call_len_seq0 (by rfl) T.b_len bt_len (pa_cons (pe_ix ix_list0 (pv 1) (pv 2) (fun _ _ => rfl)) pa_nil)) (nomark _))))) (pss_one (ps_ret pe_bl)) pss_nil)
      (pss_one (ps_for PassesOwn.never rfl (pi_range1 (by rfl) T.b_range (pa_cons (pe_callB call_len_seq0 (by rfl) T.b_len bt_len (pa_cons (pe_ix ix_list0 (pv 1) (pv 2) (fun _ _ => rfl)) pa_nil)) pa_nil)) (pg_name (i := 3) sc__law_same_rows.nd rfl (Or.inl rfl))
        (pss_cons (ps_if (pt_cmpR op_ne (pe_callB call_isi (by rfl) T.b_isinstance bt_isinstance (pa_cons (pe_ix ix_tup0 (pe_ix ix_list0 (pv 0) (pv 2) (fun _ _ => rfl)) (pv 3) (fun _ _ => rfl)) (pa_cons (pe_bty (by rfl) T.b_str bt_str) pa_nil))) (pe_callB call_isi (by rfl) T.b_isinstance bt_isinstance (pa_cons (pe_ix ix_tup0 (pe_ix ix_list0 (pv 1) (pv 2) (fun _ _ => rfl)) (pv 3) (fun _ _ => rfl)) (pa_cons (pe_bty (by rfl) T.b_str bt_str) pa_nil))) (nomark _)) (pss_one (ps_ret pe_bl)) pss_nil)
      (pss_one (ps_if (PW.pt (pw_or (pt_val (pe_callB call_isi (by rfl) T.b_isinstance bt_isinstance (pa_cons (pe_ix ix_tup0 (pe_ix ix_list0 (pv 0) (pv 2) (fun _ _ => rfl)) (pv 3) (fun _ _ => rfl)) (pa_cons (pe_bty (by rfl) T.b_bool bt_bool) pa_nil)))) (pw_or1 (pt_cmpR op_ne (pe_ix ix_tup0 (pe_ix ix_list0 (pv 0) (pv 2) (fun _ _ => rfl)) (pv 3) (fun _ _ => rfl)) (pe_ix ix_tup0 (pe_ix ix_list0 (pv 1) (pv 2) (fun _ _ => rfl)) (pv 3) (fun _ _ => rfl)) (nomark _))))) (pss_one (ps_ret pe_bl)) pss_nil)))))))
      (pss_one (ps_ret pe_bl)))), ?_⟩
    refine ⟨_, rfl, _, _, _, _, rfl, .lst hf, kit_ll K, _, rfl, iteF' rfl ?_⟩
    refine ⟨_, rfl, f, _, rfl, .inl (SqL.of hf), _, rfl, a, _, rfl, .inl (SqL.of ha), rfl, _, rfl, iteF' (by rw [lf, la]; exact dnot rfl) ?_⟩
    refine ⟨_, rfl, a, _, rfl, .inl (SqL.of ha), _, rfl, (by rw [la]; omega), (by rw [la]; omega), ?_⟩
    rw [la, show ((rs.length : Nat) : Int).toNat = rs.length from rfl]
    refine for_rng (fun i σ H2 => ∃ v2 v3, σ = [some (.ref f), some (.ref a), v2, v3] ∧ Same H H2) ⟨_, _, rfl, Same.refl H⟩ ?_ (fun σ H2 ⟨_, _, _, s2⟩ => k H2 s2)
    rintro i σ H2 hi ⟨v2, v3, rfl, s2⟩
    have hri : rs[i]? = some rs[i] := List.getElem?_eq_getElem hi
    obtain ⟨q, _, e2, hq⟩ := hgf i rs[i] hri
    obtain ⟨p, _, e3, hp⟩ := hga i rs[i] hri
    generalize rs[i] = r at hq hp
    have fq := s2 _ _ hq
    have fp := s2 _ _ hp
    have ff := s2 _ _ hf
    have fa' := s2 _ _ ha
    refine ⟨_, rfl, _, rfl, f, _, i, _, rfl, rfl, SqL.of ff, atI_nat e2, _, _, _, _, rfl, .tup fq, kit_tt K, _, rfl, iteF' rfl ?_⟩
    refine ⟨_, rfl, _, rfl, f, _, i, _, rfl, rfl, SqL.of ff, atI_nat e2, q, _, rfl, .inr (SqT.of fq), _, rfl, _, rfl, a, _, i, _, rfl, rfl, SqL.of fa', atI_nat e3, p, _, rfl, .inr (SqT.of fp), rfl, _, rfl, iteF' (dnot rfl) ?_⟩
    have hl2 := tv_len r
    refine ⟨_, rfl, _, rfl, a, _, i, _, rfl, rfl, SqL.of fa', atI_nat e3, p, _, rfl, .inr (SqT.of fp), _, rfl, (by omega), (by omega), ?_⟩
    rw [show ((r.tv.length : Nat) : Int).toNat = r.tv.length from rfl]
    refine for_rng (fun j σ H3 => ∃ v3, σ = [some (.ref f), some (.ref a), some (.int (i : Nat)), v3] ∧ Same H H3) ⟨_, rfl, s2⟩ ?_ (fun σ H3 ⟨_, e, s3⟩ => ⟨_, _, e, s3⟩)
    rintro j σ H3 hj ⟨v3, rfl, s3⟩
    have fq := s3 _ _ hq
    have fp := s3 _ _ hp
    have ff := s3 _ _ hf
    have fa' := s3 _ _ ha
    have ej : r.tv[j]? = some r.tv[j] := List.getElem?_eq_getElem hj
    rcases tv_part ej with ⟨x, ex⟩ | ⟨x, ex⟩
    · rw [ex] at ej
      refine ⟨_, rfl, _, rfl, f, _, i, _, rfl, rfl, SqL.of ff, atI_nat e2, _, rfl, q, _, j, _, rfl, rfl, SqT.of fq, atI_nat ej, _, _, _, _, rfl, .str x, kit_ss K, ?_⟩
      refine ⟨_, rfl, _, rfl, a, _, i, _, rfl, rfl, SqL.of fa', atI_nat e3, _, rfl, p, _, j, _, rfl, rfl, SqT.of fp, atI_nat ej, _, _, _, _, rfl, .str x, kit_ss K, rfl, _, rfl, iteF' (dnot rfl) ?_⟩
      refine ⟨_, rfl, _, rfl, f, _, i, _, rfl, rfl, SqL.of ff, atI_nat e2, _, rfl, q, _, j, _, rfl, rfl, SqT.of fq, atI_nat ej, _, _, _, _, rfl, .str x, kit_sb K, _, rfl, iteF' rfl ?_⟩
      refine ⟨_, rfl, _, rfl, f, _, i, _, rfl, rfl, SqL.of ff, atI_nat e2, _, rfl, q, _, j, _, rfl, rfl, SqT.of fq, atI_nat ej, ?_⟩
      exact ⟨_, rfl, _, rfl, a, _, i, _, rfl, rfl, SqL.of fa', atI_nat e3, _, rfl, p, _, j, _, rfl, rfl, SqT.of fp, atI_nat ej, rfl, _, rfl, iteF' (dnot rfl) ⟨_, rfl, s3⟩⟩
    · rw [ex] at ej
      refine ⟨_, rfl, _, rfl, f, _, i, _, rfl, rfl, SqL.of ff, atI_nat e2, _, rfl, q, _, j, _, rfl, rfl, SqT.of fq, atI_nat ej, _, _, _, _, rfl, .int x, kit_is K, ?_⟩
      refine ⟨_, rfl, _, rfl, a, _, i, _, rfl, rfl, SqL.of fa', atI_nat e3, _, rfl, p, _, j, _, rfl, rfl, SqT.of fp, atI_nat ej, _, _, _, _, rfl, .int x, kit_is K, rfl, _, rfl, iteF' (dnot rfl) ?_⟩
      refine ⟨_, rfl, _, rfl, f, _, i, _, rfl, rfl, SqL.of ff, atI_nat e2, _, rfl, q, _, j, _, rfl, rfl, SqT.of fq, atI_nat ej, _, _, _, _, rfl, .int x, kit_ib K, _, rfl, iteF' rfl ?_⟩
      refine ⟨_, rfl, _, rfl, f, _, i, _, rfl, rfl, SqL.of ff, atI_nat e2, _, rfl, q, _, j, _, rfl, rfl, SqT.of fq, atI_nat ej, ?_⟩
      exact ⟨_, rfl, _, rfl, a, _, i, _, rfl, rfl, SqL.of fa', atI_nat e3, _, rfl, p, _, j, _, rfl, rfl, SqT.of fp, atI_nat ej, rfl, _, rfl, iteF' (dnot rfl) ⟨_, rfl, s3⟩⟩
end
theorem cut_all {ns : List Int} (h : ns.length ≤ 63) : cutV (ns.map V.int) none (some (1000 : Int)) = ns.map V.int := by
  unfold cutV
  rw [HT.sIx_none, List.drop_zero, show HT.sIx (ns.map V.int).length (ns.map V.int).length (some (1000 : Int)) = min 1000 (ns.map V.int).length from HT.sIx_nat _ _ 1000, Nat.sub_zero, List.length_map]
  exact List.take_of_length_le (by rw [List.length_map]; omega)
noncomputable def spLaw (K : PySem.W.Frag) : Sp := fun vs H Q _ => Ex2_4 (fun (a : Addr) (ns : List Int) => vs = [.ref a]) (fun (a : Addr) (ns : List Int) => SqL K H a (ns.map V.int)) (fun (a : Addr) (ns : List Int) => ns.length ≤ 63) (fun (a : Addr) (ns : List Int) => ∀ H', Q (.bl true) H')
end SC

set_option maxHeartbeats 1000000
namespace L2
open PySem PySem.Spec PyProof.Rows
section
variable {X : Cx}
end
end L2
namespace SC
open PySem PySem.Spec PyProof.Rows L2
noncomputable def Rw.cells (r : Rw) (f : Bool) (g : Int) : List Int := match r with
  | .mark _ => []
  | .grow n => [1, n]
  | .tell => [2]
  | .halt => [3]
  | .jump _ => bif f then [5, g / 16, g % 16] else [4, g]
  | .whn _ => bif f then [7, g / 16, g % 16] else [6, g]
section
variable {P : Program} {w : World} {K : PySem.W.Frag} {mg : Str → Option Value} {base : Heap}
end
end SC

set_option maxHeartbeats 1000000
namespace SC
open PySem PySem.Spec PyProof.Rows L2
noncomputable def TrailAt (H : Hp) (t : Addr) (ps : List (Int × Int)) (ts : List Int) : Prop :=
  ∃ (l m : Addr) (qs : List Addr), H t = some (.tup [.ref l, .ref m]) ∧ H l = some (.lst (qs.map V.ref)) ∧ Paired (fun q (p : Int × Int) => H q = some (.tup [.int p.1, .int p.2])) qs ps ∧ H m = some (.lst (ts.map V.int))
section
variable {P : Program} {w : World} {K : PySem.W.Frag} {mg : Str → Option Value} {base : Heap}
end
end SC

set_option maxHeartbeats 1000000
namespace SC
open PySem PySem.Spec PyProof.Rows L2
structure WS where
  place : Nat
  num : Int
  trail : List (Nat × Int)
  told : List Int
noncomputable def runs (rs : List Rw) (steps : Nat) (s : WS) : Bool := decide (s.place < rs.length) && decide (s.trail.length < steps)
noncomputable def wrow (rs : List Rw) (s : WS) : Rw → WS
  | .mark _ => ⟨s.place + 1, s.num, s.trail, s.told⟩
  | .grow n => ⟨s.place + 1, s.num + n, s.trail ++ [(s.place, s.num + n)], s.told⟩
  | .tell => ⟨s.place + 1, s.num, s.trail ++ [(s.place, s.num)], s.told ++ [s.num]⟩
  | .halt => ⟨rs.length, s.num, s.trail ++ [(s.place, s.num)], s.told⟩
  | .jump x => ⟨(markAt rs x).getD 0, s.num, s.trail ++ [(s.place, s.num)], s.told⟩
  | .whn x => ⟨if 0 < s.num then (markAt rs x).getD 0 else s.place + 1, s.num, s.trail ++ [(s.place, s.num)], s.told⟩
noncomputable def wnext (rs : List Rw) (steps : Nat) (s : WS) : WS := bif runs rs steps s then (match rs[s.place]? with
  | some r => wrow rs s r
  | none => s) else s
noncomputable def wit (rs : List Rw) (steps : Nat) (s : WS) : Nat → WS
  | 0 => s
  | k + 1 => wnext rs steps (wit rs steps s k)
noncomputable def WReach (rs : List Rw) (steps : Nat) (s e : WS) : Prop := ∃ k, wit rs steps s k = e
noncomputable def WEnds (rs : List Rw) (steps : Nat) (s e : WS) : Prop := WReach rs steps s e ∧ runs rs steps e = false
theorem WReach.refl {rs : List Rw} {steps : Nat} {s : WS} : WReach rs steps s s := ⟨0, rfl⟩
theorem WReach.next {rs : List Rw} {steps : Nat} {s e : WS} {r : Rw} (h : WReach rs steps s e) (hr : runs rs steps e = true) (e1 : rs[e.place]? = some r) : WReach rs steps s (wrow rs e r) := by
  obtain ⟨k, rfl⟩ := h
  refine ⟨k + 1, ?_⟩
  show wnext rs steps _ = _
  unfold wnext
  rw [hr, e1]
  rfl
noncomputable def WOk (steps : Nat) (s : WS) : Prop := s.told.length ≤ s.trail.length ∧ s.trail.length ≤ steps
theorem WOk.next {rs : List Rw} {steps : Nat} {s : WS} (h : WOk steps s) (hr : runs rs steps s = true) (r : Rw) : WOk steps (wrow rs s r) := by
  unfold runs at hr
  rw [Bool.and_eq_true] at hr
  have h2 := of_decide_eq_true hr.2
  obtain ⟨a, b⟩ := h
  cases r <;> refine ⟨?_, ?_⟩ <;> simp only [wrow, List.length_append, List.length_singleton] <;> omega
structure WAt (H H5 : Hp) (lt lo : Addr) (B : Nat → Int) (tr : List (Nat × Int)) (to : List Int) : Prop where
  same : Same H H5
  fr1 : H lt = none
  fr2 : H lo = none
  ne : lt ≠ lo
  tl : ∃ qs : List Addr, H5 lt = some (.lst (qs.map V.ref)) ∧ Paired (fun q (p : Nat × Int) => H5 q = some (.tup [.int (B p.1), .int p.2])) qs tr
  tt : H5 lo = some (.lst (to.map V.int))
theorem WAt.same2 {H H5 H6 : Hp} {lt lo : Addr} {B : Nat → Int} {tr : List (Nat × Int)} {to : List Int} (h : WAt H H5 lt lo B tr to) (s : Same H5 H6) : WAt H H6 lt lo B tr to := by
  obtain ⟨qs, h1, h2⟩ := h.tl
  exact ⟨h.same.trans s, h.fr1, h.fr2, h.ne, ⟨qs, s _ _ h1, Paired.mapP h2 fun q p e => s _ _ e⟩, s _ _ h.tt⟩
theorem WAt.tell {H H5 : Hp} {lt lo : Addr} {B : Nat → Int} {tr : List (Nat × Int)} {to : List Int} (h : WAt H H5 lt lo B tr to) (n : Int) : WAt H (upd H5 lo (.lst (to.map V.int ++ [.int n]))) lt lo B tr (to ++ [n]) := by
  obtain ⟨qs, h1, h2⟩ := h.tl
  refine ⟨h.same.upd h.fr2, h.fr1, h.fr2, h.ne, ⟨qs, by rw [upd_ne h.ne]; exact h1, Paired.mapP h2 fun q p e => ?_⟩, ?_⟩
  · have : q ≠ lo := fun z => by
      subst z
      rw [h.tt] at e
      cases e
    rw [upd_ne this]
    exact e
  · rw [upd_same, List.map_append]
    rfl
theorem paired_snoc {α β : Type} {F : α → β → Prop} {l : List α} {m : List β} {a : α} {b : β} (p : Paired F l m) (h : F a b) : Paired F (l ++ [a]) (m ++ [b]) := paired_append p (.cons h .nil)
theorem WAt.done {H H5 : Hp} {lt lo : Addr} {B : Nat → Int} {tr : List (Nat × Int)} {to : List Int} (h : WAt H H5 lt lo B tr to) (p : Nat) (n : Int) {q : Addr} (hq : H5 q = none) :
    ∃ qs : List Addr, upd H5 q (.tup [.int (B p), .int n]) lt = some (.lst (qs.map V.ref)) ∧ qs.length = tr.length ∧ WAt H (upd (upd H5 q (.tup [.int (B p), .int n])) lt (.lst (qs.map V.ref ++ [.ref q]))) lt lo B (tr ++ [(p, n)]) to := by
  obtain ⟨qs, h1, h2⟩ := h.tl
  have s := (Same.refl H5).upd (o := .tup [.int (B p), .int n]) hq
  refine ⟨qs, s _ _ h1, Paired.length h2, (h.same.trans s).upd h.fr1, h.fr1, h.fr2, h.ne, ⟨qs ++ [q], by rw [upd_same, List.map_append]; rfl, ?_⟩, by rw [upd_ne (Ne.symm h.ne)]; exact s _ _ h.tt⟩
  have nl : ∀ q', (∃ xs, H5 q' = some (.tup xs)) → q' ≠ lt := fun q' ⟨xs, e⟩ z => by
    subst z
    rw [h1] at e
    cases e
  refine paired_snoc (Paired.mapP h2 fun q' p' e => ?_) ?_
  · rw [upd_ne (nl q' ⟨_, e⟩)]
    exact s _ _ e
  · have : q ≠ lt := fun z => by
      subst z
      rw [h1] at hq
      cases hq
    rw [upd_ne this, upd_same]
theorem WAt.pair {H H5 : Hp} {lt lo : Addr} {B : Nat → Int} {tr : List (Nat × Int)} {to : List Int} (h : WAt H H5 lt lo B tr to) {t : Addr} (ht : H5 t = none) : TrailAt (upd H5 t (.tup [.ref lt, .ref lo])) t (tr.map fun p => (B p.1, p.2)) to := by
  obtain ⟨qs, h1, h2⟩ := h.tl
  have s := (Same.refl H5).upd (o := .tup [.ref lt, .ref lo]) ht
  refine ⟨lt, lo, qs, upd_same, s _ _ h1, ?_, s _ _ h.tt⟩
  clear h1 h
  induction h2 with
  | nil => exact .nil
  | cons r t ih => exact .cons (s _ _ r) ih
end SC

set_option maxHeartbeats 1000000
namespace SC
open PySem PySem.Spec PyProof.Rows L2
section
variable {P : Program} {w : World} {K : PySem.W.Frag} {mg : Str → Option Value} {base : Heap}
noncomputable abbrev s__law_at : Stmt := top 46
theorem sc__law_at : FnScope ["_law_script", "_law_k"] ["_law_script", "_law_k"] (defScope s__law_at) := ⟨rfl, rfl, rfl, by decide +kernel, rfl, by decide +kernel, by decide +kernel⟩
noncomputable def spAt : Sp := fun vs H Q _ => Ex3_3 (fun (c : Addr) (ns : List Int) (i : Nat) => vs = [.ref c, .int (i : Nat)]) (fun (c : Addr) (ns : List Int) (i : Nat) => H c = some (.lst (ns.map V.int))) (fun (c : Addr) (ns : List Int) (i : Nat) => ∀ H', Same H H' → Q (.int (ns.getD i 0)) H')
theorem ok__law_at (D : Def K mg "_law_at" s__law_at ["_law_script", "_law_k"]) (T : Tx P w K mg) : Has P w K mg base 1 "_law_at" ["_law_script", "_law_k"] spAt := by
  refine D.has sc__law_at (fun vs H Q E h => ?_) (fun f cdv A outer s H vs Q E hr h => ?_)
  · obtain ⟨c, ns, i, rfl, _⟩ := h
    rfl
  · obtain ⟨c, ns, i, rfl, hc, k⟩ := h
    refine ⟨_, (pss_cons (ps_if (pt_cmpR op_lt (pv 1) (pe_callB call_len_seq0 (by rfl) T.b_len bt_len (pa_cons (pv 0) pa_nil)) (nomark _)) (pss_one (ps_ret (pe_ix ix_list0 (pv 0) (pv 1) (fun _ _ => rfl)))) pss_nil)
      (pss_one (ps_ret pe_int))), ?_⟩
    refine ⟨_, rfl, _, rfl, c, _, rfl, .inl (SqL.of hc), _, _, rfl, rfl, _, rfl, ite2 (fun h1 => ?_) (fun h1 => ?_)⟩
    · have h1 := of_decide_eq_true h1
      rw [List.length_map] at h1
      have hi : i < ns.length := by omega
      refine ⟨_, rfl, _, rfl, c, _, i, _, rfl, rfl, SqL.of hc, atI_nat (by rw [List.getElem?_map, List.getElem?_eq_getElem hi]; rfl), ?_⟩
      have q := k H (Same.refl H)
      rw [show ns.getD i 0 = ns[i] by simp [List.getD, hi]] at q
      exact q
    · have h1 : ¬ (((i : Nat) : Int) < (((ns.map V.int).length : Nat) : Int)) := fun z => h1 (decide_eq_true z)
      rw [List.length_map] at h1
      have q := k H (Same.refl H)
      rw [show ns.getD i 0 = 0 by rw [List.getD, List.getElem?_eq_none (by omega)]; rfl] at q
      exact q
end
noncomputable def spWRows : Sp := fun vs H Q _ => ∃ (a : Addr) (rs : List Rw) (n : Int) (steps : Nat), vs = [.ref a, .int n, .int (steps : Nat)] ∧ RowsAt H a rs ∧ Valid Nice rs ∧ steps ≤ 600 ∧
  ∀ t H' e, H t = none → Same H H' → WEnds rs steps ⟨0, n, [], []⟩ e → WOk steps e → TrailAt H' t (e.trail.map fun p => ((p.1 : Nat), p.2)) e.told → Q (.ref t) H'
end SC

set_option maxHeartbeats 1000000
namespace SC
open PySem PySem.Spec PyProof.Rows L2
inductive Cr where
  | grow (n : Int) | tell | jump (t : Nat) | whn (t : Nat) | halt
  deriving DecidableEq
noncomputable def nonMark : Rw → Bool
  | .mark _ => false
  | _ => true
noncomputable def cnt (rs : List Rw) (i : Nat) : Nat := (rs.take i).countP nonMark
noncomputable def Cr.sz : Cr → Int
  | .grow _ => 2
  | .tell => 1
  | .jump _ => 2
  | .whn _ => 2
  | .halt => 1
noncomputable def Cr.lead : Cr → Option Nat
  | .jump t => some t
  | .whn t => some t
  | _ => none
noncomputable def Cr.cells (c : Cr) (f : Bool) (g : Int) : List Int := match c with
  | .grow n => [1, n]
  | .tell => [2]
  | .halt => [3]
  | .jump _ => bif f then [5, g / 16, g % 16] else [4, g]
  | .whn _ => bif f then [7, g / 16, g % 16] else [6, g]
noncomputable def szc (cs : List Cr) (i : Nat) : Int := ((cs[i]?).map Cr.sz).getD 0
noncomputable def ldc (cs : List Cr) (i : Nat) : Option Nat := (cs[i]?).bind Cr.lead
noncomputable def gapC (cs : List Cr) (far : Nat → Bool) (j : Nat) : Int := match ldc cs j with
  | some t => SM.bg (szc cs) far t - SM.bg (szc cs) far (j + 1)
  | none => 0
noncomputable def cellsRC (cs : List Cr) (far : Nat → Bool) (j : Nat) : List Int := match cs[j]? with
  | some c => c.cells (far j) (gapC cs far j)
  | none => []
noncomputable def cellsPC (cs : List Cr) (far : Nat → Bool) : Nat → List Int
  | 0 => []
  | j + 1 => cellsPC cs far j ++ cellsRC cs far j
end SC

set_option maxHeartbeats 2000000
namespace SC
open PySem PySem.Spec PyProof.Rows L2
noncomputable def isMk : Rw → Bool
  | .mark _ => true
  | _ => false
noncomputable def dp (rs : List Rw) (i : Nat) : Nat := i + ((rs.drop i).takeWhile isMk).length
theorem dp_end {rs : List Rw} {i : Nat} (h : rs.length ≤ i) : dp rs i = i := by unfold dp; rw [List.drop_of_length_le h]; rfl
theorem dp_at {rs : List Rw} {i : Nat} {r : Rw} (h : rs[i]? = some r) : dp rs i = if isMk r = true then dp rs (i + 1) else i := by
  obtain ⟨hi, e⟩ := List.getElem?_eq_some_iff.mp h
  unfold dp
  rw [List.drop_eq_getElem_cons hi, e, List.takeWhile_cons]
  cases isMk r with
  | true => simp; omega
  | false => simp
theorem dp_row {rs : List Rw} : ∀ (n i : Nat) {r : Rw}, rs.length - i = n → rs[dp rs i]? = some r → isMk r = false
  | 0, i, r, hn, h => by
    rw [dp_end (by omega), List.getElem?_eq_none (by omega)] at h
    cases h
  | n + 1, i, r, hn, h => by
    have e : rs[i]? = some rs[i] := List.getElem?_eq_getElem (by omega)
    have d := dp_at e
    cases q : isMk rs[i] with
    | true =>
      rw [q, if_pos rfl] at d
      rw [d] at h
      exact dp_row n (i + 1) (by omega) h
    | false =>
      rw [q, if_neg Bool.false_ne_true] at d
      rw [d, e] at h
      cases h
      exact q
theorem reach_dp {rs : List Rw} {steps : Nat} {s : WS} : ∀ (n : Nat) (e : WS), rs.length - e.place = n → e.place ≤ rs.length → e.trail.length < steps → WReach rs steps s e → WReach rs steps s ⟨dp rs e.place, e.num, e.trail, e.told⟩
  | 0, e, hn, hp, ht, h => by
    rw [dp_end (by omega)]
    exact h
  | n + 1, e, hn, hp, ht, h => by
    have hi : e.place < rs.length := by omega
    have er : rs[e.place]? = some rs[e.place] := List.getElem?_eq_getElem hi
    have d := dp_at er
    have hr : runs rs steps e = true := by unfold runs; rw [decide_eq_true hi, decide_eq_true ht]; rfl
    have nx := h.next hr er
    cases q : rs[e.place] with
    | mark x =>
      rw [q] at d nx
      have d : dp rs e.place = dp rs (e.place + 1) := d
      rw [d]
      exact reach_dp n (wrow rs e (.mark x)) (by show rs.length - (e.place + 1) = n; omega) hi ht nx
    | _ =>
      rw [q] at d
      have d : dp rs e.place = e.place := d
      rw [d]
      exact h
noncomputable def behind (rs : List Rw) (p : Nat) (n : Int) : Rw → Nat
  | .halt => rs.length
  | .jump x => (markAt rs x).getD 0
  | .whn x => if 0 < n then (markAt rs x).getD 0 else p + 1
  | _ => p + 1
theorem markAt_le' (rs : List Rw) (x : Str) : (markAt rs x).getD 0 ≤ rs.length := by
  cases e : markAt rs x with
  | none => exact Nat.zero_le _
  | some t => exact Nat.le_of_lt (List.getElem?_eq_some_iff.mp (markAt_some e).1).1
theorem behind_le {rs : List Rw} {p : Nat} {n : Int} {r : Rw} (h : p < rs.length) : behind rs p n r ≤ rs.length := by
  cases r with
  | halt => exact Nat.le_refl _
  | jump x => exact markAt_le' rs x
  | whn x =>
    show (if 0 < n then (markAt rs x).getD 0 else p + 1) ≤ _
    split
    · exact markAt_le' rs x
    · exact h
  | _ => exact h
theorem rep_ints (k : Nat) (v : Int) : (List.replicate k [V.int v]).flatten = intsL k fun _ => v := by
  induction k with
  | zero => rfl
  | succ k ih => rw [List.replicate_succ', List.flatten_append, ih, intsL_succ]; rfl
noncomputable def dq (rs : List Rw) (k i : Nat) : Int := if rs.length - k ≤ i then (dp rs i : Nat) else (rs.length : Nat)
theorem dq_zero (rs : List Rw) {i : Nat} (hi : i < rs.length + 1) : ((rs.length : Nat) : Int) = dq rs 0 i := by
  unfold dq
  split
  · rw [dp_end (by omega)]; omega
  · rfl
theorem dq_all (rs : List Rw) (i : Nat) : dq rs rs.length i = (dp rs i : Nat) := by
  unfold dq
  rw [if_pos (by omega)]
theorem dq_next {rs : List Rw} {k j : Nat} (hk : k < rs.length) (ej : j = rs.length - 1 - k) : dq rs k (j + 1) = (dp rs (j + 1) : Nat) := by unfold dq; rw [if_pos (by omega)]
theorem dq_set {rs : List Rw} {k j : Nat} {v : Int} (hk : k < rs.length) (ej : j = rs.length - 1 - k) (hv : v = (dp rs j : Nat)) (i : Nat) : setf (dq rs k) j v i = dq rs (k + 1) i := by
  unfold setf dq
  by_cases e : i = j
  · subst e
    rw [if_pos rfl, if_pos (by omega), hv]
  · rw [if_neg e]
    by_cases g : rs.length - k ≤ i
    · rw [if_pos g, if_pos (by omega)]
    · rw [if_neg g, if_neg (by omega)]
theorem nt_a (n : Nat) : (((n : Nat) : Int) - 1 - -1).toNat = n := by omega
theorem nt_b {n k j : Nat} (hk : k < n) (ej : j = n - 1 - k) : ((n : Nat) : Int) - 1 - (k : Int) = ((j : Nat) : Int) := by omega
theorem nt_c {n k j : Nat} (hk : k < n) (ej : j = n - 1 - k) : j < n := by omega
theorem nt_d (n : Nat) : (((n : Nat) : Int) + 1).toNat = n + 1 := by omega
section
variable {P : Program} {w : World} {K : PySem.W.Frag} {mg : Str → Option Value} {base : Heap}
noncomputable abbrev s_doing_places : Stmt := top 41
theorem sc_doing_places : FnScope ["rows", "places", "place"] ["rows"] (defScope s_doing_places) := ⟨rfl, rfl, rfl, by decide +kernel, rfl, by decide +kernel, by decide +kernel⟩
noncomputable def spDoing : Sp := fun vs H Q _ => Ex2_4 (fun (a : Addr) (rs : List Rw) => vs = [.ref a]) (fun (a : Addr) (rs : List Rw) => RowsAt H a rs) (fun (a : Addr) (rs : List Rw) => rs.length ≤ 300) (fun (a : Addr) (rs : List Rw) => ∀ l H', H l = none → Same H H' → H' l = some (.lst (intsL (rs.length + 1) fun i => (dp rs i : Nat))) → Q (.ref l) H')
theorem ok_doing_places (D : Def K mg "doing_places" s_doing_places ["rows"]) (T : Tx P w K mg) : Has P w K mg base 1 "doing_places" ["rows"] spDoing := by
  refine D.has sc_doing_places (fun vs H Q E h => ?_) (fun f cdv A outer s H vs Q E hr h => ?_)
  · obtain ⟨a, rs, rfl, _⟩ := h
    rfl
  · obtain ⟨a, rs, rfl, hR, hn, k⟩ := h
    obtain ⟨ps, ha, hlen, hget⟩ := hR.get
    have lp : (ps.map V.ref).length = rs.length := by rw [List.length_map]; exact hlen
    refine ⟨_, (pss_cons (ps_set (i := 1) sc_doing_places.nd rfl (Or.inl rfl) (pe_op op_rep (pe_lst (pa_cons (pe_callB call_len_seq0 (by rfl) T.b_len bt_len (pa_cons (pv 0) pa_nil)) pa_nil)) (pe_op op_add (pe_callB call_len_seq0 (by rfl) T.b_len bt_len (pa_cons (pv 0) pa_nil)) pe_int)))
      (pss_cons (ps_for PassesOwn.never rfl (pi_rangeD (by rfl) T.b_range (pa_cons (pe_op op_sub (pe_callB call_len_seq0 (by rfl) T.b_len bt_len (pa_cons (pv 0) pa_nil)) pe_int) (pa_un (pe_un un_neg pe_int) (pa_un (pe_un un_neg pe_int) pa_nil)))) (pg_name (i := 2) sc_doing_places.nd rfl (Or.inl rfl))
        (pss_one (ps_asg (pe_ifExp (pt_cmpR op_eq (pe_ix ix_tup0 (pe_ix ix_list0 (pv 0) (pv 2) (fun _ _ => rfl)) pe_int (fun _ _ => rfl)) pe_str (nomark _)) (pe_ix ix_list0 (pv 1) (pe_op op_add (pv 2) pe_int) (fun _ _ => rfl)) (pv 2)) (pg_sub (pv 1) (pv 2) set_list))))
      (pss_one (ps_ret (pv 1))))), ?_⟩
    refine ⟨_, rfl, a, _, rfl, .inl (SqL.of ha), s1000 (by show 1 ≤ 1000; decide), fun l0 h0 => ?_⟩
    have s0 : Same H (upd H l0 (.lst [.int ((ps.map V.ref).length : Nat)])) := (Same.refl H).upd h0
    refine ⟨_, rfl, a, _, rfl, .inl (SqL.of (s0 _ _ ha)), _, _, rfl, rfl, l0, _, _, rfl, rfl, upd_same, by rw [lp]; omega, by rw [lp]; omega, by rw [lp]; show 1 * _ ≤ _; have := s1000 (n := rs.length + 1) (by omega); omega, fun l hl => ?_⟩
    have s1 := s0.trans ((Same.refl _).upd (o := .lst (List.replicate (((ps.map V.ref).length : Nat) + 1 : Int).toNat [V.int ((ps.map V.ref).length : Nat)]).flatten) hl)
    have hl0 : H l = none := s0.free hl
    have e1 : (((ps.map V.ref).length : Nat) + 1 : Int).toNat = rs.length + 1 := by rw [lp]; exact nt_d _
    rw [e1, lp, rep_ints] at s1
    rw [e1, lp, rep_ints]
    have hl1 : upd (upd H l0 (.lst [.int (rs.length : Nat)])) l (.lst (intsL (rs.length + 1) fun _ => (rs.length : Nat))) l = some (.lst (intsL (rs.length + 1) fun _ => (rs.length : Nat))) := upd_same
    generalize upd (upd H l0 (.lst [.int (rs.length : Nat)])) l (.lst (intsL (rs.length + 1) fun _ => (rs.length : Nat))) = H1 at s1 hl1 ⊢
    refine ⟨_, rfl, a, _, rfl, .inl (SqL.of (s1 _ _ ha)), _, _, rfl, rfl, _, rfl, _, rfl, _, _, rfl, ⟨by rw [lp]; omega, by rw [lp]; omega, by decide, by decide⟩, ?_⟩
    rw [lp, nt_a]
    refine for_down (fun k σ H2 => ∃ v2, σ = [some (.ref a), some (.ref l), v2] ∧ Same H H2 ∧ H2 l = some (.lst (intsL (rs.length + 1) (dq rs k)))) ⟨none, rfl, s1, ?_⟩ ?_ ?_
    · rw [hl1]
      congr 2
      exact intsL_congr fun i hi => dq_zero rs hi
    · rintro k σ H2 hk ⟨v2, rfl, s2, hl2⟩
      obtain ⟨j, ej⟩ : ∃ j, j = rs.length - 1 - k := ⟨_, rfl⟩
      have ei : ((rs.length : Nat) : Int) - 1 - (k : Int) = ((j : Nat) : Int) := nt_b hk ej
      rw [ei]
      have hj : j < rs.length := nt_c hk ej
      have hrj : rs[j]? = some rs[j] := List.getElem?_eq_getElem hj
      obtain ⟨q, e1, e2, hq⟩ := hget j rs[j] hrj
      have dj := dp_at hrj
      have nx : dq rs k (j + 1) = (dp rs (j + 1) : Nat) := dq_next hk ej
      have fin : ∀ v : Int, v = (dp rs j : Nat) → (upd H2 l (.lst ((intsL (rs.length + 1) (dq rs k)).set j (.int v)))) l = some (.lst (intsL (rs.length + 1) (dq rs (k + 1)))) := fun v hv => by
        rw [upd_same, intsL_set]
        congr 2
        exact intsL_congr fun i hi => dq_set hk ej hv i
      have hix : ixN (intsL (rs.length + 1) (dq rs k)).length ((j : Nat) : Int) = some j := ixN_nat (by rw [intsL_length]; exact Nat.lt_succ_of_lt hj)
      refine ⟨_, rfl, _, rfl, a, _, j, _, rfl, rfl, SqL.of (s2 _ _ ha), atI_nat e2, q, _, 0, _, rfl, rfl, SqT.of (s2 _ _ hq), atI_nat (j := 0) (tv_word rs[j]), rfl, _, rfl, ?_⟩
      generalize rs[j] = r at dj
      cases r with
      | mark x =>
        have dj : dp rs j = dp rs (j + 1) := dj
        refine iteT' (by first | decide +kernel | (dsimp only [Rw.word]; decide +kernel) | (rw [dec_str]; dsimp only [Rw.word]; decide +kernel)) ?_
        refine ⟨_, rfl, _, rfl, _, _, rfl, rfl, l, _, _, _, rfl, rfl, SqL.of hl2, at_int (i := j + 1) (Nat.succ_lt_succ hj), ?_⟩
        exact ⟨_, rfl, _, rfl, l, _, j, j, rfl, rfl, hl2, hix, _, rfl, s2.upd hl0, fin _ (by rw [nx, dj])⟩
      | grow x =>
        have dj : dp rs j = j := dj
        exact iteF' (by first | decide +kernel | (dsimp only [Rw.word]; decide +kernel) | (rw [dec_str]; dsimp only [Rw.word]; decide +kernel)) ⟨_, rfl, _, rfl, _, rfl, l, _, j, j, rfl, rfl, hl2, hix, _, rfl, s2.upd hl0, fin _ (by rw [dj])⟩
      | tell =>
        have dj : dp rs j = j := dj
        exact iteF' (by first | decide +kernel | (dsimp only [Rw.word]; decide +kernel) | (rw [dec_str]; dsimp only [Rw.word]; decide +kernel)) ⟨_, rfl, _, rfl, _, rfl, l, _, j, j, rfl, rfl, hl2, hix, _, rfl, s2.upd hl0, fin _ (by rw [dj])⟩
      | jump x =>
        have dj : dp rs j = j := dj
        exact iteF' (by first | decide +kernel | (dsimp only [Rw.word]; decide +kernel) | (rw [dec_str]; dsimp only [Rw.word]; decide +kernel)) ⟨_, rfl, _, rfl, _, rfl, l, _, j, j, rfl, rfl, hl2, hix, _, rfl, s2.upd hl0, fin _ (by rw [dj])⟩
      | whn x =>
        have dj : dp rs j = j := dj
        exact iteF' (by first | decide +kernel | (dsimp only [Rw.word]; decide +kernel) | (rw [dec_str]; dsimp only [Rw.word]; decide +kernel)) ⟨_, rfl, _, rfl, _, rfl, l, _, j, j, rfl, rfl, hl2, hix, _, rfl, s2.upd hl0, fin _ (by rw [dj])⟩
      | halt =>
        have dj : dp rs j = j := dj
        exact iteF' (by first | decide +kernel | (dsimp only [Rw.word]; decide +kernel) | (rw [dec_str]; dsimp only [Rw.word]; decide +kernel)) ⟨_, rfl, _, rfl, _, rfl, l, _, j, j, rfl, rfl, hl2, hix, _, rfl, s2.upd hl0, fin _ (by rw [dj])⟩
    · rintro σ H2 ⟨v2, rfl, s2, hl2⟩
      refine ⟨_, rfl, k l H2 hl0 s2 ?_⟩
      rw [hl2]
      congr 2
      exact intsL_congr fun i hi => dq_all rs i
noncomputable abbrev s_place_behind : Stmt := top 42
theorem sc_place_behind : FnScope ["rows", "marks", "place", "number", "row"] ["rows", "marks", "place", "number"] (defScope s_place_behind) := ⟨rfl, rfl, rfl, by decide +kernel, rfl, by decide +kernel, by decide +kernel⟩
noncomputable def spBehind : Sp := fun vs H Q _ => Ex6_6 (fun (a d : Addr) (rs : List Rw) (p : Nat) (n : Int) (r : Rw) => vs = [.ref a, .ref d, .int (p : Nat), .int n]) (fun (a d : Addr) (rs : List Rw) (p : Nat) (n : Int) (r : Rw) => RowsAt H a rs) (fun (a d : Addr) (rs : List Rw) (p : Nat) (n : Int) (r : Rw) => MarksAt H d rs) (fun (a d : Addr) (rs : List Rw) (p : Nat) (n : Int) (r : Rw) => Valid Nice rs) (fun (a d : Addr) (rs : List Rw) (p : Nat) (n : Int) (r : Rw) => rs[p]? = some r) (fun (a d : Addr) (rs : List Rw) (p : Nat) (n : Int) (r : Rw) => ∀ H', Same H H' → Q (.int (behind rs p n r : Nat)) H')
theorem ok_place_behind (D : Def K mg "place_behind" s_place_behind ["rows", "marks", "place", "number"]) (T : Tx P w K mg) : Has P w K mg base 1 "place_behind" ["rows", "marks", "place", "number"] spBehind := by
  refine D.has sc_place_behind (fun vs H Q E h => ?_) (fun f cdv A outer s H vs Q E hr h => ?_)
  · obtain ⟨a, d, rs, p, n, r, rfl, _⟩ := h
    rfl
  · obtain ⟨a, d, rs, p, n, r, rfl, hR, ⟨kvs, hd, hval⟩, hv, hrp, k⟩ := h
    obtain ⟨ps, ha, hlen, hget⟩ := hR.get
    have hu := hu_of hr
    have lp : (ps.map V.ref).length = rs.length := by rw [List.length_map]; exact hlen
    obtain ⟨q, e1, e2, hq⟩ := hget p r hrp
    have kk := k H (Same.refl H)
    have hg : ∀ x, r.lead = some x → DGet H d (.str x) (some (.int ((markAt rs x).getD 0 : Nat))) := fun x hx => by
      obtain ⟨t, ht, _⟩ := hv.at hrp hx
      have := DGet.k (k := (Sum.inr x : Key)) hd
      rw [hval x, ht] at this
      rw [ht]
      exact this
    refine ⟨_, (pss_cons (ps_set (i := 4) sc_place_behind.nd rfl (Or.inl rfl) (pe_ix ix_list0 (pv 0) (pv 2) (fun _ _ => rfl)))
      (pss_cons (ps_if (pt_cmpR op_eq (pe_ix ix_tup0 (pv 4) pe_int (fun _ _ => rfl)) pe_str (nomark _)) (pss_one (ps_ret (pe_callB call_len_seq0 (by rfl) T.b_len bt_len (pa_cons (pv 0) pa_nil)))) pss_nil)
      (pss_cons (ps_if (PW.pt (pw_or (pt_cmpR op_eq (pe_ix ix_tup0 (pv 4) pe_int (fun _ _ => rfl)) pe_str (nomark _)) (pw_or1 (PW.pt (pw_and (pt_cmpR op_eq (pe_ix ix_tup0 (pv 4) pe_int (fun _ _ => rfl)) pe_str (nomark _)) (pw_and1 (pt_cmpR op_gt (pv 3) pe_int (nomark _)))))))) (pss_one (ps_ret (pe_dget hu (pv 1) (pe_ix ix_tup0 (pv 4) pe_int (fun _ _ => rfl)) (fun _ _ => rfl)))) pss_nil)
      (pss_one (ps_ret (pe_op op_add (pv 2) pe_int)))))), ?_⟩
    refine ⟨_, rfl, _, rfl, a, _, p, _, rfl, rfl, SqL.of ha, atI_nat e2, ?_⟩
    refine ⟨_, rfl, q, _, 0, _, rfl, rfl, SqT.of hq, atI_nat (j := 0) (tv_word r), rfl, _, rfl, ?_⟩
    cases r with
    | halt =>
      refine iteT' (by first | decide +kernel | (dsimp only [Rw.word]; decide +kernel) | (rw [dec_str]; dsimp only [Rw.word]; decide +kernel)) ⟨_, rfl, a, _, rfl, .inl (SqL.of ha), ?_⟩
      rw [lp]
      exact kk
    | jump x =>
      refine iteF' (by first | decide +kernel | (dsimp only [Rw.word]; decide +kernel) | (rw [dec_str]; dsimp only [Rw.word]; decide +kernel)) ?_
      refine ⟨_, rfl, q, _, 0, _, rfl, rfl, SqT.of hq, atI_nat (j := 0) rfl, rfl, _, rfl, iteT' (by first | decide +kernel | (dsimp only [Rw.word]; decide +kernel) | (rw [dec_str]; dsimp only [Rw.word]; decide +kernel)) (iteT ?_)⟩
      exact ⟨_, rfl, _, rfl, q, _, 1, _, rfl, rfl, SqT.of hq, atI_nat (j := 1) rfl, d, _, rfl, hg x rfl, kk⟩
    | whn x =>
      refine iteF' (by first | decide +kernel | (dsimp only [Rw.word]; decide +kernel) | (rw [dec_str]; dsimp only [Rw.word]; decide +kernel)) ?_
      refine ⟨_, rfl, q, _, 0, _, rfl, rfl, SqT.of hq, atI_nat (j := 0) rfl, rfl, _, rfl, iteF' (by first | decide +kernel | (dsimp only [Rw.word]; decide +kernel) | (rw [dec_str]; dsimp only [Rw.word]; decide +kernel)) ?_⟩
      refine ⟨_, rfl, q, _, 0, _, rfl, rfl, SqT.of hq, atI_nat (j := 0) rfl, rfl, _, rfl, iteT' (by first | decide +kernel | (dsimp only [Rw.word]; decide +kernel) | (rw [dec_str]; dsimp only [Rw.word]; decide +kernel)) ?_⟩
      by_cases h0 : 0 < n
      · refine ⟨_, rfl, _, _, rfl, rfl, _, rfl, iteT' (decide_eq_true h0) ?_⟩
        rw [show behind rs p n (.whn x) = (markAt rs x).getD 0 from if_pos h0] at kk
        exact ⟨_, rfl, _, rfl, q, _, 1, _, rfl, rfl, SqT.of hq, atI_nat (j := 1) rfl, d, _, rfl, hg x rfl, kk⟩
      · refine ⟨_, rfl, _, _, rfl, rfl, _, rfl, iteF' (decide_eq_false h0) ?_⟩
        rw [show behind rs p n (.whn x) = p + 1 from if_neg h0] at kk
        exact ⟨_, rfl, _, _, rfl, rfl, kk⟩
    | mark x =>
      refine iteF' (by first | decide +kernel | (dsimp only [Rw.word]; decide +kernel) | (rw [dec_str]; dsimp only [Rw.word]; decide +kernel)) ?_
      refine ⟨_, rfl, q, _, 0, _, rfl, rfl, SqT.of hq, atI_nat (j := 0) rfl, rfl, _, rfl, iteF' (by first | decide +kernel | (dsimp only [Rw.word]; decide +kernel) | (rw [dec_str]; dsimp only [Rw.word]; decide +kernel)) ?_⟩
      refine ⟨_, rfl, q, _, 0, _, rfl, rfl, SqT.of hq, atI_nat (j := 0) rfl, rfl, _, rfl, iteF' (by first | decide +kernel | (dsimp only [Rw.word]; decide +kernel) | (rw [dec_str]; dsimp only [Rw.word]; decide +kernel)) (iteF ?_)⟩
      exact ⟨_, rfl, _, _, rfl, rfl, kk⟩
    | grow x =>
      refine iteF' (by first | decide +kernel | (dsimp only [Rw.word]; decide +kernel) | (rw [dec_str]; dsimp only [Rw.word]; decide +kernel)) ?_
      refine ⟨_, rfl, q, _, 0, _, rfl, rfl, SqT.of hq, atI_nat (j := 0) rfl, rfl, _, rfl, iteF' (by first | decide +kernel | (dsimp only [Rw.word]; decide +kernel) | (rw [dec_str]; dsimp only [Rw.word]; decide +kernel)) ?_⟩
      refine ⟨_, rfl, q, _, 0, _, rfl, rfl, SqT.of hq, atI_nat (j := 0) rfl, rfl, _, rfl, iteF' (by first | decide +kernel | (dsimp only [Rw.word]; decide +kernel) | (rw [dec_str]; dsimp only [Rw.word]; decide +kernel)) (iteF ?_)⟩
      exact ⟨_, rfl, _, _, rfl, rfl, kk⟩
    | tell =>
      refine iteF' (by first | decide +kernel | (dsimp only [Rw.word]; decide +kernel) | (rw [dec_str]; dsimp only [Rw.word]; decide +kernel)) ?_
      refine ⟨_, rfl, q, _, 0, _, rfl, rfl, SqT.of hq, atI_nat (j := 0) rfl, rfl, _, rfl, iteF' (by first | decide +kernel | (dsimp only [Rw.word]; decide +kernel) | (rw [dec_str]; dsimp only [Rw.word]; decide +kernel)) ?_⟩
      refine ⟨_, rfl, q, _, 0, _, rfl, rfl, SqT.of hq, atI_nat (j := 0) rfl, rfl, _, rfl, iteF' (by first | decide +kernel | (dsimp only [Rw.word]; decide +kernel) | (rw [dec_str]; dsimp only [Rw.word]; decide +kernel)) (iteF ?_)⟩
      exact ⟨_, rfl, _, _, rfl, rfl, kk⟩
end
end SC

set_option maxHeartbeats 2000000
namespace SC
open PySem PySem.Spec PyProof.Rows L2
theorem wrow_place (rs : List Rw) (s : WS) (r : Rw) : (wrow rs s r).place = behind rs s.place (wrow rs s r).num r := by cases r <;> rfl
theorem wrow_trail {rs : List Rw} {s : WS} {r : Rw} (h : isMk r = false) : (wrow rs s r).trail.length = s.trail.length + 1 := by
  cases r <;> first | (cases h; done) | (simp [wrow])
section
variable {P : Program} {w : World} {K : PySem.W.Frag} {mg : Str → Option Value} {base : Heap}
noncomputable abbrev s_walked_rows : Stmt := top 43
theorem sc_walked_rows : FnScope ["rows", "number", "steps", "marks", "doing", "held", "done", "told", "place", "row"] ["rows", "number", "steps"] (defScope s_walked_rows) := ⟨rfl, rfl, rfl, by decide +kernel, rfl, by decide +kernel, by decide +kernel⟩
theorem ok_walked_rows (D : Def K mg "walked_rows" s_walked_rows ["rows", "number", "steps"]) (T : Tx P w K mg) (h_checked_marks : Has P w K mg base 4 "checked_marks" ["rows"] spMarks) (h_doing_places : Has P w K mg base 1 "doing_places" ["rows"] spDoing)
    (h_place_behind : Has P w K mg base 1 "place_behind" ["rows", "marks", "place", "number"] spBehind) : Has P w K mg base 5 "walked_rows" ["rows", "number", "steps"] spWRows := by
  refine D.has sc_walked_rows (fun vs H Q E h => ?_) (fun f cdv A outer s H vs Q E hr h => ?_)
  · obtain ⟨a, rs, n, steps, rfl, _⟩ := h
    rfl
  · obtain ⟨a, rs, n, steps, rfl, hR, hv, hst, k⟩ := h
    have hn := hv.len
    refine ⟨_, (pss_cons (ps_set (i := 3) sc_walked_rows.nd rfl (Or.inl rfl) (pe_has h_checked_marks hr rfl (pa_cons (pv 0) pa_nil)))
      (pss_cons (ps_set (i := 4) sc_walked_rows.nd rfl (Or.inl rfl) (pe_has h_doing_places hr rfl (pa_cons (pv 0) pa_nil)))
      (pss_cons (ps_set (i := 5) sc_walked_rows.nd rfl (Or.inl rfl) (pv 1))
      (pss_cons (ps_set (i := 6) sc_walked_rows.nd rfl (Or.inl rfl) (pe_lst pa_nil))
      (pss_cons (ps_set (i := 7) sc_walked_rows.nd rfl (Or.inl rfl) (pe_lst pa_nil))
      (pss_cons (ps_set (i := 8) sc_walked_rows.nd rfl (Or.inl rfl) (pe_ix ix_list0 (pv 4) pe_int (fun _ _ => rfl)))
      (pss_cons (ps_while PassesOwn.never (PW.pt (pw_and (pt_cmpR op_lt (pv 8) (pe_callB call_len_seq0 (by rfl) T.b_len bt_len (pa_cons (pv 0) pa_nil)) (nomark _)) (pw_and1 (pt_cmpR op_lt (pe_callB call_len_seq0 (by rfl) T.b_len bt_len (pa_cons (pv 6) pa_nil)) (pv 2) (nomark _))))) (pss_cons (ps_set (i := 9) sc_walked_rows.nd rfl (Or.inl rfl) (pe_ix ix_list0 (pv 0) (pv 8) (fun _ _ => rfl)))
      (pss_cons (ps_if (pt_cmpR op_eq (pe_ix ix_tup0 (pv 9) pe_int (fun _ _ => rfl)) pe_str (nomark _)) (pss_one (ps_set (i := 5) sc_walked_rows.nd rfl (Or.inl rfl) (pe_op op_add (pv 5) (pe_ix ix_tup0 (pv 9) pe_int (fun _ _ => rfl))))) pss_nil)
      (pss_cons (ps_if (pt_cmpR op_eq (pe_ix ix_tup0 (pv 9) pe_int (fun _ _ => rfl)) pe_str (nomark _)) (pss_one (ps_expr (pe_bmF PySem.F.plainAttrs_list PySem.F.slot_list_append PySem.F.type_list_append mt_append (pv 7) (pa_cons (pv 5) pa_nil)))) pss_nil)
      (pss_cons (ps_expr (pe_bmF PySem.F.plainAttrs_list PySem.F.slot_list_append PySem.F.type_list_append mt_append (pv 6) (pa_tup (pe_tup (pa_cons (pv 8) (pa_cons (pv 5) pa_nil))) pa_nil)))
      (pss_one (ps_set (i := 8) sc_walked_rows.nd rfl (Or.inl rfl) (pe_ix ix_list0 (pv 4) (pe_has h_place_behind hr rfl (pa_cons (pv 0) (pa_cons (pv 3) (pa_cons (pv 8) (pa_cons (pv 5) pa_nil))))) (fun _ _ => rfl)))))))))
      (pss_one (ps_ret (pe_tup (pa_cons (pv 6) (pa_cons (pv 7) pa_nil)))))))))))), ?_⟩
    refine ⟨_, rfl, a, rs, rfl, hR, hv, fun d H1 s1 hM => ?_⟩
    refine ⟨_, rfl, a, rs, rfl, hR.same s1, hn, fun g H2 hg s2 hg2 => ?_⟩
    have sB := s1.trans s2
    obtain ⟨ps, ha, hlen, hget⟩ := (hR.same sB).get
    have lp : (ps.map V.ref).length = rs.length := by rw [List.length_map]; exact hlen
    refine ⟨_, rfl, by decide, fun lt hlt => ⟨by decide, fun lo hlo => ?_⟩⟩
    have st : Same H2 (upd H2 lt (.lst [])) := (Same.refl H2).upd hlt
    have hlo' : H2 lo = none := st.free hlo
    have ne : lt ≠ lo := ne_of_none (upd_same (H := H2) (a := lt) (o := .lst [])) hlo
    have W0 : WAt H2 (upd (upd H2 lt (.lst [])) lo (.lst [])) lt lo (fun p => (p : Int)) [] [] := ⟨st.upd hlo', hlt, hlo', ne, ⟨[], by rw [upd_ne ne]; exact upd_same, .nil⟩, upd_same⟩
    refine ⟨_, rfl, g, _, 0, _, rfl, rfl, SqL.of (W0.same _ _ hg2), at_int (i := 0) (by omega), ?_⟩
    refine ⟨fun m σ H5 => ∃ (e : WS) (v9 : Option V), σ = [some (.ref a), some (.int n), some (.int (steps : Nat)), some (.ref d), some (.ref g), some (.int e.num), some (.ref lt), some (.ref lo), some (.int (dp rs e.place : Nat)), v9] ∧ m = steps - e.trail.length ∧ e.place ≤ rs.length ∧ WReach rs steps ⟨0, n, [], []⟩ e ∧ WOk steps e ∧ WAt H2 H5 lt lo (fun p => (p : Int)) e.trail e.told,
      ⟨_, ⟨0, n, [], []⟩, none, rfl, rfl, Nat.zero_le _, .refl, ⟨Nat.le_refl _, Nat.zero_le _⟩, W0⟩, ?_⟩
    rintro m σ H5 ⟨e, v9, rfl, rfl, hpe, hre, hok, hW⟩
    have ha5 := hW.same _ _ ha
    have out : ∀ p, WReach rs steps ⟨0, n, [], []⟩ ⟨p, e.num, e.trail, e.told⟩ → runs rs steps ⟨p, e.num, e.trail, e.told⟩ = false → ∀ t, H5 t = none → Q (.ref t) (upd H5 t (.tup [.ref lt, .ref lo])) := fun p hp hs t ht => by
      have sH := sB.trans hW.same
      exact k t _ ⟨p, e.num, e.trail, e.told⟩ (sH.free ht) (sH.trans ((Same.refl H5).upd ht)) ⟨hp, hs⟩ hok (hW.pair ht)
    refine ⟨_, rfl, _, rfl, a, _, rfl, .inl (SqL.of ha5), _, _, rfl, rfl, _, rfl, ite2 (fun h1 => ?_) (fun h1 => ?_)⟩
    rotate_left
    · have h1 : ¬ ((dp rs e.place : Nat) : Int) < (((ps.map V.ref).length : Nat) : Int) := fun z => h1 (decide_eq_true z)
      rw [lp] at h1
      refine iteF ⟨_, rfl, _, rfl, s1000 (by show 2 ≤ 1000; decide), ?_⟩
      by_cases ht : e.trail.length < steps
      · exact out _ (reach_dp _ e rfl hpe ht hre) (by unfold runs; rw [decide_eq_false (by show ¬ dp rs e.place < rs.length; omega)]; rfl)
      · exact out _ hre (by unfold runs; rw [decide_eq_false (p := e.trail.length < steps) ht, Bool.and_false])
    have h1 := of_decide_eq_true h1
    rw [lp] at h1
    have hpl : dp rs e.place < rs.length := by omega
    obtain ⟨qs, hq1, hq2⟩ := hW.tl
    have lq := Paired.length hq2
    refine ⟨_, rfl, lt, _, rfl, .inl (SqL.of hq1), _, rfl, _, _, rfl, rfl, _, rfl, ite2 (fun h2 => ?_) (fun h2 => ?_)⟩
    rotate_left
    · have h2 : ¬ (((qs.map V.ref).length : Nat) : Int) < ((steps : Nat) : Int) := fun z => h2 (decide_eq_true z)
      rw [List.length_map, lq] at h2
      exact ⟨_, rfl, _, rfl, s1000 (by show 2 ≤ 1000; decide), out _ hre (by unfold runs; rw [decide_eq_false (p := e.trail.length < steps) (by omega), Bool.and_false])⟩
    have h2 := of_decide_eq_true h2
    rw [List.length_map, lq] at h2
    have hts : e.trail.length < steps := by omega
    have htl : e.trail.length < 600 := by omega
    have hto : e.told.length < 600 := by have := hok.1; omega
    have hri : rs[dp rs e.place]? = some rs[dp rs e.place] := List.getElem?_eq_getElem hpl
    generalize rs[dp rs e.place] = r at hri
    have hmk : isMk r = false := dp_row _ _ rfl hri
    obtain ⟨q, e1, e2, hq⟩ := hget _ r hri
    have hq5 := hW.same _ _ hq
    have hre1 := reach_dp _ e rfl hpe hts hre
    have hs : runs rs steps ⟨dp rs e.place, e.num, e.trail, e.told⟩ = true := by unfold runs; rw [decide_eq_true (p := dp rs e.place < rs.length) hpl, decide_eq_true (p := e.trail.length < steps) hts]; rfl
    have hnx := hre1.next hs hri
    have hokn := WOk.next (rs := rs) (s := ⟨dp rs e.place, e.num, e.trail, e.told⟩) hok hs r
    have hlen1 := wrow_trail (rs := rs) (s := ⟨dp rs e.place, e.num, e.trail, e.told⟩) hmk
    have hwp := wrow_place rs ⟨dp rs e.place, e.num, e.trail, e.told⟩ r
    refine ⟨fun σ' H' => ∃ m', m' < steps - e.trail.length ∧ ∃ (e : WS) (v9 : Option V), σ' = [some (.ref a), some (.int n), some (.int (steps : Nat)), some (.ref d), some (.ref g), some (.int e.num), some (.ref lt), some (.ref lo), some (.int (dp rs e.place : Nat)), v9] ∧ m' = steps - e.trail.length ∧ e.place ≤ rs.length ∧ WReach rs steps ⟨0, n, [], []⟩ e ∧ WOk steps e ∧ WAt H2 H' lt lo (fun p => (p : Int)) e.trail e.told, fun σ' H' h => h, ?_⟩
    have fin : ∀ (num : Int) (tr : List (Nat × Int)) (to : List Int) (H7 : Hp) (r' : Rw) (v9 : Option V), r' = r → WAt H2 H7 lt lo (fun p => (p : Int)) tr to → wrow rs ⟨dp rs e.place, e.num, e.trail, e.told⟩ r = ⟨behind rs (dp rs e.place) num r', num, tr, to⟩ →
        ∃ m', m' < steps - e.trail.length ∧ ∃ (e' : WS) (v9' : Option V), [some (.ref a), some (.int n), some (.int (steps : Nat)), some (.ref d), some (.ref g), some (.int num), some (.ref lt), some (.ref lo), some (.int (dp rs (behind rs (dp rs e.place) num r') : Nat)), v9] = [some (.ref a), some (.int n), some (.int (steps : Nat)), some (.ref d), some (.ref g), some (.int e'.num), some (.ref lt), some (.ref lo), some (.int (dp rs e'.place : Nat)), v9'] ∧ m' = steps - e'.trail.length ∧ e'.place ≤ rs.length ∧ WReach rs steps ⟨0, n, [], []⟩ e' ∧ WOk steps e' ∧ WAt H2 H7 lt lo (fun p => (p : Int)) e'.trail e'.told := by
      rintro num tr to H7 r' v9 rfl hW7 ew
      rw [ew] at hnx hokn hlen1
      have hlen1 : tr.length = e.trail.length + 1 := hlen1
      exact ⟨_, (by omega : steps - tr.length < steps - e.trail.length), ⟨behind rs (dp rs e.place) num r', num, tr, to⟩, v9, rfl, rfl, behind_le hpl, hnx, hokn, hW7⟩
    refine ⟨_, rfl, _, rfl, a, _, dp rs e.place, _, rfl, rfl, SqL.of ha5, atI_nat e2, ?_⟩
    refine ⟨_, rfl, q, _, 0, _, rfl, rfl, SqT.of hq5, atI_nat (j := 0) (tv_word r), rfl, _, rfl, ?_⟩
    cases r with
    | mark x => cases hmk
    | grow x =>
      refine iteT' (by first | decide +kernel | (dsimp only [Rw.word]; decide +kernel) | (rw [dec_str]; dsimp only [Rw.word]; decide +kernel)) ?_
      refine ⟨_, rfl, _, rfl, q, _, 1, _, rfl, rfl, SqT.of hq5, atI_nat (j := 1) rfl, _, _, rfl, rfl, ?_⟩
      refine ⟨_, rfl, q, _, 0, _, rfl, rfl, SqT.of hq5, atI_nat (j := 0) rfl, rfl, _, rfl, iteF' (by first | decide +kernel | (dsimp only [Rw.word]; decide +kernel) | (rw [dec_str]; dsimp only [Rw.word]; decide +kernel)) ?_⟩
      obtain ⟨qs6, hq6, _⟩ := hW.tl
      refine ⟨_, rfl, .inl ⟨rfl, _, SqL.of hq6⟩, _, rfl, _, rfl, s1000 (by show 2 ≤ 1000; decide), fun q' hq' => ?_⟩
      obtain ⟨qs', g1, g2, g3⟩ := hW.done (dp rs e.place) (e.num + x) hq'
      refine ⟨lt, _, _, rfl, rfl, g1, small1000 (by rw [List.length_map]; omega), ?_⟩
      generalize upd (upd _ q' (.tup [.int ((dp rs e.place : Nat) : Int), .int (e.num + x)])) lt (.lst (qs'.map V.ref ++ [.ref q'])) = H6 at g3 ⊢
      have sg := sB.trans g3.same
      refine ⟨_, rfl, _, rfl, _, rfl, _, rfl, _, rfl, a, d, rs, dp rs e.place, _, _, rfl, hR.same sg, hM.same (s2.trans g3.same), hv, hri, fun H7 s7 => ?_⟩
      refine ⟨g, _, _, _, rfl, rfl, SqL.of (s7 _ _ (g3.same _ _ hg2)), at_int (i := behind rs (dp rs e.place) (e.num + x) _) (Nat.lt_succ_of_le (behind_le hpl)), ?_⟩
      exact fin _ _ _ _ _ _ rfl (g3.same2 s7) rfl
    | tell =>
      refine iteF' (by first | decide +kernel | (dsimp only [Rw.word]; decide +kernel) | (rw [dec_str]; dsimp only [Rw.word]; decide +kernel)) ?_
      refine ⟨_, rfl, q, _, 0, _, rfl, rfl, SqT.of hq5, atI_nat (j := 0) rfl, rfl, _, rfl, iteT' (by first | decide +kernel | (dsimp only [Rw.word]; decide +kernel) | (rw [dec_str]; dsimp only [Rw.word]; decide +kernel)) ?_⟩
      refine ⟨_, rfl, .inl ⟨rfl, _, SqL.of hW.tt⟩, _, rfl, lo, _, _, rfl, rfl, hW.tt, small1000 (by rw [List.length_map]; omega), ?_⟩
      have hW := hW.tell e.num
      generalize upd H5 lo (.lst (e.told.map V.int ++ [.int e.num])) = H5 at hW ⊢
      obtain ⟨qs6, hq6, _⟩ := hW.tl
      refine ⟨_, rfl, .inl ⟨rfl, _, SqL.of hq6⟩, _, rfl, _, rfl, s1000 (by show 2 ≤ 1000; decide), fun q' hq' => ?_⟩
      obtain ⟨qs', g1, g2, g3⟩ := hW.done (dp rs e.place) e.num hq'
      refine ⟨lt, _, _, rfl, rfl, g1, small1000 (by rw [List.length_map]; omega), ?_⟩
      generalize upd (upd _ q' (.tup [.int ((dp rs e.place : Nat) : Int), .int e.num])) lt (.lst (qs'.map V.ref ++ [.ref q'])) = H6 at g3 ⊢
      have sg := sB.trans g3.same
      refine ⟨_, rfl, _, rfl, _, rfl, _, rfl, _, rfl, a, d, rs, dp rs e.place, _, _, rfl, hR.same sg, hM.same (s2.trans g3.same), hv, hri, fun H7 s7 => ?_⟩
      refine ⟨g, _, _, _, rfl, rfl, SqL.of (s7 _ _ (g3.same _ _ hg2)), at_int (i := behind rs (dp rs e.place) e.num _) (Nat.lt_succ_of_le (behind_le hpl)), ?_⟩
      exact fin _ _ _ _ _ _ rfl (g3.same2 s7) rfl
    | halt =>
      refine iteF' (by first | decide +kernel | (dsimp only [Rw.word]; decide +kernel) | (rw [dec_str]; dsimp only [Rw.word]; decide +kernel)) ?_
      refine ⟨_, rfl, q, _, 0, _, rfl, rfl, SqT.of hq5, atI_nat (j := 0) rfl, rfl, _, rfl, iteF' (by first | decide +kernel | (dsimp only [Rw.word]; decide +kernel) | (rw [dec_str]; dsimp only [Rw.word]; decide +kernel)) ?_⟩
      obtain ⟨qs6, hq6, _⟩ := hW.tl
      refine ⟨_, rfl, .inl ⟨rfl, _, SqL.of hq6⟩, _, rfl, _, rfl, s1000 (by show 2 ≤ 1000; decide), fun q' hq' => ?_⟩
      obtain ⟨qs', g1, g2, g3⟩ := hW.done (dp rs e.place) e.num hq'
      refine ⟨lt, _, _, rfl, rfl, g1, small1000 (by rw [List.length_map]; omega), ?_⟩
      generalize upd (upd _ q' (.tup [.int ((dp rs e.place : Nat) : Int), .int e.num])) lt (.lst (qs'.map V.ref ++ [.ref q'])) = H6 at g3 ⊢
      have sg := sB.trans g3.same
      refine ⟨_, rfl, _, rfl, _, rfl, _, rfl, _, rfl, a, d, rs, dp rs e.place, _, _, rfl, hR.same sg, hM.same (s2.trans g3.same), hv, hri, fun H7 s7 => ?_⟩
      refine ⟨g, _, _, _, rfl, rfl, SqL.of (s7 _ _ (g3.same _ _ hg2)), at_int (i := behind rs (dp rs e.place) e.num _) (Nat.lt_succ_of_le (behind_le hpl)), ?_⟩
      exact fin _ _ _ _ _ _ rfl (g3.same2 s7) rfl
    | jump x =>
      refine iteF' (by first | decide +kernel | (dsimp only [Rw.word]; decide +kernel) | (rw [dec_str]; dsimp only [Rw.word]; decide +kernel)) ?_
      refine ⟨_, rfl, q, _, 0, _, rfl, rfl, SqT.of hq5, atI_nat (j := 0) rfl, rfl, _, rfl, iteF' (by first | decide +kernel | (dsimp only [Rw.word]; decide +kernel) | (rw [dec_str]; dsimp only [Rw.word]; decide +kernel)) ?_⟩
      obtain ⟨qs6, hq6, _⟩ := hW.tl
      refine ⟨_, rfl, .inl ⟨rfl, _, SqL.of hq6⟩, _, rfl, _, rfl, s1000 (by show 2 ≤ 1000; decide), fun q' hq' => ?_⟩
      obtain ⟨qs', g1, g2, g3⟩ := hW.done (dp rs e.place) e.num hq'
      refine ⟨lt, _, _, rfl, rfl, g1, small1000 (by rw [List.length_map]; omega), ?_⟩
      generalize upd (upd _ q' (.tup [.int ((dp rs e.place : Nat) : Int), .int e.num])) lt (.lst (qs'.map V.ref ++ [.ref q'])) = H6 at g3 ⊢
      have sg := sB.trans g3.same
      refine ⟨_, rfl, _, rfl, _, rfl, _, rfl, _, rfl, a, d, rs, dp rs e.place, _, _, rfl, hR.same sg, hM.same (s2.trans g3.same), hv, hri, fun H7 s7 => ?_⟩
      refine ⟨g, _, _, _, rfl, rfl, SqL.of (s7 _ _ (g3.same _ _ hg2)), at_int (i := behind rs (dp rs e.place) e.num _) (Nat.lt_succ_of_le (behind_le hpl)), ?_⟩
      exact fin _ _ _ _ _ _ rfl (g3.same2 s7) rfl
    | whn x =>
      refine iteF' (by first | decide +kernel | (dsimp only [Rw.word]; decide +kernel) | (rw [dec_str]; dsimp only [Rw.word]; decide +kernel)) ?_
      refine ⟨_, rfl, q, _, 0, _, rfl, rfl, SqT.of hq5, atI_nat (j := 0) rfl, rfl, _, rfl, iteF' (by first | decide +kernel | (dsimp only [Rw.word]; decide +kernel) | (rw [dec_str]; dsimp only [Rw.word]; decide +kernel)) ?_⟩
      obtain ⟨qs6, hq6, _⟩ := hW.tl
      refine ⟨_, rfl, .inl ⟨rfl, _, SqL.of hq6⟩, _, rfl, _, rfl, s1000 (by show 2 ≤ 1000; decide), fun q' hq' => ?_⟩
      obtain ⟨qs', g1, g2, g3⟩ := hW.done (dp rs e.place) e.num hq'
      refine ⟨lt, _, _, rfl, rfl, g1, small1000 (by rw [List.length_map]; omega), ?_⟩
      generalize upd (upd _ q' (.tup [.int ((dp rs e.place : Nat) : Int), .int e.num])) lt (.lst (qs'.map V.ref ++ [.ref q'])) = H6 at g3 ⊢
      have sg := sB.trans g3.same
      refine ⟨_, rfl, _, rfl, _, rfl, _, rfl, _, rfl, a, d, rs, dp rs e.place, _, _, rfl, hR.same sg, hM.same (s2.trans g3.same), hv, hri, fun H7 s7 => ?_⟩
      refine ⟨g, _, _, _, rfl, rfl, SqL.of (s7 _ _ (g3.same _ _ hg2)), at_int (i := behind rs (dp rs e.place) e.num _) (Nat.lt_succ_of_le (behind_le hpl)), ?_⟩
      exact fin _ _ _ _ _ _ rfl (g3.same2 s7) rfl
end
end SC

set_option maxHeartbeats 1000000
namespace SC
open PySem PySem.Spec PyProof.Rows L2
theorem paired_snoc' {α β : Type} {F : α → β → Prop} {l : List α} {m : List β} {a : α} {b : β} (p : Paired F l m) (h : F a b) : Paired F (l ++ [a]) (m ++ [b]) := paired_append p (.cons h .nil)
noncomputable def bC (us : List Cr) (fc : Nat → Bool) (j : Nat) : Nat := (cellsPC us fc j).length
structure CV (us : List Cr) (fc : Nat → Bool) : Prop where
  to : ∀ j t, ldc us j = some t → t ≤ us.length
  nf : ∀ j, ldc us j = none → fc j = false
  nr : ∀ j t, ldc us j = some t → fc j = false → SM.near (gapC us fc j) = true
  len : us.length ≤ 120
  num : ∀ n, Cr.grow n ∈ us → -(10 ^ 30) ≤ n ∧ n ≤ 10 ^ 30
section
variable {us : List Cr} {fc : Nat → Bool}
theorem bC_succ (j : Nat) : bC us fc (j + 1) = bC us fc j + (cellsRC us fc j).length := by
  unfold bC
  show (cellsPC us fc j ++ cellsRC us fc j).length = _
  rw [List.length_append]
theorem rc_at {j : Nat} {u : Cr} (h : us[j]? = some u) : cellsRC us fc j = u.cells (fc j) (gapC us fc j) := by unfold cellsRC; rw [h]
theorem rc_out {j : Nat} (h : us.length ≤ j) : cellsRC us fc j = [] := by unfold cellsRC; rw [List.getElem?_eq_none h]
theorem cr_len (u : Cr) (f : Bool) (g : Int) : 1 ≤ (u.cells f g).length ∧ (u.cells f g).length ≤ 3 := by
  cases u <;> cases f <;> simp [Cr.cells]
theorem bC_lt {j : Nat} (h : j < us.length) : bC us fc j < bC us fc (j + 1) := by
  have e : us[j]? = some us[j] := List.getElem?_eq_getElem h
  have := (cr_len us[j] (fc j) (gapC us fc j)).1
  rw [bC_succ, rc_at e]
  omega
theorem bC_mono {i : Nat} : ∀ {j : Nat}, i ≤ j → bC us fc i ≤ bC us fc j
  | 0, h => by rw [Nat.le_zero.mp h]; exact Nat.le_refl _
  | j + 1, h => by
    rcases Nat.lt_or_ge j i with g | g
    · rw [show i = j + 1 by omega]; exact Nat.le_refl _
    · exact Nat.le_trans (bC_mono g) (by rw [bC_succ]; omega)
theorem bC_strict {i j : Nat} (h : i < j) (hi : i < us.length) : bC us fc i < bC us fc j := Nat.lt_of_lt_of_le (bC_lt hi) (bC_mono h)
theorem bC_inj {i j : Nat} (hi : i ≤ us.length) (hj : j ≤ us.length) (h : bC us fc i = bC us fc j) : i = j := by
  rcases Nat.lt_trichotomy i j with g | g | g
  · have := bC_strict (us := us) (fc := fc) g (by omega); omega
  · exact g
  · have := bC_strict (us := us) (fc := fc) g (by omega); omega
theorem bC_le3 : ∀ j, bC us fc j ≤ 3 * j
  | 0 => by simp [bC, cellsPC]
  | j + 1 => by
    have ih := bC_le3 j
    rw [bC_succ]
    by_cases h : j < us.length
    · have e : us[j]? = some us[j] := List.getElem?_eq_getElem h
      have := (cr_len us[j] (fc j) (gapC us fc j)).2
      rw [rc_at e]
      omega
    · rw [rc_out (by omega)]
      simp
      omega
theorem cells_get {j : Nat} {i : Nat} (hi : i < (cellsRC us fc j).length) : ∀ {m : Nat}, j < m → (cellsPC us fc m)[bC us fc j + i]? = (cellsRC us fc j)[i]?
  | 0, h => by omega
  | m + 1, h => by
    show (cellsPC us fc m ++ cellsRC us fc m)[bC us fc j + i]? = _
    rcases Nat.lt_or_ge j m with g | g
    · have l1 := bC_mono (us := us) (fc := fc) (show j + 1 ≤ m from g)
      rw [bC_succ] at l1
      rw [List.getElem?_append_left (by show _ < bC us fc m; omega)]
      exact cells_get hi g
    · have e : j = m := by omega
      subst e
      rw [List.getElem?_append_right (by show bC us fc j ≤ _; omega)]
      congr 1
      show bC us fc j + i - bC us fc j = i
      omega
theorem bC_bg (cv : CV us fc) : ∀ j, ((bC us fc j : Nat) : Int) = SM.bg (szc us) fc j
  | 0 => rfl
  | j + 1 => by
    have ih := bC_bg cv j
    rw [bC_succ]
    show _ = SM.bg (szc us) fc j + (szc us j + SM.b2z (fc j))
    rw [← ih]
    have : (((cellsRC us fc j).length : Nat) : Int) = szc us j + SM.b2z (fc j) := by
      unfold cellsRC szc
      have nf := cv.nf j
      unfold ldc at nf
      cases e : us[j]? with
      | none =>
        rw [e] at nf
        rw [nf rfl]
        rfl
      | some u =>
        rw [e] at nf
        cases u with
        | jump t => cases fc j <;> rfl
        | whn t => cases fc j <;> rfl
        | grow n => rw [nf rfl]; rfl
        | tell => rw [nf rfl]; rfl
        | halt => rw [nf rfl]; rfl
    omega
theorem gap_bC (cv : CV us fc) {j t : Nat} (h : ldc us j = some t) : gapC us fc j = (bC us fc t : Int) - (bC us fc (j + 1) : Nat) := by
  unfold gapC
  rw [h, bC_bg cv, bC_bg cv]
noncomputable def Cr.code1 (u : Cr) (f : Bool) : Int := match u with
  | .grow _ => 1
  | .tell => 2
  | .halt => 3
  | .jump _ => bif f then 5 else 4
  | .whn _ => bif f then 7 else 6
noncomputable def Cr.wd : Cr → Str
  | .grow _ => "grow"
  | .tell => "tell"
  | .halt => "halt"
  | .jump _ => "jump"
  | .whn _ => "when"
theorem code_at {j : Nat} {u : Cr} (h : us[j]? = some u) : ((cellsPC us fc us.length).map V.int)[bC us fc j]? = some (.int (u.code1 (fc j))) := by
  have hj : j < us.length := (List.getElem?_eq_some_iff.mp h).1
  have l := (cr_len u (fc j) (gapC us fc j)).1
  have := cells_get (us := us) (fc := fc) (j := j) (i := 0) (by rw [rc_at h]; omega) hj
  rw [List.getElem?_map, show bC us fc j = bC us fc j + 0 from rfl, this, rc_at h]
  cases u <;> cases fc j <;> rfl
theorem cell_at1 {j : Nat} {u : Cr} {i : Nat} {x : Int} (h : us[j]? = some u) (hx : (u.cells (fc j) (gapC us fc j))[i]? = some x) : ((cellsPC us fc us.length).map V.int)[bC us fc j + i]? = some (.int x) := by
  have hj : j < us.length := (List.getElem?_eq_some_iff.mp h).1
  have hi := (List.getElem?_eq_some_iff.mp hx).1
  have := cells_get (us := us) (fc := fc) (j := j) (i := i) (by rw [rc_at h]; exact hi) hj
  rw [List.getElem?_map, this, rc_at h, hx]
  rfl
theorem putK_new {kvs : List (Key × V)} {k : Key} {v : V} (h : valV kvs k = none) : putK kvs k v = kvs ++ [(k, v)] := by
  unfold putK
  rw [valV_any, h]
  rfl
noncomputable def endsL (us : List Cr) (fc : Nat → Bool) (m : Nat) : List (Key × V) := (List.range m).map fun j => ((Sum.inl (bC us fc j : Int) : Key), V.int (bC us fc (j + 1) : Nat))
theorem endsL_succ (m : Nat) : endsL us fc (m + 1) = endsL us fc m ++ [((Sum.inl (bC us fc m : Int) : Key), V.int (bC us fc (m + 1) : Nat))] := by
  unfold endsL
  rw [List.range_succ, List.map_append]
  rfl
theorem endsL_len (m : Nat) : (endsL us fc m).length = m := by simp [endsL]
theorem endsL_get {m j : Nat} (h : j < m) : (endsL us fc m)[j]? = some ((Sum.inl (bC us fc j : Int) : Key), V.int (bC us fc (j + 1) : Nat)) := by
  unfold endsL
  rw [List.getElem?_map, List.getElem?_range h]
  rfl
theorem endsL_none {k : Int} : ∀ {m : Nat}, (∀ j, j < m → (bC us fc j : Int) ≠ k) → valV (endsL us fc m) (Sum.inl k) = none
  | 0, _ => rfl
  | m + 1, h => by
    have ih := endsL_none (m := m) fun j hj => h j (by omega)
    rw [endsL_succ]
    have hm := h m (by omega)
    unfold valV at ih ⊢
    rw [List.find?_append]
    have q : (endsL us fc m).find? (fun kv => decide (kv.1 = Sum.inl k)) = none := by
      cases e : (endsL us fc m).find? (fun kv => decide (kv.1 = Sum.inl k)) with
      | none => rfl
      | some p => rw [e] at ih; cases ih
    rw [q]
    have : ¬ ((Sum.inl (bC us fc m : Int) : Key) = Sum.inl k) := fun z => hm (Sum.inl.inj z)
    simp [this]
theorem endsL_val {j : Nat} : ∀ {m : Nat}, m ≤ us.length → j < m → valV (endsL us fc m) (Sum.inl (bC us fc j : Int)) = some (V.int (bC us fc (j + 1) : Nat))
  | 0, _, h => by omega
  | m + 1, hm, h => by
    rw [endsL_succ]
    have fresh : valV (endsL us fc m) (Sum.inl (bC us fc m : Int)) = none := endsL_none fun i hi z => by
      have := bC_strict (us := us) (fc := fc) hi (by omega)
      omega
    rw [valV_snoc _ _ _ _ fresh]
    by_cases e : j = m
    · subst e
      rw [if_pos rfl]
    · rw [if_neg fun z => e (bC_inj (us := us) (fc := fc) (by omega) (by omega) (by have := Sum.inl.inj z; omega))]
      exact endsL_val (by omega) (by omega)
noncomputable def goal1 (us : List Cr) (fc : Nat → Bool) (j : Nat) : Option V := (ldc us j).map fun t => V.int (bC us fc t : Nat)
noncomputable def goalsL (us : List Cr) (fc : Nat → Bool) : Nat → List (Key × V)
  | 0 => []
  | m + 1 => match goal1 us fc m with
    | some v => goalsL us fc m ++ [((Sum.inl (bC us fc m : Int) : Key), v)]
    | none => goalsL us fc m
theorem goalsL_none {k : Int} : ∀ {m : Nat}, (∀ j, j < m → (bC us fc j : Int) ≠ k) → valV (goalsL us fc m) (Sum.inl k) = none
  | 0, _ => rfl
  | m + 1, h => by
    have ih := goalsL_none (m := m) fun j hj => h j (by omega)
    have hm := h m (by omega)
    unfold goalsL
    cases goal1 us fc m with
    | none => exact ih
    | some v =>
      show valV (goalsL us fc m ++ [((Sum.inl (bC us fc m : Int) : Key), v)]) (Sum.inl k) = none
      unfold valV at ih ⊢
      rw [List.find?_append]
      have q : (goalsL us fc m).find? (fun kv => decide (kv.1 = Sum.inl k)) = none := by
        cases e : (goalsL us fc m).find? (fun kv => decide (kv.1 = Sum.inl k)) with
        | none => rfl
        | some p => rw [e] at ih; cases ih
      rw [q]
      have : ¬ ((Sum.inl (bC us fc m : Int) : Key) = Sum.inl k) := fun z => hm (Sum.inl.inj z)
      simp [this]
theorem goalsL_fresh {m : Nat} (h : m ≤ us.length) : valV (goalsL us fc m) (Sum.inl (bC us fc m : Int)) = none := goalsL_none fun i hi z => by
  have := bC_strict (us := us) (fc := fc) hi (by omega)
  omega
theorem goalsL_val {j : Nat} : ∀ {m : Nat}, m ≤ us.length → j < m → valV (goalsL us fc m) (Sum.inl (bC us fc j : Int)) = goal1 us fc j
  | 0, _, h => by omega
  | m + 1, hm, h => by
    have fresh := goalsL_fresh (us := us) (fc := fc) (m := m) (by omega)
    unfold goalsL
    by_cases e : j = m
    · subst e
      cases g : goal1 us fc j with
      | none => exact fresh
      | some v =>
        show valV (goalsL us fc j ++ [((Sum.inl (bC us fc j : Int) : Key), v)]) _ = _
        rw [valV_snoc _ _ _ _ fresh, if_pos rfl]
    · have ih := goalsL_val (m := m) (j := j) (by omega) (by omega)
      cases g : goal1 us fc m with
      | none => exact ih
      | some v =>
        show valV (goalsL us fc m ++ [((Sum.inl (bC us fc m : Int) : Key), v)]) _ = _
        rw [valV_snoc _ _ _ _ fresh, if_neg fun z => e (bC_inj (us := us) (fc := fc) (by omega) (by omega) (by have := Sum.inl.inj z; omega))]
        exact ih
theorem goalsL_len : ∀ m, (goalsL us fc m).length ≤ m
  | 0 => Nat.le_refl _
  | m + 1 => by
    have := goalsL_len m
    unfold goalsL
    cases goal1 us fc m with
    | none => show (goalsL us fc m).length ≤ _; omega
    | some v => show (goalsL us fc m ++ _).length ≤ _; rw [List.length_append, List.length_singleton]; omega
theorem goalsL_mem {p : Key × V} : ∀ {m : Nat}, p ∈ goalsL us fc m → ∃ j t, j < m ∧ ldc us j = some t ∧ p = ((Sum.inl (bC us fc j : Int) : Key), V.int (bC us fc t : Nat))
  | 0, h => by cases h
  | m + 1, h => by
    unfold goalsL at h
    cases g : goal1 us fc m with
    | none =>
      rw [g] at h
      obtain ⟨j, t, a, b⟩ := goalsL_mem (m := m) h
      exact ⟨j, t, by omega, b⟩
    | some v =>
      rw [g] at h
      rcases List.mem_append.mp h with h | h
      · obtain ⟨j, t, a, b⟩ := goalsL_mem (m := m) h
        exact ⟨j, t, by omega, b⟩
      · unfold goal1 at g
        obtain ⟨t, h1, h2⟩ := Option.map_eq_some_iff.mp g
        exact ⟨m, t, by omega, h1, by rw [List.mem_singleton.mp h, ← h2]⟩
theorem goalsL_has {j t : Nat} (ht : ldc us j = some t) : ∀ {m : Nat}, j < m → ((Sum.inl (bC us fc j : Int) : Key), V.int (bC us fc t : Nat)) ∈ goalsL us fc m
  | 0, h => by omega
  | m + 1, h => by
    unfold goalsL
    by_cases e : j = m
    · subst e
      have : goal1 us fc j = some (V.int (bC us fc t : Nat)) := by unfold goal1; rw [ht]; rfl
      rw [this]
      exact List.mem_append_right _ (List.mem_singleton.mpr rfl)
    · have ih := goalsL_has ht (m := m) (by omega)
      cases goal1 us fc m with
      | none => exact ih
      | some v => exact List.mem_append_left _ ih
noncomputable def ledTo (us : List Cr) (t : Nat) : Bool := (List.range us.length).any fun j => decide (ldc us j = some t)
theorem ledTo_iff {t : Nat} : ledTo us t = true ↔ ∃ j, j < us.length ∧ ldc us j = some t := by
  unfold ledTo
  rw [List.any_eq_true]
  constructor
  · rintro ⟨j, h1, h2⟩; exact ⟨j, List.mem_range.mp h1, of_decide_eq_true h2⟩
  · rintro ⟨j, h1, h2⟩; exact ⟨j, List.mem_range.mpr h1, decide_eq_true h2⟩
theorem ldc_lt {j t : Nat} (h : ldc us j = some t) : j < us.length := by
  unfold ldc at h
  rcases Nat.lt_or_ge j us.length with g | g
  · exact g
  · rw [List.getElem?_eq_none g] at h; cases h
noncomputable def nmC (c : Nat) : Str := "at" ++ Str.ofString (toString (c : Int))
noncomputable def rowC (us : List Cr) (fc : Nat → Bool) : Cr → Rw
  | .grow n => .grow n
  | .tell => .tell
  | .halt => .halt
  | .jump t => .jump (nmC (bC us fc t))
  | .whn t => .whn (nmC (bC us fc t))
noncomputable def mkC (us : List Cr) (fc : Nat → Bool) (j : Nat) : List (Nat × Rw) := bif ledTo us j then [(bC us fc j, .mark (nmC (bC us fc j)))] else []
noncomputable def plP (us : List Cr) (fc : Nat → Bool) : Nat → List (Nat × Rw)
  | 0 => []
  | j + 1 => plP us fc j ++ mkC us fc j ++ (match us[j]? with
    | some u => [(bC us fc j, rowC us fc u)]
    | none => [])
noncomputable def plA (us : List Cr) (fc : Nat → Bool) : List (Nat × Rw) := plP us fc us.length ++ mkC us fc us.length
theorem plP_succ {j : Nat} {u : Cr} (h : us[j]? = some u) : plP us fc (j + 1) = plP us fc j ++ mkC us fc j ++ [(bC us fc j, rowC us fc u)] := by
  show plP us fc j ++ mkC us fc j ++ (match us[j]? with | some u => [(bC us fc j, rowC us fc u)] | none => []) = _
  rw [h]
theorem mkC_len (j : Nat) : (mkC us fc j).length ≤ 1 := by unfold mkC; cases ledTo us j <;> simp
theorem plP_len : ∀ j, (plP us fc j).length ≤ 2 * j
  | 0 => Nat.le_refl _
  | j + 1 => by
    have ih := plP_len j
    have := mkC_len (us := us) (fc := fc) j
    unfold plP
    rw [List.length_append, List.length_append]
    cases us[j]? with
    | none => simp; omega
    | some u => simp; omega
noncomputable def decC (x : Str) : Nat := (x.cps.toList.drop 2).foldl (fun a c => 10 * a + (c - 48)) 0
theorem names_ok : ((List.range 400).all fun c => niceB (nmC c) && decide ((nmC c).length ≤ 1000) && decide (decC (nmC c) = c)) = true := by decide +kernel
theorem nmC_ok {c : Nat} (h : c < 400) : Nice (nmC c) ∧ decC (nmC c) = c := by
  have := List.all_eq_true.mp names_ok c (List.mem_range.mpr h)
  rw [Bool.and_eq_true, Bool.and_eq_true] at this
  exact ⟨⟨this.1.1, of_decide_eq_true this.1.2⟩, of_decide_eq_true this.2⟩
theorem nmC_inj {c d : Nat} (hc : c < 400) (hd : d < 400) (h : nmC c = nmC d) : c = d := by
  rw [← (nmC_ok hc).2, ← (nmC_ok hd).2, h]
theorem bC_small (cv : CV us fc) {j : Nat} (h : j ≤ us.length) : bC us fc j < 400 := by
  have := bC_le3 (us := us) (fc := fc) j
  have := cv.len
  omega
noncomputable def cntP (l : List (Nat × Rw)) : Nat := l.countP fun q => nonMark q.2
theorem mkC_cnt (j : Nat) : cntP (mkC us fc j) = 0 := by unfold mkC cntP; cases ledTo us j <;> simp [nonMark]
theorem rowC_non (u : Cr) : nonMark (rowC us fc u) = true := by cases u <;> rfl
theorem plP_cnt : ∀ {j : Nat}, j ≤ us.length → cntP (plP us fc j) = j
  | 0, _ => rfl
  | j + 1, h => by
    have ih := plP_cnt (j := j) (by omega)
    have e : us[j]? = some us[j] := List.getElem?_eq_getElem (by omega)
    rw [plP_succ e]
    have m := mkC_cnt (us := us) (fc := fc) j
    unfold cntP at ih m ⊢
    rw [List.countP_append, List.countP_append, ih, m]
    simp [rowC_non]
theorem plA_split {j : Nat} (h : j ≤ us.length) : ∃ rest, plA us fc = plP us fc j ++ mkC us fc j ++ rest := by
  unfold plA
  have go : ∀ d, ∃ rest, plP us fc (j + d) ++ mkC us fc (j + d) = plP us fc j ++ mkC us fc j ++ rest := by
    intro d
    induction d with
    | zero => exact ⟨[], by simp⟩
    | succ d ih =>
      obtain ⟨rest, e⟩ := ih
      refine ⟨rest ++ ((match us[j + d]? with | some u => [(bC us fc (j + d), rowC us fc u)] | none => []) ++ mkC us fc (j + d + 1)), ?_⟩
      show (plP us fc (j + d) ++ mkC us fc (j + d) ++ _) ++ mkC us fc (j + d + 1) = _
      rw [e, List.append_assoc, List.append_assoc, List.append_assoc, List.append_assoc]
      rfl
  obtain ⟨rest, e⟩ := go (us.length - j)
  rw [show j + (us.length - j) = us.length by omega] at e
  exact ⟨rest, e⟩
theorem plP_inv {q : Nat × Rw} : ∀ {m : Nat}, m ≤ us.length → ∀ {i : Nat}, (plP us fc m)[i]? = some q → ∃ j, j < m ∧ q.1 = bC us fc j ∧ cntP ((plP us fc m).take i) = j ∧
    ((ledTo us j = true ∧ q.2 = .mark (nmC (bC us fc j)) ∧ i = (plP us fc j).length) ∨ ∃ u, us[j]? = some u ∧ q.2 = rowC us fc u ∧ i = (plP us fc j).length + (mkC us fc j).length)
  | 0, _, i, h => by simp [plP] at h
  | m + 1, hm, i, h => by
    have e : us[m]? = some us[m] := List.getElem?_eq_getElem (by omega)
    rw [plP_succ e] at h ⊢
    have pc := plP_cnt (us := us) (fc := fc) (j := m) (by omega)
    by_cases h1 : i < (plP us fc m).length
    · rw [List.append_assoc, List.getElem?_append_left h1] at h
      obtain ⟨j, a, b, c, d⟩ := plP_inv (m := m) (by omega) h
      refine ⟨j, by omega, b, ?_, d⟩
      rw [List.append_assoc, List.take_append_of_le_length (by omega)]
      exact c
    · rw [List.append_assoc, List.getElem?_append_right (by omega)] at h
      refine ⟨m, by omega, ?_⟩
      have tk : ∀ l : List (Nat × Rw), (∀ x ∈ l.take (i - (plP us fc m).length), nonMark x.2 = false) → cntP ((plP us fc m ++ l).take i) = m := fun l hl => by
        rw [List.take_append, List.take_of_length_le (by omega)]
        unfold cntP at pc ⊢
        rw [List.countP_append, pc]
        have : List.countP (fun q => nonMark q.2) (l.take (i - (plP us fc m).length)) = 0 := List.countP_eq_zero.mpr fun x hx => by rw [hl x hx]; decide
        omega
      unfold mkC at h ⊢
      cases el : ledTo us m with
      | true =>
        rw [el] at h
        have h : ((bC us fc m, Rw.mark (nmC (bC us fc m))) :: [(bC us fc m, rowC us fc us[m])])[i - (plP us fc m).length]? = some q := h
        have hlt : i - (plP us fc m).length < 2 := (List.getElem?_eq_some_iff.mp h).1
        rcases (show i - (plP us fc m).length = 0 ∨ i - (plP us fc m).length = 1 by omega) with z | z
        · rw [z] at h
          cases h
          refine ⟨rfl, ?_, .inl ⟨rfl, rfl, by omega⟩⟩
          rw [List.append_assoc]
          exact tk _ (by rw [z]; intro x hx; cases hx)
        · rw [z] at h
          cases h
          refine ⟨rfl, ?_, .inr ⟨us[m], e, rfl, by show i = _ + 1; omega⟩⟩
          rw [List.append_assoc]
          refine tk _ ?_
          rw [z]
          intro x hx
          have hx : x ∈ [(bC us fc m, Rw.mark (nmC (bC us fc m)))] := hx
          rw [List.mem_singleton.mp hx]
          rfl
      | false =>
        rw [el] at h
        have h : ([(bC us fc m, rowC us fc us[m])])[i - (plP us fc m).length]? = some q := h
        have hlt : i - (plP us fc m).length < 1 := (List.getElem?_eq_some_iff.mp h).1
        have z : i - (plP us fc m).length = 0 := by omega
        rw [z] at h
        cases h
        refine ⟨rfl, ?_, .inr ⟨us[m], e, rfl, by show i = _ + 0; omega⟩⟩
        rw [List.append_assoc]
        exact tk _ (by rw [z]; intro x hx; cases hx)
theorem plA_inv {q : Nat × Rw} {i : Nat} (h : (plA us fc)[i]? = some q) : ∃ j, j ≤ us.length ∧ q.1 = bC us fc j ∧ cntP ((plA us fc).take i) = j ∧
    ((ledTo us j = true ∧ q.2 = .mark (nmC (bC us fc j)) ∧ i = (plP us fc j).length) ∨ ∃ u, us[j]? = some u ∧ q.2 = rowC us fc u) := by
  unfold plA at h ⊢
  by_cases h1 : i < (plP us fc us.length).length
  · rw [List.getElem?_append_left h1] at h
    obtain ⟨j, a, b, c, d⟩ := plP_inv (Nat.le_refl _) h
    refine ⟨j, by omega, b, by rw [List.take_append_of_le_length (by omega)]; exact c, ?_⟩
    rcases d with d | ⟨u, d1, d2, d3⟩
    · exact .inl d
    · exact .inr ⟨u, d1, d2⟩
  · rw [List.getElem?_append_right (by omega)] at h
    have pc := plP_cnt (us := us) (fc := fc) (Nat.le_refl _)
    unfold mkC at h ⊢
    cases el : ledTo us us.length with
    | false => rw [el] at h; cases h
    | true =>
      rw [el] at h
      have h : ([(bC us fc us.length, Rw.mark (nmC (bC us fc us.length)))])[i - (plP us fc us.length).length]? = some q := h
      have hlt : i - (plP us fc us.length).length < 1 := (List.getElem?_eq_some_iff.mp h).1
      have z : i = (plP us fc us.length).length := by omega
      rw [show i - (plP us fc us.length).length = 0 by omega] at h
      cases h
      refine ⟨us.length, Nat.le_refl _, rfl, ?_, .inl ⟨el, rfl, z⟩⟩
      rw [z, List.take_left']
      · exact pc
      · rfl
noncomputable def backR (us : List Cr) (fc : Nat → Bool) : List Rw := (plA us fc).map (·.2)
theorem backR_at {i : Nat} {r : Rw} (h : (backR us fc)[i]? = some r) : ∃ c, (plA us fc)[i]? = some (c, r) := by
  unfold backR at h
  rw [List.getElem?_map] at h
  cases e : (plA us fc)[i]? with
  | none => rw [e] at h; cases h
  | some q => rw [e] at h; cases h; exact ⟨q.1, rfl⟩
theorem backR_cnt (i : Nat) : cnt (backR us fc) i = cntP ((plA us fc).take i) := by
  unfold cnt backR cntP
  rw [← List.map_take, List.countP_map]
  rfl
theorem mark_there {t : Nat} (h : ledTo us t = true) (ht : t ≤ us.length) : (backR us fc)[(plP us fc t).length]? = some (.mark (nmC (bC us fc t))) := by
  obtain ⟨rest, e⟩ := plA_split (us := us) (fc := fc) ht
  unfold backR
  rw [List.getElem?_map, e, List.append_assoc, List.getElem?_append_right (Nat.le_refl _), Nat.sub_self]
  unfold mkC
  rw [h]
  rfl
theorem once_back (cv : CV us fc) : ∀ (i j : Nat) (x : Str), (backR us fc)[i]? = some (.mark x) → (backR us fc)[j]? = some (.mark x) → i = j := fun i j x h1 h2 => by
  obtain ⟨c1, q1⟩ := backR_at h1
  obtain ⟨c2, q2⟩ := backR_at h2
  obtain ⟨a, la, _, _, k1⟩ := plA_inv q1
  obtain ⟨b, lb, _, _, k2⟩ := plA_inv q2
  rcases k1 with ⟨_, e1, p1⟩ | ⟨u, _, e1⟩
  · rcases k2 with ⟨_, e2, p2⟩ | ⟨u, _, e2⟩
    · have e1 : Rw.mark x = .mark (nmC (bC us fc a)) := e1
      have e2 : Rw.mark x = .mark (nmC (bC us fc b)) := e2
      injection e1 with e1
      injection e2 with e2
      have := bC_inj la lb (nmC_inj (bC_small cv la) (bC_small cv lb) (e1.symm.trans e2))
      subst this
      rw [p1, p2]
    · cases u <;> cases e2
  · cases u <;> cases e1
theorem valid_back (cv : CV us fc) : Valid Nice (backR us fc) where
  nice := fun r hr x hx => by
    obtain ⟨i, hi, e⟩ := List.mem_iff_getElem.mp hr
    obtain ⟨c, q⟩ := backR_at (i := i) (r := r) (by rw [List.getElem?_eq_getElem hi, e])
    obtain ⟨j, lj, _, _, k⟩ := plA_inv q
    rcases k with ⟨_, e1, _⟩ | ⟨u, hu, e1⟩
    · have e1 : r = .mark (nmC (bC us fc j)) := e1
      rw [e1] at hx
      cases hx
      exact (nmC_ok (bC_small cv lj)).1
    · have e1 : r = rowC us fc u := e1
      rw [e1] at hx
      have to : ∀ t, ldc us j = some t → Nice (nmC (bC us fc t)) := fun t h => (nmC_ok (bC_small cv (cv.to j t h))).1
      unfold ldc at to
      rw [hu] at to
      cases u <;> cases hx <;> exact to _ rfl
  once := once_back cv
  led := fun r hr x hx => by
    obtain ⟨i, hi, e⟩ := List.mem_iff_getElem.mp hr
    obtain ⟨c, q⟩ := backR_at (i := i) (r := r) (by rw [List.getElem?_eq_getElem hi, e])
    obtain ⟨j, lj, _, _, k⟩ := plA_inv q
    rcases k with ⟨_, e1, _⟩ | ⟨u, hu, e1⟩
    · have e1 : r = .mark (nmC (bC us fc j)) := e1
      rw [e1] at hx
      cases hx
    · have e1 : r = rowC us fc u := e1
      rw [e1] at hx
      have to : ∀ t, ldc us j = some t → Rw.mark (nmC (bC us fc t)) ∈ backR us fc := fun t h => List.mem_of_getElem? (mark_there (fc := fc) (ledTo_iff.mpr ⟨j, ldc_lt h, h⟩) (cv.to j t h))
      unfold ldc at to
      rw [hu] at to
      cases u <;> cases hx <;> exact to _ rfl
  len := by
    unfold backR plA
    rw [List.length_map, List.length_append]
    have := plP_len (us := us) (fc := fc) us.length
    have := mkC_len (us := us) (fc := fc) us.length
    have := cv.len
    omega
  num := fun n hn => by
    obtain ⟨i, hi, e⟩ := List.mem_iff_getElem.mp hn
    obtain ⟨c, q⟩ := backR_at (i := i) (r := .grow n) (by rw [List.getElem?_eq_getElem hi, e])
    obtain ⟨j, lj, _, _, k⟩ := plA_inv q
    rcases k with ⟨_, e1, _⟩ | ⟨u, hu, e1⟩
    · cases e1
    · cases u with
      | grow m => cases e1; exact cv.num n (List.mem_of_getElem? hu)
      | _ => cases e1
theorem backR_cell {i : Nat} {q : Nat × Rw} (h : (plA us fc)[i]? = some q) : q.1 = bC us fc (cnt (backR us fc) i) := by
  obtain ⟨j, _, e, c, _⟩ := plA_inv h
  rw [backR_cnt, c]
  exact e
end
end SC

set_option maxHeartbeats 2000000
namespace SC
open PySem PySem.Spec PyProof.Rows L2
noncomputable def CellsAt (H : Hp) (c : Addr) (us : List Cr) (fc : Nat → Bool) : Prop := H c = some (.lst ((cellsPC us fc us.length).map V.int))
theorem CellsAt.len {H : Hp} {c : Addr} {us : List Cr} {fc : Nat → Bool} (_ : CellsAt H c us fc) : ((cellsPC us fc us.length).map V.int).length = bC us fc us.length := by rw [List.length_map]; rfl
noncomputable def SIZ : List (Int × V) := [(1, .int 2), (2, .int 1), (3, .int 1), (4, .int 2), (5, .int 3), (6, .int 2), (7, .int 3)]
noncomputable def WRD : List (Int × V) := [(1, .str "grow"), (2, .str "tell"), (3, .str "halt"), (4, .str "jump"), (5, .str "jump"), (6, .str "when"), (7, .str "when")]
theorem siz_at (u : Cr) (f : Bool) (g : Int) : lookI SIZ (u.code1 f) = some (.int (u.cells f g).length) := by
  cases u <;> cases f <;> rfl
theorem wrd_at (u : Cr) (f : Bool) : lookI WRD (u.code1 f) = some (.str u.wd) := by
  cases u <;> cases f <;> rfl
theorem frzD {H : Hp} {d : Addr} {ob : Obj} {kvs : List (Key × V)} {k : Key} (e : H d = some (.frz ob (.dK kvs))) : DGet H d (kV k) (valV kvs k) := .inl ⟨kvs, k, .inr ⟨ob, e⟩, rfl, rfl⟩
section
variable {P : Program} {w : World} {K : PySem.W.Frag} {mg : Str → Option Value} {base : Heap}
noncomputable abbrev s_end_at : Stmt := top 30
theorem sc_end_at : FnScope ["cells", "cell", "first", "end"] ["cells", "cell"] (defScope s_end_at) := ⟨rfl, rfl, rfl, by decide +kernel, rfl, by decide +kernel, by decide +kernel⟩
noncomputable def spEndAt : Sp := fun vs H Q _ => Ex4_5 (fun (c : Addr) (us : List Cr) (fc : Nat → Bool) (j : Nat) => vs = [.ref c, .int (bC us fc j : Nat)]) (fun (c : Addr) (us : List Cr) (fc : Nat → Bool) (j : Nat) => CellsAt H c us fc) (fun (c : Addr) (us : List Cr) (fc : Nat → Bool) (j : Nat) => CV us fc) (fun (c : Addr) (us : List Cr) (fc : Nat → Bool) (j : Nat) => j < us.length) (fun (c : Addr) (us : List Cr) (fc : Nat → Bool) (j : Nat) => ∀ H', Same H H' → Q (.int (bC us fc (j + 1) : Nat)) H')
theorem ok_end_at (D : Def K mg "end_at" s_end_at ["cells", "cell"]) (T : Tx P w K mg) : Has P w K mg base 1 "end_at" ["cells", "cell"] spEndAt := by
  refine D.has sc_end_at (fun vs H Q E h => ?_) (fun f cdv A outer s H vs Q E hr h => ?_)
  · obtain ⟨c, us, fc, j, rfl, _⟩ := h
    rfl
  · obtain ⟨c, us, fc, j, rfl, hc, cv, hj, k⟩ := h
    have hu : us[j]? = some us[j] := List.getElem?_eq_getElem hj
    have sz := siz_at us[j] (fc j) (gapC us fc j)
    have bs := bC_succ (us := us) (fc := fc) j
    rw [rc_at hu] at bs
    have bl := bC_mono (us := us) (fc := fc) (show j + 1 ≤ us.length from hj)
    refine ⟨_, (pss_cons (ps_set (i := 2) sc_end_at.nd rfl (Or.inl rfl) (pe_ix ix_list0 (pv 0) (pv 1) (fun _ _ => rfl)))
      (pss_cons (ps_if (pt_cmp (pc_gnotin T.c_SIZES (pv 2) rfl)) (pss_one ps_never) pss_nil)
      (pss_cons (ps_set (i := 3) sc_end_at.nd rfl (Or.inl rfl) (pe_op op_add (pv 1) (pe_gtabI T.c_SIZES (pv 2) rfl (fun _ _ => rfl))))
      (pss_cons (ps_if (pt_cmpR op_gt (pv 3) (pe_callB call_len_seq0 (by rfl) T.b_len bt_len (pa_cons (pv 0) pa_nil)) (nomark _)) (pss_one ps_never) pss_nil)
      (pss_one (ps_ret (pv 3))))))), ?_⟩
    refine ⟨_, rfl, _, rfl, c, _, _, _, rfl, rfl, SqL.of hc, atI_nat (code_at hu), ?_⟩
    refine ⟨_, rfl, _, rfl, _, rfl, iteF' (by show (!(lookI SIZ _).isSome) = false; rw [sz]; rfl) ?_⟩
    refine ⟨_, rfl, _, rfl, _, _, rfl, sz, _, _, rfl, rfl, ?_⟩
    have e : ((bC us fc j : Nat) : Int) + ((us[j].cells (fc j) (gapC us fc j)).length : Nat) = ((bC us fc (j + 1) : Nat) : Int) := by rw [bs]; push_cast; rfl
    dsimp only [gName]
    rw [e]
    refine ⟨_, rfl, _, rfl, c, _, rfl, .inl (SqL.of hc), _, _, rfl, rfl, _, rfl, iteF' (decide_eq_false (by rw [hc.len]; omega)) ?_⟩
    exact ⟨_, rfl, k H (Same.refl H)⟩
noncomputable abbrev s_ends_of : Stmt := top 31
theorem sc_ends_of : FnScope ["cells", "ends", "cell"] ["cells"] (defScope s_ends_of) := ⟨rfl, rfl, rfl, by decide +kernel, rfl, by decide +kernel, by decide +kernel⟩
noncomputable def spEndsOf : Sp := fun vs H Q _ => Ex3_4 (fun (c : Addr) (us : List Cr) (fc : Nat → Bool) => vs = [.ref c]) (fun (c : Addr) (us : List Cr) (fc : Nat → Bool) => CellsAt H c us fc) (fun (c : Addr) (us : List Cr) (fc : Nat → Bool) => CV us fc) (fun (c : Addr) (us : List Cr) (fc : Nat → Bool) => ∀ d H', H d = none → Same H H' → H' d = some (.dK (endsL us fc us.length)) → Q (.ref d) H')
theorem ok_ends_of (D : Def K mg "ends_of" s_ends_of ["cells"]) (T : Tx P w K mg) (h_end_at : Has P w K mg base 1 "end_at" ["cells", "cell"] spEndAt) : Has P w K mg base 2 "ends_of" ["cells"] spEndsOf := by
  refine D.has sc_ends_of (fun vs H Q E h => ?_) (fun f cdv A outer s H vs Q E hr h => ?_)
  · obtain ⟨c, us, fc, rfl, _⟩ := h
    rfl
  · obtain ⟨c, us, fc, rfl, hc, cv, k⟩ := h
    have hu := hu_of hr
    have hn := cv.len
    refine ⟨_, (pss_cons (ps_set (i := 1) sc_ends_of.nd rfl (Or.inl rfl) pe_dnewK)
      (pss_cons (ps_set (i := 2) sc_ends_of.nd rfl (Or.inl rfl) pe_int)
      (pss_cons (ps_while PassesOwn.never (pt_cmpR op_lt (pv 2) (pe_callB call_len_seq0 (by rfl) T.b_len bt_len (pa_cons (pv 0) pa_nil)) (nomark _)) (pss_cons (ps_dput hu (pv 1) (pv 2) (pe_has h_end_at hr rfl (pa_cons (pv 0) (pa_cons (pv 2) pa_nil))) rfl)
      (pss_one (ps_set (i := 2) sc_ends_of.nd rfl (Or.inl rfl) (pe_dget hu (pv 1) (pv 2) (fun _ _ => rfl))))))
      (pss_one (ps_ret (pv 1)))))), ?_⟩
    intro d hd
    have s0 : Same H (upd H d (.dK [])) := (Same.refl H).upd hd
    refine ⟨fun m σ H2 => ∃ j, σ = [some (.ref c), some (.ref d), some (.int (bC us fc j : Nat))] ∧ j ≤ us.length ∧ m = us.length - j ∧ Same H H2 ∧ H2 d = some (.dK (endsL us fc j)), ⟨_, 0, rfl, Nat.zero_le _, rfl, s0, upd_same⟩, ?_⟩
    rintro m σ H2 ⟨j, rfl, hj, rfl, s2, hd2⟩
    have hc2 : CellsAt H2 c us fc := s2 _ _ hc
    refine ⟨_, rfl, _, rfl, c, _, rfl, .inl (SqL.of hc2), _, _, rfl, rfl, _, rfl, ite2 (fun h1 => ?_) (fun h1 => ?_)⟩
    · have h1 := of_decide_eq_true h1
      rw [hc2.len] at h1
      have hlt : j < us.length := by
        rcases Nat.lt_or_ge j us.length with g | g
        · exact g
        · rw [show j = us.length by omega] at h1; omega
      refine ⟨fun σ' H' => ∃ m', m' < us.length - j ∧ ∃ j, σ' = [some (.ref c), some (.ref d), some (.int (bC us fc j : Nat))] ∧ j ≤ us.length ∧ m' = us.length - j ∧ Same H H' ∧ H' d = some (.dK (endsL us fc j)), fun σ' H' h => h, ?_⟩
      refine ⟨_, rfl, _, rfl, c, us, fc, j, rfl, hc2, cv, hlt, fun H3 s3 => ?_⟩
      have hd3 := s3 _ _ hd2
      have fresh : valV (endsL us fc j) (Sum.inl (bC us fc j : Int)) = none := endsL_none fun i hi z => by
        have := bC_strict (us := us) (fc := fc) hi (by omega)
        omega
      refine ⟨_, rfl, _, rfl, d, _, rfl, DPut.k (k := (Sum.inl (bC us fc j : Int) : Key)) hd3 (by rw [endsL_len]; exact small1000 (by omega)), ?_⟩
      rw [putK_new fresh, ← endsL_succ]
      have g := DGet.k (k := (Sum.inl (bC us fc j : Int) : Key)) (upd_same (H := H3) (a := d) (o := .dK (endsL us fc (j + 1))))
      rw [endsL_val (by omega) (by omega)] at g
      exact ⟨_, rfl, _, rfl, d, _, rfl, g, _, (by omega : us.length - (j + 1) < us.length - j), j + 1, rfl, hlt, rfl, (s2.trans s3).upd hd, upd_same⟩
    · have h1 : ¬ ((bC us fc j : Nat) : Int) < ((((cellsPC us fc us.length).map V.int).length : Nat) : Int) := fun z => h1 (decide_eq_true z)
      rw [hc2.len] at h1
      have e : j = us.length := by
        rcases Nat.lt_or_ge j us.length with g | g
        · have := bC_strict (us := us) (fc := fc) g g; omega
        · omega
      subst e
      exact ⟨_, rfl, k d H2 hd s2 hd2⟩
noncomputable abbrev s_near_gap : Stmt := top 32
theorem sc_near_gap : FnScope ["cells", "cell", "gap"] ["cells", "cell"] (defScope s_near_gap) := ⟨rfl, rfl, rfl, by decide +kernel, rfl, by decide +kernel, by decide +kernel⟩
noncomputable def spNearGap : Sp := fun vs H Q _ => Ex5_6 (fun (c : Addr) (us : List Cr) (fc : Nat → Bool) (j t : Nat) => vs = [.ref c, .int (bC us fc j : Nat)]) (fun (c : Addr) (us : List Cr) (fc : Nat → Bool) (j t : Nat) => CellsAt H c us fc) (fun (c : Addr) (us : List Cr) (fc : Nat → Bool) (j t : Nat) => CV us fc) (fun (c : Addr) (us : List Cr) (fc : Nat → Bool) (j t : Nat) => ldc us j = some t) (fun (c : Addr) (us : List Cr) (fc : Nat → Bool) (j t : Nat) => fc j = false) (fun (c : Addr) (us : List Cr) (fc : Nat → Bool) (j t : Nat) => ∀ H', Same H H' → Q (.int (gapC us fc j)) H')
theorem led_cells {us : List Cr} {fc : Nat → Bool} {j t : Nat} (h : ldc us j = some t) : ∃ u, us[j]? = some u ∧ (u = .jump t ∨ u = .whn t) := by
  unfold ldc at h
  cases e : us[j]? with
  | none => rw [e] at h; cases h
  | some u =>
    rw [e] at h
    cases u with
    | jump x => cases h; exact ⟨_, rfl, .inl rfl⟩
    | whn x => cases h; exact ⟨_, rfl, .inr rfl⟩
    | _ => cases h
theorem ok_near_gap (D : Def K mg "near_gap" s_near_gap ["cells", "cell"]) (T : Tx P w K mg) (h_is_near_gap : Has P w K mg base 1 "is_near_gap" ["gap"] spNear) : Has P w K mg base 2 "near_gap" ["cells", "cell"] spNearGap := by
  refine D.has sc_near_gap (fun vs H Q E h => ?_) (fun f cdv A outer s H vs Q E hr h => ?_)
  · obtain ⟨c, us, fc, j, t, rfl, _⟩ := h
    rfl
  · obtain ⟨c, us, fc, j, t, rfl, hc, cv, ht, hf, k⟩ := h
    obtain ⟨u, hu, hk⟩ := led_cells (fc := fc) ht
    have x1 : (u.cells (fc j) (gapC us fc j))[1]? = some (gapC us fc j) := by rw [hf]; rcases hk with rfl | rfl <;> rfl
    refine ⟨_, (pss_cons (ps_set (i := 2) sc_near_gap.nd rfl (Or.inl rfl) (pe_ix ix_list0 (pv 0) (pe_op op_add (pv 1) pe_int) (fun _ _ => rfl)))
      (pss_cons (ps_if (pt_not (pt_val (pe_has h_is_near_gap hr rfl (pa_cons (pv 2) pa_nil)))) (pss_one ps_never) pss_nil)
      (pss_one (ps_ret (pv 2))))), ?_⟩
    refine ⟨_, rfl, _, rfl, _, _, rfl, rfl, c, _, _, _, rfl, rfl, SqL.of hc, atI_nat (j := bC us fc j + 1) (cell_at1 hu x1), ?_⟩
    refine ⟨_, rfl, _, rfl, fun H1 s1 => ⟨_, rfl, iteF' (by rw [cv.nr j t ht hf]; rfl) ⟨_, rfl, k H1 s1⟩⟩⟩
noncomputable abbrev s_far_gap : Stmt := top 33
theorem sc_far_gap : FnScope ["cells", "cell", "second"] ["cells", "cell"] (defScope s_far_gap) := ⟨rfl, rfl, rfl, by decide +kernel, rfl, by decide +kernel, by decide +kernel⟩
noncomputable def spFarGap : Sp := fun vs H Q _ => Ex5_6 (fun (c : Addr) (us : List Cr) (fc : Nat → Bool) (j t : Nat) => vs = [.ref c, .int (bC us fc j : Nat)]) (fun (c : Addr) (us : List Cr) (fc : Nat → Bool) (j t : Nat) => CellsAt H c us fc) (fun (c : Addr) (us : List Cr) (fc : Nat → Bool) (j t : Nat) => CV us fc) (fun (c : Addr) (us : List Cr) (fc : Nat → Bool) (j t : Nat) => ldc us j = some t) (fun (c : Addr) (us : List Cr) (fc : Nat → Bool) (j t : Nat) => fc j = true) (fun (c : Addr) (us : List Cr) (fc : Nat → Bool) (j t : Nat) => ∀ H', Same H H' → Q (.int (gapC us fc j)) H')
theorem ok_far_gap (D : Def K mg "far_gap" s_far_gap ["cells", "cell"]) (T : Tx P w K mg) : Has P w K mg base 1 "far_gap" ["cells", "cell"] spFarGap := by
  refine D.has sc_far_gap (fun vs H Q E h => ?_) (fun f cdv A outer s H vs Q E hr h => ?_)
  · obtain ⟨c, us, fc, j, t, rfl, _⟩ := h
    rfl
  · obtain ⟨c, us, fc, j, t, rfl, hc, cv, ht, hf, k⟩ := h
    obtain ⟨u, hu, hk⟩ := led_cells (fc := fc) ht
    have x1 : (u.cells (fc j) (gapC us fc j))[1]? = some (gapC us fc j / 16) := by rw [hf]; rcases hk with rfl | rfl <;> rfl
    have x2 : (u.cells (fc j) (gapC us fc j))[2]? = some (gapC us fc j % 16) := by rw [hf]; rcases hk with rfl | rfl <;> rfl
    have m0 := Int.emod_nonneg (gapC us fc j) (show (16 : Int) ≠ 0 by decide)
    have m1 := Int.emod_lt_of_pos (gapC us fc j) (show (0 : Int) < 16 by decide)
    refine ⟨_, (pss_cons (ps_set (i := 2) sc_far_gap.nd rfl (Or.inl rfl) (pe_ix ix_list0 (pv 0) (pe_op op_add (pv 1) pe_int) (fun _ _ => rfl)))
      (pss_cons (ps_if (PW.pt (pw_or (pt_cmpR op_lt (pv 2) pe_int (nomark _)) (pw_or1 (pt_cmpR op_ge (pv 2) (pe_gI rfl T.c_FAR_UNIT) (nomark _))))) (pss_one ps_never) pss_nil)
      (pss_one (ps_ret (pe_op op_add (pe_op op_mul (pe_ix ix_list0 (pv 0) (pe_op op_add (pv 1) pe_int) (fun _ _ => rfl)) (pe_gI rfl T.c_FAR_UNIT)) (pv 2)))))), ?_⟩
    refine ⟨_, rfl, _, rfl, _, _, rfl, rfl, c, _, _, _, rfl, rfl, SqL.of hc, atI_nat (j := bC us fc j + 2) (cell_at1 hu x2), ?_⟩
    refine ⟨_, rfl, _, _, rfl, rfl, _, rfl, iteF' (decide_eq_false (by omega)) ?_⟩
    refine ⟨_, rfl, _, _, rfl, rfl, _, rfl, iteF' (decide_eq_false (by omega)) ?_⟩
    refine ⟨_, rfl, _, rfl, _, _, rfl, rfl, c, _, _, _, rfl, rfl, SqL.of hc, atI_nat (j := bC us fc j + 1) (cell_at1 hu x1), _, _, rfl, rfl, .inr ⟨by decide, by decide⟩, _, rfl, _, _, rfl, rfl, ?_⟩
    dsimp only
    rw [show gapC us fc j / 16 * 16 + gapC us fc j % 16 = gapC us fc j by omega]
    exact k H (Same.refl H)
noncomputable abbrev s_goals_of : Stmt := top 34
theorem sc_goals_of : FnScope ["cells", "ends", "goals", "cell"] ["cells", "ends"] (defScope s_goals_of) := ⟨rfl, rfl, rfl, by decide +kernel, rfl, by decide +kernel, by decide +kernel⟩
noncomputable def spGoalsOf : Sp := fun vs H Q _ => Ex4_5 (fun (c d : Addr) (us : List Cr) (fc : Nat → Bool) => vs = [.ref c, .ref d]) (fun (c d : Addr) (us : List Cr) (fc : Nat → Bool) => CellsAt H c us fc) (fun (c d : Addr) (us : List Cr) (fc : Nat → Bool) => CV us fc) (fun (c d : Addr) (us : List Cr) (fc : Nat → Bool) => H d = some (.dK (endsL us fc us.length))) (fun (c d : Addr) (us : List Cr) (fc : Nat → Bool) => ∀ g H', H g = none → Same H H' → H' g = some (.dK (goalsL us fc us.length)) → Q (.ref g) H')
theorem thaw_same {H H0 H2 : Hp} {d : Addr} {ob : Obj} {kvs : List (Key × V)} (s : Same H H0) (hd : H0 d = some (.dK kvs)) (s2 : Same (upd H0 d (.frz ob (.dK kvs))) H2) : Same H (upd H2 d (.dK kvs)) := fun b o e => by
  have e0 := s b o e
  by_cases z : b = d
  · subst z
    rw [hd] at e0
    rw [upd_same]
    exact e0
  · rw [upd_ne z]
    exact s2 b o (by rw [upd_ne z]; exact e0)
theorem frz_other {H : Hp} {a d : Addr} {o u : HO} (h : H a = some o) (n : a ≠ d) : upd H d u a = some o := by rw [upd_ne n]; exact h
theorem ok_goals_of (D : Def K mg "goals_of" s_goals_of ["cells", "ends"]) (T : Tx P w K mg) (h_near_gap : Has P w K mg base 2 "near_gap" ["cells", "cell"] spNearGap) (h_far_gap : Has P w K mg base 1 "far_gap" ["cells", "cell"] spFarGap) :
    Has P w K mg base 3 "goals_of" ["cells", "ends"] spGoalsOf := by
  refine D.has sc_goals_of (fun vs H Q E h => ?_) (fun f cdv A outer s H vs Q E hr h => ?_)
  · obtain ⟨c, d, us, fc, rfl, _⟩ := h
    rfl
  · obtain ⟨c, d, us, fc, rfl, hc, cv, hd, k⟩ := h
    have hu := hu_of hr
    have hn := cv.len
    refine ⟨_, (pss_cons (ps_set (i := 2) sc_goals_of.nd rfl (Or.inl rfl) pe_dnewK)
      (pss_cons (ps_frz (ps_for PassesOwn.never rfl (pi_keys (pv 1)) (pg_name (i := 3) sc_goals_of.nd rfl (Or.inl rfl))
        (pss_cons (ps_if (pt_cmpR op_in_seq (pe_ix ix_list0 (pv 0) (pv 3) (fun _ _ => rfl)) (pe_gR rfl T.c_NEAR_FIRSTS) (by with_unfolding_all rfl)) (pss_one (ps_dput hu (pv 2) (pv 3) (pe_op op_add (pe_dget hu (pv 1) (pv 3) (fun _ _ => rfl)) (pe_has h_near_gap hr rfl (pa_cons (pv 0) (pa_cons (pv 3) pa_nil)))) rfl)) pss_nil)
      (pss_one (ps_if (pt_cmpR op_in_seq (pe_ix ix_list0 (pv 0) (pv 3) (fun _ _ => rfl)) (pe_gR rfl T.c_FAR_FIRSTS) (by with_unfolding_all rfl)) (pss_one (ps_dput hu (pv 2) (pv 3) (pe_op op_add (pe_dget hu (pv 1) (pv 3) (fun _ _ => rfl)) (pe_has h_far_gap hr rfl (pa_cons (pv 0) (pa_cons (pv 3) pa_nil)))) rfl)) pss_nil)))))
      (pss_one (ps_ret (pv 2))))), ?_⟩
    intro g hg
    have s0 : Same H (upd H g (.dK [])) := (Same.refl H).upd hg
    have hd0 := s0 _ _ hd
    have hg0 : upd H g (.dK []) g = some (.dK []) := upd_same
    generalize upd H g (.dK []) = H0 at s0 hd0 hg0 ⊢
    have ngd : g ≠ d := fun z => by rw [z, hd] at hg; cases hg
    have ncd : c ≠ d := fun z => by have hc : H c = _ := hc; rw [z, hd] at hc; cases hc
    have ncg : c ≠ g := fun z => by have hc : H c = _ := hc; rw [z, hg] at hc; cases hc
    refine ⟨d, _, hd0, fun ob => ?_⟩
    refine ⟨_, rfl, d, ob, _, rfl, upd_same, for_frz (n := us.length) (d := d) (o := .frz ob (.dK (endsL us fc us.length))) (fun i H2 e hi => ⟨e, by rw [endsL_len]; exact hi⟩) (fun i H2 e hi => ⟨e, by rw [endsL_len]; exact hi⟩)
      (fun i σ H2 => ∃ v3, σ = [some (.ref c), some (.ref d), some (.ref g), v3] ∧ H2 d = some (.frz ob (.dK (endsL us fc us.length))) ∧ (∀ b o, b ≠ d → H b = some o → H2 b = some o) ∧ H2 g = some (.dK (goalsL us fc i)))
      ⟨none, rfl, upd_same, fun b o z e => by rw [upd_ne z]; exact s0 b o e, by rw [upd_ne ngd]; exact hg0⟩ (fun i σ H2 _ ⟨_, _, e, _⟩ => e) ?_ ?_⟩
    · rintro i x σ H2 H3 hi ⟨v3, rfl, hd2, s2, hg2⟩ ⟨e3, kk, y, hy, rfl⟩
      subst e3
      rw [endsL_get hi] at hy
      cases hy
      have hui : us[i]? = some us[i] := List.getElem?_eq_getElem hi
      have hc2 : CellsAt H3 c us fc := s2 _ _ ncd hc
      have ge : DGet H3 d (.int (bC us fc i : Nat)) (some (.int (bC us fc (i + 1) : Nat))) := by
        have := frzD (k := (Sum.inl (bC us fc i : Int) : Key)) hd2
        rw [endsL_val (Nat.le_refl _) hi] at this
        exact this
      have none_ : goal1 us fc i = none → goalsL us fc (i + 1) = goalsL us fc i := fun z => by
        show (match goal1 us fc i with | some v => _ | none => _) = _
        rw [z]
      have put : ∀ t, ldc us i = some t → ∀ H4, Same H3 H4 → DPut H4 g (.int (bC us fc i : Nat)) (.int (bC us fc t : Nat)) (upd H4 g (.dK (goalsL us fc (i + 1)))) := fun t ht H4 s4 => by
        have := DPut.k (k := (Sum.inl (bC us fc i : Int) : Key)) (v := .int (bC us fc t : Nat)) (s4 _ _ hg2) (by have := goalsL_len (us := us) (fc := fc) i; exact small1000 (by omega))
        rw [putK_new (goalsL_fresh (by omega))] at this
        have e : goalsL us fc (i + 1) = goalsL us fc i ++ [((Sum.inl (bC us fc i : Int) : Key), V.int (bC us fc t : Nat))] := by
          show (match goal1 us fc i with | some v => _ | none => _) = _
          unfold goal1
          rw [ht]
          rfl
        rw [e]
        exact this
      have fin : ∀ H4, Same H3 H4 → ∀ H5, H5 = upd H4 g (.dK (goalsL us fc (i + 1))) → ∃ v3, [some (V.ref c), some (.ref d), some (.ref g), some (.int (bC us fc i : Nat))] = [some (.ref c), some (.ref d), some (.ref g), v3] ∧ H5 d = some (.frz ob (.dK (endsL us fc us.length))) ∧ (∀ b o, b ≠ d → H b = some o → H5 b = some o) ∧ H5 g = some (.dK (goalsL us fc (i + 1))) := by
        rintro H4 s4 H5 rfl
        refine ⟨_, rfl, by rw [upd_ne (Ne.symm ngd)]; exact s4 _ _ hd2, fun b o z e => ?_, upd_same⟩
        rw [upd_ne (fun q => by rw [q, hg] at e; cases e)]
        exact s4 _ _ (s2 b o z e)
      refine ⟨_, rfl, _, rfl, c, _, _, _, rfl, rfl, SqL.of hc2, atI_nat (code_at hui), fun a ha => ⟨a, _, rfl, .inr (ha H3), rfl, rfl, _, rfl, ?_⟩⟩
      have stay : goal1 us fc i = none → ∃ v3, [some (V.ref c), some (.ref d), some (.ref g), some (.int (bC us fc i : Nat))] = [some (.ref c), some (.ref d), some (.ref g), v3] ∧ H3 d = some (.frz ob (.dK (endsL us fc us.length))) ∧ (∀ b o, b ≠ d → H b = some o → H3 b = some o) ∧ H3 g = some (.dK (goalsL us fc (i + 1))) := fun z => ⟨_, rfl, hd2, s2, by rw [none_ z]; exact hg2⟩
      cases el : ldc us i with
      | none =>
        have g1 : goal1 us fc i = none := by unfold goal1; rw [el]; rfl
        have fi := cv.nf i el
        unfold ldc at el
        rw [hui] at el
        rw [fi]
        generalize us[i] = u at el hui
        cases u with
        | jump t => cases el
        | whn t => cases el
        | grow n => exact iteF' rfl ⟨_, rfl, _, rfl, c, _, _, _, rfl, rfl, SqL.of hc2, atI_nat (code_at hui), fun a ha => ⟨a, _, rfl, .inr (ha H3), rfl, rfl, _, rfl, iteF' (by rw [fi]; rfl) (stay g1)⟩⟩
        | tell => exact iteF' rfl ⟨_, rfl, _, rfl, c, _, _, _, rfl, rfl, SqL.of hc2, atI_nat (code_at hui), fun a ha => ⟨a, _, rfl, .inr (ha H3), rfl, rfl, _, rfl, iteF' (by rw [fi]; rfl) (stay g1)⟩⟩
        | halt => exact iteF' rfl ⟨_, rfl, _, rfl, c, _, _, _, rfl, rfl, SqL.of hc2, atI_nat (code_at hui), fun a ha => ⟨a, _, rfl, .inr (ha H3), rfl, rfl, _, rfl, iteF' (by rw [fi]; rfl) (stay g1)⟩⟩
      | some t =>
        have gp := gap_bC cv el
        obtain ⟨u, hu', hk⟩ := led_cells (fc := fc) el
        rw [hui] at hu'
        have hu' : us[i] = u := Option.some.inj hu'
        have ad : ((bC us fc (i + 1) : Nat) : Int) + gapC us fc i = ((bC us fc t : Nat) : Int) := by rw [gp]; omega
        cases ef : fc i with
        | false =>
          refine iteT' (by rw [hu']; rcases hk with rfl | rfl <;> rfl) ?_
          refine ⟨_, rfl, _, rfl, d, _, rfl, ge, _, rfl, _, rfl, c, us, fc, i, t, rfl, hc2, cv, el, ef, fun H4 s4 => ⟨_, _, rfl, rfl, _, rfl, _, rfl, g, _, rfl, by have e := put t el H4 s4; rw [← ad] at e; exact e, ?_⟩⟩
          have hg5 : ∀ (Hx : Hp), Hx = upd H4 g (.dK (goalsL us fc (i + 1))) → CellsAt Hx c us fc := by
            rintro Hx rfl
            show upd H4 g _ c = _
            rw [upd_ne ncg]
            exact s4 _ _ hc2
          refine ⟨_, rfl, _, rfl, c, _, _, _, rfl, rfl, SqL.of (hg5 _ rfl), atI_nat (code_at hui), fun a ha => ⟨a, _, rfl, .inr (ha _), rfl, rfl, _, rfl, iteF' (by rw [hu', ef]; rcases hk with rfl | rfl <;> rfl) (fin H4 s4 _ rfl)⟩⟩
        | true =>
          refine iteF' (by rw [hu']; rcases hk with rfl | rfl <;> rfl) ?_
          refine ⟨_, rfl, _, rfl, c, _, _, _, rfl, rfl, SqL.of hc2, atI_nat (code_at hui), fun a ha => ⟨a, _, rfl, .inr (ha H3), rfl, rfl, _, rfl, iteT' (by rw [hu', ef]; rcases hk with rfl | rfl <;> rfl) ?_⟩⟩
          exact ⟨_, rfl, _, rfl, d, _, rfl, ge, _, rfl, _, rfl, c, us, fc, i, t, rfl, hc2, cv, el, ef, fun H4 s4 => ⟨_, _, rfl, rfl, _, rfl, _, rfl, g, _, rfl, by have e := put t el H4 s4; rw [← ad] at e; exact e, fin H4 s4 _ rfl⟩⟩
    · rintro σ H2 ⟨v3, rfl, hd2, s2, hg2⟩
      refine ⟨hd2, _, rfl, ?_⟩
      refine k g _ hg (fun b o e => ?_) (by rw [upd_ne ngd]; exact hg2)
      by_cases z : b = d
      · subst z
        rw [hd] at e
        rw [upd_same]
        exact e
      · rw [upd_ne z]
        exact s2 b o z e
noncomputable abbrev s_refuse_other_goals : Stmt := top 35
theorem sc_refuse_other_goals : FnScope ["cells", "ends", "goals", "cell", "goal"] ["cells", "ends", "goals"] (defScope s_refuse_other_goals) := ⟨rfl, rfl, rfl, by decide +kernel, rfl, by decide +kernel, by decide +kernel⟩
noncomputable def spOtherGoals : Sp := fun vs H Q _ => Ex5_7 (fun (c d g : Addr) (us : List Cr) (fc : Nat → Bool) => vs = [.ref c, .ref d, .ref g]) (fun (c d g : Addr) (us : List Cr) (fc : Nat → Bool) => CellsAt H c us fc) (fun (c d g : Addr) (us : List Cr) (fc : Nat → Bool) => CV us fc) (fun (c d g : Addr) (us : List Cr) (fc : Nat → Bool) => H d = some (.dK (endsL us fc us.length))) (fun (c d g : Addr) (us : List Cr) (fc : Nat → Bool) => H g = some (.dK (goalsL us fc us.length))) (fun (c d g : Addr) (us : List Cr) (fc : Nat → Bool) => d ≠ g) (fun (c d g : Addr) (us : List Cr) (fc : Nat → Bool) => ∀ H', Same H H' → Q .non H')
theorem ok_refuse_other_goals (D : Def K mg "refuse_other_goals" s_refuse_other_goals ["cells", "ends", "goals"]) (T : Tx P w K mg) : Has P w K mg base 1 "refuse_other_goals" ["cells", "ends", "goals"] spOtherGoals := by
  refine D.has sc_refuse_other_goals (fun vs H Q E h => ?_) (fun f cdv A outer s H vs Q E hr h => ?_)
  · obtain ⟨c, d, g, us, fc, rfl, _⟩ := h
    rfl
  · obtain ⟨c, d, g, us, fc, rfl, hc, cv, hd, hg, hdg, k⟩ := h
    have hu := hu_of hr
    refine ⟨_, (pss_one (ps_frz (ps_for PassesOwn.never rfl (pi_items (pv 2)) (pg_tup rfl (pgs_cons (pg_name (i := 3) sc_refuse_other_goals.nd rfl (Or.inl rfl)) (pgs_cons (pg_name (i := 4) sc_refuse_other_goals.nd rfl (Or.inl rfl)) pgs_nil)))
        (pss_one (ps_if (PW.pt (pw_and (pt_cmp (pc_dnotin hu (pv 4) (pv 1))) (pw_and1 (pt_cmpR op_ne (pv 4) (pe_callB call_len_seq0 (by rfl) T.b_len bt_len (pa_cons (pv 0) pa_nil)) (nomark _))))) (pss_one ps_never) pss_nil))))), ?_⟩
    refine ⟨g, _, hg, fun ob => ?_⟩
    have ncg : c ≠ g := fun z => by have hc : H c = _ := hc; rw [z, hg] at hc; cases hc
    refine ⟨_, rfl, g, ob, _, rfl, upd_same, for_frz (n := (goalsL us fc us.length).length) (d := g) (o := .frz ob (.dK (goalsL us fc us.length))) (fun i H2 e hi => ⟨e, hi⟩) (fun i H2 e hi => ⟨e, hi⟩)
      (fun i σ H2 => ∃ v3 v4, σ = [some (.ref c), some (.ref d), some (.ref g), v3, v4] ∧ Same (upd H g (.frz ob (.dK (goalsL us fc us.length)))) H2)
      ⟨none, none, rfl, Same.refl _⟩ (fun i σ H2 _ ⟨_, _, _, s2⟩ => s2 _ _ upd_same) ?_ ?_⟩
    · rintro i x σ H2 H3 hi ⟨v3, v4, rfl, s2⟩ ⟨p, kk, y, rfl, hp, rfl, hy⟩
      obtain ⟨j, t, hj, ht, e⟩ := goalsL_mem (List.mem_of_getElem? hy)
      cases e
      have s3 : Same H2 (upd H2 p (.tup [kV (Sum.inl (bC us fc j : Int)), .int (bC us fc t : Nat)])) := (Same.refl H2).upd hp
      have gt : Same (upd H g (.frz ob (.dK (goalsL us fc us.length)))) (upd H2 p (.tup [kV (Sum.inl (bC us fc j : Int)), .int (bC us fc t : Nat)])) := s2.trans s3
      refine ⟨p, _, rfl, SqT.of upd_same, rfl, _, _, rfl, _, _, rfl, rfl, ?_⟩
      have tl := cv.to j t ht
      have hd3 := gt _ _ (frz_other (u := .frz ob (.dK (goalsL us fc us.length))) hd hdg)
      have ge := DGet.k (k := (Sum.inl (bC us fc t : Int) : Key)) hd3
      refine ⟨_, rfl, _, rfl, d, _, rfl, ge, _, rfl, ?_⟩
      by_cases h1 : t < us.length
      · rw [endsL_val (Nat.le_refl _) h1]
        exact iteF (iteF ⟨_, _, rfl, gt⟩)
      · refine ite2 (fun _ => ?_) (fun _ => iteF ⟨_, _, rfl, gt⟩)
        refine ⟨_, rfl, _, rfl, c, _, rfl, .inl (SqL.of (gt _ _ (frz_other hc ncg))), rfl, _, rfl, iteF' ?_ ⟨_, _, rfl, gt⟩⟩
        rw [dV, hc.len, show t = us.length by omega]
        simp
    · rintro σ H2 ⟨v3, v4, rfl, s2⟩
      exact ⟨s2 _ _ upd_same, k _ (thaw_same (Same.refl H) hg s2)⟩
noncomputable abbrev s_cell_name : Stmt := top 36
theorem sc_cell_name : FnScope ["cell"] ["cell"] (defScope s_cell_name) := ⟨rfl, rfl, rfl, by decide +kernel, rfl, by decide +kernel, by decide +kernel⟩
noncomputable def spCellName : Sp := fun vs H Q _ => Ex1_3 (fun (c : Nat) => vs = [.int (c : Nat)]) (fun (c : Nat) => c < 1000) (fun (c : Nat) => ∀ H', Same H H' → Q (.str (nmC c)) H')
theorem ok_cell_name (D : Def K mg "cell_name" s_cell_name ["cell"]) (T : Tx P w K mg) : Has P w K mg base 1 "cell_name" ["cell"] spCellName := by
  refine D.has sc_cell_name (fun vs H Q E h => ?_) (fun f cdv A outer s H vs Q E hr h => ?_)
  · obtain ⟨c, rfl, _⟩ := h
    rfl
  · obtain ⟨c, rfl, hc, k⟩ := h
    refine ⟨_, (pss_one (ps_ret (pe_fmt (pv 0) (by decide +kernel)))), ?_⟩
    exact ⟨_, rfl, _, rfl, by omega, by omega, k H (Same.refl H)⟩
noncomputable abbrev s_row_at : Stmt := top 37
theorem sc_row_at : FnScope ["cells", "goals", "cell", "word"] ["cells", "goals", "cell"] (defScope s_row_at) := ⟨rfl, rfl, rfl, by decide +kernel, rfl, by decide +kernel, by decide +kernel⟩
noncomputable def spRowAt : Sp := fun vs H Q _ => ∃ (c g : Addr) (us : List Cr) (fc : Nat → Bool) (j : Nat) (u : Cr), vs = [.ref c, .ref g, .int (bC us fc j : Nat)] ∧ CellsAt H c us fc ∧ CV us fc ∧ H g = some (.dK (goalsL us fc us.length)) ∧ us[j]? = some u ∧
  ∀ p H', H p = none → Same H H' → H' p = some (.tup (rowC us fc u).tv) → Q (.ref p) H'
theorem ok_row_at (D : Def K mg "row_at" s_row_at ["cells", "goals", "cell"]) (T : Tx P w K mg) (h_cell_name : Has P w K mg base 1 "cell_name" ["cell"] spCellName) : Has P w K mg base 2 "row_at" ["cells", "goals", "cell"] spRowAt := by
  refine D.has sc_row_at (fun vs H Q E h => ?_) (fun f cdv A outer s H vs Q E hr h => ?_)
  · obtain ⟨c, g, us, fc, j, u, rfl, _⟩ := h
    rfl
  · obtain ⟨c, g, us, fc, j, u, rfl, hc, cv, hg, hu1, k⟩ := h
    have hu := hu_of hr
    have hj : j < us.length := (List.getElem?_eq_some_iff.mp hu1).1
    have hin := DGet.k (k := (Sum.inl (bC us fc j : Int) : Key)) hg
    rw [goalsL_val (Nat.le_refl _) hj] at hin
    refine ⟨_, (pss_cons (ps_set (i := 3) sc_row_at.nd rfl (Or.inl rfl) (pe_gtabI T.c_WORDS (pe_ix ix_list0 (pv 0) (pv 2) (fun _ _ => rfl)) rfl (fun _ _ => rfl)))
      (pss_cons (ps_if (pt_cmp (pc_din hu (pv 2) (pv 1))) (pss_one (ps_ret (pe_tup (pa_cons (pv 3) (pa_cons (pe_has h_cell_name hr rfl (pa_cons (pe_dget hu (pv 1) (pv 2) (fun _ _ => rfl)) pa_nil)) pa_nil))))) pss_nil)
      (pss_cons (ps_if (pt_cmpR op_eq (pv 3) pe_str (nomark _)) (pss_one (ps_ret (pe_tup (pa_cons (pv 3) (pa_cons (pe_ix ix_list0 (pv 0) (pe_op op_add (pv 2) pe_int) (fun _ _ => rfl)) pa_nil))))) pss_nil)
      (pss_one (ps_ret (pe_tup (pa_cons (pv 3) pa_nil))))))), ?_⟩
    refine ⟨_, rfl, _, rfl, c, _, _, _, rfl, rfl, SqL.of hc, atI_nat (code_at hu1), _, _, rfl, wrd_at u (fc j), ?_⟩
    refine ⟨_, rfl, _, rfl, g, _, rfl, hin, _, rfl, ?_⟩
    have mk : ∀ xs, xs = (rowC us fc u).tv → ∀ H1, Same H H1 → ∀ p, H1 p = none → Q (.ref p) (upd H1 p (.tup xs)) := fun xs e H1 s1 p hp => by
      subst e
      exact k p _ (s1.free hp) (s1.trans ((Same.refl H1).upd hp)) upd_same
    cases el : ldc us j with
    | none =>
      have g1 : goal1 us fc j = none := by unfold goal1; rw [el]; rfl
      rw [g1]
      have fi := cv.nf j el
      unfold ldc at el
      rw [hu1] at el
      refine iteF ?_
      cases u with
      | jump t => cases el
      | whn t => cases el
      | grow n =>
        refine ⟨_, rfl, rfl, _, rfl, iteT' (decide_eq_true rfl) ?_⟩
        have x1 : ((Cr.grow n).cells (fc j) (gapC us fc j))[1]? = some n := rfl
        exact ⟨_, rfl, _, rfl, _, rfl, _, _, rfl, rfl, c, _, _, _, rfl, rfl, SqL.of hc, atI_nat (j := bC us fc j + 1) (cell_at1 hu1 x1), s1000 (by show 2 ≤ 1000; decide), mk _ rfl H (Same.refl H)⟩
      | tell => exact ⟨_, rfl, rfl, _, rfl, iteF' (by dsimp only [Cr.wd]; decide +kernel) ⟨_, rfl, s1000 (by show 1 ≤ 1000; decide), mk _ rfl H (Same.refl H)⟩⟩
      | halt => exact ⟨_, rfl, rfl, _, rfl, iteF' (by dsimp only [Cr.wd]; decide +kernel) ⟨_, rfl, s1000 (by show 1 ≤ 1000; decide), mk _ rfl H (Same.refl H)⟩⟩
    | some t =>
      have g1 : goal1 us fc j = some (.int (bC us fc t : Nat)) := by unfold goal1; rw [el]; rfl
      rw [g1] at hin
      rw [g1]
      refine iteT ?_
      obtain ⟨u', hu', hk⟩ := led_cells (fc := fc) el
      rw [hu1] at hu'
      cases hu'
      have tl := cv.to j t el
      have bs := bC_small cv tl
      refine ⟨_, rfl, _, rfl, _, rfl, g, _, rfl, hin, _, rfl, by omega, fun H1 s1 => ⟨s1000 (by show 2 ≤ 1000; decide), mk _ ?_ H1 s1⟩⟩
      rcases hk with rfl | rfl <;> rfl
end
end SC

set_option maxHeartbeats 2000000
namespace SC
open PySem PySem.Spec PyProof.Rows L2
noncomputable def PlacedAt (H : Hp) (a : Addr) (pl : List (Nat × Rw)) : Prop := ∃ ps : List Addr, H a = some (.lst (ps.map V.ref)) ∧ Paired (fun p (q : Nat × Rw) => ∃ r, H p = some (.tup [.int (q.1 : Nat), .ref r]) ∧ H r = some (.tup q.2.tv)) ps pl
theorem PlacedAt.same {H H' : Hp} {a : Addr} {pl : List (Nat × Rw)} (h : PlacedAt H a pl) (s : Same H H') : PlacedAt H' a pl := by
  obtain ⟨ps, h1, h2⟩ := h
  exact ⟨ps, s _ _ h1, Paired.mapP h2 fun p q ⟨r, e1, e2⟩ => ⟨r, s _ _ e1, s _ _ e2⟩⟩
theorem PlacedAt.put {H Hx : Hp} {a : Addr} {pl : List (Nat × Rw)} {q : Nat × Rw} {r p : Addr} (h : PlacedAt H a pl) (s : Same H Hx) (hr : Hx r = some (.tup q.2.tv)) (hp : Hx p = none) :
    ∃ xs, upd Hx p (.tup [.int (q.1 : Nat), .ref r]) a = some (.lst xs) ∧ xs.length = pl.length ∧ PlacedAt (upd (upd Hx p (.tup [.int (q.1 : Nat), .ref r])) a (.lst (xs ++ [.ref p]))) a (pl ++ [q]) := by
  obtain ⟨ps, h1, h2⟩ := h
  have h1 := s _ _ h1
  have nap : a ≠ p := ne_of_none h1 hp
  have keep : ∀ b xs, Hx b = some (.tup xs) → upd (upd Hx p (.tup [.int (q.1 : Nat), .ref r])) a (.lst (ps.map V.ref ++ [.ref p])) b = some (.tup xs) := fun b xs e => by
    rw [upd_ne (fun z => by rw [z, h1] at e; cases e), upd_ne (ne_of_none e hp)]
    exact e
  refine ⟨ps.map V.ref, by rw [upd_ne nap]; exact h1, by rw [List.length_map]; exact Paired.length h2, ps ++ [p], by rw [upd_same, List.map_append]; rfl, ?_⟩
  refine paired_snoc' (Paired.mapP h2 fun b q' ⟨r', e1, e2⟩ => ⟨r', keep _ _ (s _ _ e1), keep _ _ (s _ _ e2)⟩) ⟨r, ?_, keep _ _ hr⟩
  rw [upd_ne (Ne.symm nap), upd_same]
theorem frz_upd {H : Hp} {m g : Addr} {o u : HO} (h : H m = none) : Same (upd H g o) (upd (upd H m u) g o) := fun b x e => by
  by_cases z : b = g
  · subst z
    rw [upd_same] at e ⊢
    exact e
  · rw [upd_ne z] at e ⊢
    rw [upd_ne (ne_of_none e h)]
    exact e
section
variable {us : List Cr} {fc : Nat → Bool}
theorem marked_led (cv : CV us fc) {kvs : List (Key × V)} (h : ∀ k : Int, (valV kvs (Sum.inl k)).isSome = true ↔ ∃ x ∈ goalsL us fc us.length, x.2 = .int k) {t : Nat} (ht : t ≤ us.length) : (valV kvs (Sum.inl (bC us fc t : Int))).isSome = ledTo us t := by
  have iff : (valV kvs (Sum.inl (bC us fc t : Int))).isSome = true ↔ ledTo us t = true := by
    rw [h, ledTo_iff]
    constructor
    · rintro ⟨x, hx, e⟩
      obtain ⟨j, t', hj, ht', rfl⟩ := goalsL_mem hx
      have e : V.int (bC us fc t' : Nat) = .int (bC us fc t : Nat) := e
      have e : bC us fc t' = bC us fc t := by injection e with e; omega
      have := bC_inj (cv.to j t' ht') ht e
      subst this
      exact ⟨j, hj, ht'⟩
    · rintro ⟨j, hj, e⟩
      exact ⟨_, goalsL_has e hj, rfl⟩
  cases a : (valV kvs (Sum.inl (bC us fc t : Int))).isSome with
  | true => rw [iff.mp a]
  | false =>
    cases b : ledTo us t with
    | false => rfl
    | true => rw [iff.mpr b] at a; cases a
end
theorem paired_mapR {α β γ : Type} {F : α → γ → Prop} {g : β → γ} {l : List α} {m : List β} (p : Paired (fun a b => F a (g b)) l m) : Paired F l (m.map g) := paired_map (G := F) (g := g) (fun _ _ e => e) p
theorem take_snoc {α : Type} {l : List α} {i : Nat} {q : α} (h : l[i]? = some q) : l.take (i + 1) = l.take i ++ [q] := by rw [List.take_add_one, h]; rfl
theorem comp_rows {K : PySem.W.Frag} {H1 : Hp} {a : Addr} {pl : List (Nat × Rw)} {te : TE} {cs : L2.St} {Q : VK} (hP : PlacedAt H1 a pl) (hl : pl.length ≤ 1000) (hte : ∀ x y H2 Q2, Q2 y H2 → te (some x :: some y :: cs) H2 Q2)
    (hQ : ∀ l H', H1 l = none → Same H1 H' → RowsAt H' l (pl.map (·.2)) → Q (.ref l) H') : ∃ a', V.ref a = .ref a' ∧ (∃ xs, SqL K H1 a' xs) ∧ CompG2 K (Itl K a') tTrue te cs H1 Q := by
  obtain ⟨ps, ha, h2⟩ := hP
  have hlen := Paired.length h2
  refine ⟨a, rfl, ⟨_, SqL.of ha⟩, comp_list2 (xs := ps.map V.ref) (s1000 (by rw [List.length_map]; omega)) (SqL.of ha) (fun i ys H => Same H1 H ∧ ∃ rs : List Addr, ys = rs.map V.ref ∧ rs.length = i ∧ Paired (fun r (q : Nat × Rw) => H r = some (.tup q.2.tv)) rs (pl.take i)) (fun i ys H h => h.1)
    (fun H s => ⟨s, [], rfl, rfl, .nil⟩) (fun i ys zs H l o hl0 hl1 ⟨s, rs, e1, e2, e3⟩ => ?_) (fun i ys H ⟨s, rs, e1, e2, e3⟩ => by rw [e1, List.length_map]; exact e2) (fun i y ys H hy ⟨s, rs, e1, e2, e3⟩ => ?_) (fun l ys H' hl0 ⟨s, rs, e1, e2, e3⟩ hl' => ?_)⟩
  · exact ⟨s.upd hl0, rs, e1, e2, Paired.mapP e3 fun r q e => by rw [upd_ne (fun z => by rw [z, hl1] at e; cases e)]; exact e⟩
  · have hi : i < pl.length := by
      have := (List.getElem?_eq_some_iff.mp hy).1
      rw [List.length_map] at this
      omega
    have hq : pl[i]? = some pl[i] := List.getElem?_eq_getElem hi
    obtain ⟨p, ep, r, f1, f2⟩ := L2.Paired.at h2 hq
    rw [List.getElem?_map, ep] at hy
    cases hy
    refine ⟨p, _, _, rfl, SqT.of (s _ _ f1), fun Q2 k2 => hte _ _ H Q2 (k2 _ H (Same.refl H) ⟨s, rs ++ [r], by rw [e1, List.map_append]; rfl, by rw [List.length_append, e2]; rfl, ?_⟩)⟩
    rw [take_snoc hq]
    exact paired_snoc' e3 (s _ _ f2)
  · refine hQ l H' hl0 s ⟨rs, by rw [hl', e1], ?_⟩
    rw [List.length_map, hlen, List.take_length] at e3
    exact paired_mapR e3
theorem plA_len {us : List Cr} {fc : Nat → Bool} (cv : CV us fc) : (plA us fc).length ≤ 1000 := by
  have := (valid_back cv).len
  unfold backR at this
  rw [List.length_map] at this
  omega
section
variable {P : Program} {w : World} {K : PySem.W.Frag} {mg : Str → Option Value} {base : Heap}
noncomputable abbrev s_placed_rows : Stmt := top 38
theorem sc_placed_rows : FnScope ["cells", "ends", "goals", "marked", "goal", "placed", "cell"] ["cells"] (defScope s_placed_rows) := ⟨rfl, rfl, rfl, by decide +kernel, rfl, by decide +kernel, by decide +kernel⟩
noncomputable def spPlaced : Sp := fun vs H Q _ => Ex3_4 (fun (c : Addr) (us : List Cr) (fc : Nat → Bool) => vs = [.ref c]) (fun (c : Addr) (us : List Cr) (fc : Nat → Bool) => CellsAt H c us fc) (fun (c : Addr) (us : List Cr) (fc : Nat → Bool) => CV us fc) (fun (c : Addr) (us : List Cr) (fc : Nat → Bool) => ∀ a H', H a = none → Same H H' → PlacedAt H' a (plA us fc) → Q (.ref a) H')
theorem ok_placed_rows (D : Def K mg "placed_rows" s_placed_rows ["cells"]) (T : Tx P w K mg) (h_ends_of : Has P w K mg base 2 "ends_of" ["cells"] spEndsOf) (h_goals_of : Has P w K mg base 3 "goals_of" ["cells", "ends"] spGoalsOf)
    (h_refuse_other_goals : Has P w K mg base 1 "refuse_other_goals" ["cells", "ends", "goals"] spOtherGoals) (h_cell_name : Has P w K mg base 1 "cell_name" ["cell"] spCellName) (h_row_at : Has P w K mg base 2 "row_at" ["cells", "goals", "cell"] spRowAt) :
    Has P w K mg base 4 "placed_rows" ["cells"] spPlaced := by
  refine D.has sc_placed_rows (fun vs H Q E h => ?_) (fun f cdv A outer s H vs Q E hr h => ?_)
  · obtain ⟨c, us, fc, rfl, _⟩ := h
    rfl
  · obtain ⟨c, us, fc, rfl, hc, cv, k⟩ := h
    have hu := hu_of hr
    have hn := cv.len
    refine ⟨_, (pss_cons (ps_set (i := 1) sc_placed_rows.nd rfl (Or.inl rfl) (pe_has h_ends_of hr rfl (pa_cons (pv 0) pa_nil)))
      (pss_cons (ps_set (i := 2) sc_placed_rows.nd rfl (Or.inl rfl) (pe_has h_goals_of hr rfl (pa_cons (pv 0) (pa_cons (pv 1) pa_nil))))
      (pss_cons (ps_expr (pe_has h_refuse_other_goals hr rfl (pa_cons (pv 0) (pa_cons (pv 1) (pa_cons (pv 2) pa_nil)))))
      (pss_cons (ps_set (i := 3) sc_placed_rows.nd rfl (Or.inl rfl) pe_dnewK)
      (pss_cons (ps_frz (ps_for PassesOwn.never rfl (pi_vals (pv 2)) (pg_name (i := 4) sc_placed_rows.nd rfl (Or.inl rfl))
        (pss_one (ps_dput hu (pv 3) (pv 4) pe_bl rfl))))
      (pss_cons (ps_set (i := 5) sc_placed_rows.nd rfl (Or.inl rfl) (pe_lst pa_nil))
      (pss_cons (ps_frz (ps_for PassesOwn.never rfl (pi_keys (pv 1)) (pg_name (i := 6) sc_placed_rows.nd rfl (Or.inl rfl))
        (pss_cons (ps_if (pt_cmp (pc_din hu (pv 6) (pv 3))) (pss_one (ps_expr (pe_bmF PySem.F.plainAttrs_list PySem.F.slot_list_append PySem.F.type_list_append mt_append (pv 5) (pa_tup (pe_tup (pa_cons (pv 6) (pa_tup (pe_tup (pa_con pe_str (pa_cons (pe_has h_cell_name hr rfl (pa_cons (pv 6) pa_nil)) pa_nil))) pa_nil))) pa_nil)))) pss_nil)
      (pss_one (ps_expr (pe_bmF PySem.F.plainAttrs_list PySem.F.slot_list_append PySem.F.type_list_append mt_append (pv 5) (pa_tup (pe_tup (pa_cons (pv 6) (pa_cons (pe_has h_row_at hr rfl (pa_cons (pv 0) (pa_cons (pv 2) (pa_cons (pv 6) pa_nil)))) pa_nil))) pa_nil)))))))
      (pss_cons (ps_if (pt_cmp (pc_din hu (pe_callB call_len_seq0 (by rfl) T.b_len bt_len (pa_cons (pv 0) pa_nil)) (pv 3))) (pss_one (ps_expr (pe_bmF PySem.F.plainAttrs_list PySem.F.slot_list_append PySem.F.type_list_append mt_append (pv 5) (pa_tup (pe_tup (pa_cons (pe_callB call_len_seq0 (by rfl) T.b_len bt_len (pa_cons (pv 0) pa_nil)) (pa_tup (pe_tup (pa_con pe_str (pa_cons (pe_has h_cell_name hr rfl (pa_cons (pe_callB call_len_seq0 (by rfl) T.b_len bt_len (pa_cons (pv 0) pa_nil)) pa_nil)) pa_nil))) pa_nil))) pa_nil)))) pss_nil)
      (pss_one (ps_ret (pv 5))))))))))), ?_⟩
    refine ⟨_, rfl, c, us, fc, rfl, hc, cv, fun d H1 hd s1 hd1 => ?_⟩
    refine ⟨_, rfl, _, rfl, c, d, us, fc, rfl, s1 _ _ hc, cv, hd1, fun g H2 hg s2 hg2 => ?_⟩
    refine ⟨_, rfl, _, rfl, _, rfl, c, d, g, us, fc, rfl, s2 _ _ (s1 _ _ hc), cv, s2 _ _ hd1, hg2, ne_of_none hd1 hg, fun H3 s3 => ?_⟩
    have sA := (s1.trans s2).trans s3
    have hc3 : CellsAt H3 c us fc := sA _ _ hc
    have hd3 := s3 _ _ (s2 _ _ hd1)
    have hg3 := s3 _ _ hg2
    have ndg : d ≠ g := ne_of_none hd1 hg
    clear hg2 hd1
    have ncd : c ≠ d := fun z => by have hc3 : H3 c = _ := hc3; rw [z, hd3] at hc3; cases hc3
    have ncg : c ≠ g := fun z => by have hc3 : H3 c = _ := hc3; rw [z, hg3] at hc3; cases hc3
    intro m hm
    have nmg : m ≠ g := fun z => by rw [z, hg3] at hm; cases hm
    have nmd : m ≠ d := fun z => by rw [z, hd3] at hm; cases hm
    refine ⟨g, _, by rw [upd_ne (Ne.symm nmg)]; exact hg3, fun ob => ?_⟩
    refine ⟨_, rfl, g, ob, _, rfl, upd_same, for_frz (n := (goalsL us fc us.length).length) (d := g) (o := .frz ob (.dK (goalsL us fc us.length))) (fun i H2 e hi => ⟨e, hi⟩) (fun i H2 e hi => ⟨e, hi⟩)
      (fun i σ H5 => ∃ v4 kvs, σ = [some (.ref c), some (.ref d), some (.ref g), some (.ref m), v4, none, none] ∧ Same (upd H3 g (.frz ob (.dK (goalsL us fc us.length)))) H5 ∧ H5 m = some (.dK kvs) ∧ kvs.length ≤ i ∧ ∀ k : Int, (valV kvs (Sum.inl k)).isSome = true ↔ ∃ x ∈ (goalsL us fc us.length).take i, x.2 = .int k)
      ⟨none, [], rfl, frz_upd hm, by rw [upd_ne nmg]; exact upd_same, Nat.zero_le _, fun k => ⟨fun z => (by cases z), fun ⟨x, hx, _⟩ => (by simp at hx)⟩⟩ (fun i σ H5 _ ⟨_, _, _, s5, _⟩ => s5 _ _ upd_same) ?_ ?_⟩
    · rintro i x σ H5 H6 hi ⟨v4, kvs, rfl, s5, hm5, hlen, hval⟩ ⟨e6, kk, hy⟩
      subst e6
      obtain ⟨j, t, hj, ht, e⟩ := goalsL_mem (List.mem_of_getElem? hy)
      cases e
      have gl := goalsL_len (us := us) (fc := fc) us.length
      refine ⟨_, rfl, _, rfl, m, _, rfl, DPut.k (k := (Sum.inl (bC us fc t : Int) : Key)) hm5 (small1000 (by omega)), ?_⟩
      have hm0 : upd H3 g (.frz ob (.dK (goalsL us fc us.length))) m = none := by rw [upd_ne nmg]; exact hm
      refine ⟨_, _, rfl, s5.upd hm0, upd_same, Nat.le_trans (length_putK _ _ _) (by omega), fun k => ?_⟩
      rw [valV_put, List.take_add_one, hy]
      by_cases z : (Sum.inl k : Key) = Sum.inl (bC us fc t : Int)
      · rw [if_pos z]
        have z := Sum.inl.inj z
        subst z
        exact ⟨fun _ => ⟨_, List.mem_append_right _ (List.mem_singleton.mpr rfl), rfl⟩, fun _ => rfl⟩
      · rw [if_neg z, hval k]
        constructor
        · rintro ⟨x, hx, e⟩
          exact ⟨x, List.mem_append_left _ hx, e⟩
        · rintro ⟨x, hx, e⟩
          rcases List.mem_append.mp hx with hx | hx
          · exact ⟨x, hx, e⟩
          · have hx := List.mem_singleton.mp hx
            subst hx
            have e : V.int (bC us fc t : Nat) = .int k := e
            injection e with e
            exact absurd (by rw [e]) z
    rintro σ H5 ⟨v4, kvs, rfl, s5, hm5, hlen, hval⟩
    refine ⟨s5 _ _ upd_same, ?_⟩
    rw [List.take_length] at hval
    have led := fun (t : Nat) (ht : t ≤ us.length) => marked_led cv hval ht
    have s6 : Same H3 (upd H5 g (.dK (goalsL us fc us.length))) := thaw_same (Same.refl H3) hg3 s5
    have hm6 : upd H5 g (.dK (goalsL us fc us.length)) m = some (.dK kvs) := by rw [upd_ne nmg]; exact hm5
    generalize upd H5 g (.dK (goalsL us fc us.length)) = H6 at s6 hm6 ⊢
    have hd6 := s6 _ _ hd3
    have hg6 := s6 _ _ hg3
    have hc6 : CellsAt H6 c us fc := s6 _ _ hc3
    refine ⟨by decide, fun a ha => ?_⟩
    have nad : a ≠ d := fun z => by rw [z, hd6] at ha; cases ha
    refine ⟨d, _, by rw [upd_ne (Ne.symm nad)]; exact hd6, fun ob => ?_⟩
    have frzd : ∀ {H7 : Hp}, Same (upd H6 d (.frz ob (.dK (endsL us fc us.length)))) H7 → CellsAt H7 c us fc ∧ H7 m = some (.dK kvs) ∧ H7 g = some (.dK (goalsL us fc us.length)) := fun s7 => ⟨s7 _ _ (frz_other hc6 ncd), s7 _ _ (frz_other hm6 nmd), s7 _ _ (frz_other hg6 (Ne.symm ndg))⟩
    have ha0 : upd H6 d (.frz ob (.dK (endsL us fc us.length))) a = none := by rw [upd_ne nad]; exact ha
    refine ⟨_, rfl, d, ob, _, rfl, upd_same, for_frz (n := us.length) (d := d) (o := .frz ob (.dK (endsL us fc us.length))) (fun i H2 e hi => ⟨e, by rw [endsL_len]; exact hi⟩) (fun i H2 e hi => ⟨e, by rw [endsL_len]; exact hi⟩)
      (fun i σ H7 => ∃ v4 v6, σ = [some (.ref c), some (.ref d), some (.ref g), some (.ref m), v4, some (.ref a), v6] ∧ Same (upd H6 d (.frz ob (.dK (endsL us fc us.length)))) H7 ∧ PlacedAt H7 a (plP us fc i))
      ⟨_, none, rfl, frz_upd ha, [], by rw [upd_ne nad]; exact upd_same, .nil⟩ (fun i σ H7 _ ⟨_, _, _, s7, _⟩ => s7 _ _ upd_same) ?_ ?_⟩
    · rintro i x σ H7 H8 hi ⟨v4, v6, rfl, s7, hP⟩ ⟨e8, kk, y, hy, rfl⟩
      subst e8
      rw [endsL_get hi] at hy
      cases hy
      have hui : us[i]? = some us[i] := List.getElem?_eq_getElem hi
      have bs := bC_small cv (Nat.le_of_lt hi)
      have pl := plP_len (us := us) (fc := fc) i
      have mlen := mkC_len (us := us) (fc := fc) i
      dsimp only [gName, kV]
      refine seq_cut (fun σ H9 => σ = [some (.ref c), some (.ref d), some (.ref g), some (.ref m), v4, some (.ref a), some (.int (bC us fc i : Nat))] ∧ Same (upd H6 d (.frz ob (.dK (endsL us fc us.length)))) H9 ∧ PlacedAt H9 a (plP us fc i ++ mkC us fc i)) (fun D' hJ => ?_) ?_
      · obtain ⟨_, hm8, _⟩ := frzd s7
        have gm := DGet.k (k := (Sum.inl (bC us fc i : Int) : Key)) hm8
        refine ⟨_, rfl, _, rfl, m, _, rfl, gm, _, rfl, ?_⟩
        rw [led i (Nat.le_of_lt hi)]
        cases el : ledTo us i with
        | false =>
          refine iteF (hJ _ _ ⟨rfl, s7, ?_⟩)
          unfold mkC
          rw [el]
          show PlacedAt H8 a (plP us fc i ++ [])
          rw [List.append_nil]
          exact hP
        | true =>
          refine iteT ?_
          obtain ⟨ps0, hp0, _⟩ := id hP
          refine ⟨_, rfl, .inl ⟨rfl, _, SqL.of hp0⟩, _, rfl, _, rfl, _, rfl, by omega, fun H9 s9 => ⟨s1000 (by show 2 ≤ 1000; decide), fun r hr9 => ⟨s1000 (by show 2 ≤ 1000; decide), fun p hp => ?_⟩⟩⟩
          have s10 := s9.trans ((Same.refl H9).upd (o := .tup [.str "mark", .str (nmC (bC us fc i))]) hr9)
          obtain ⟨xs, g1, g2, g3⟩ := hP.put (q := (bC us fc i, .mark (nmC (bC us fc i)))) s10 upd_same hp
          refine ⟨a, _, _, rfl, rfl, g1, small1000 (by omega), hJ _ _ ⟨rfl, ?_, ?_⟩⟩
          · exact ((s7.trans s10).trans ((Same.refl _).upd hp)).upd ha0
          · unfold mkC
            rw [el]
            exact g3
      · rintro σ H9 ⟨rfl, s9, hP9⟩
        obtain ⟨hc9, hm9, hg9⟩ := frzd s9
        obtain ⟨ps0, hp0, _⟩ := id hP9
        refine ⟨_, rfl, .inl ⟨rfl, _, SqL.of hp0⟩, _, rfl, _, rfl, _, rfl, _, rfl, c, g, us, fc, i, us[i], rfl, hc9, cv, hg9, hui, fun r H10 hr10 s10 hr11 => ⟨s1000 (by show 2 ≤ 1000; decide), fun p hp => ?_⟩⟩
        obtain ⟨xs, g1, g2, g3⟩ := hP9.put (q := (bC us fc i, rowC us fc us[i])) s10 hr11 hp
        refine ⟨a, _, _, rfl, rfl, g1, small1000 (by rw [g2, List.length_append]; omega), _, _, rfl, ?_, ?_⟩
        · exact ((s9.trans s10).trans ((Same.refl _).upd hp)).upd ha0
        · rw [plP_succ hui]
          exact g3
    rintro σ H7 ⟨v4, v6, rfl, s7, hP⟩
    refine ⟨s7 _ _ upd_same, ?_⟩
    have s8 : Same H6 (upd H7 d (.dK (endsL us fc us.length))) := thaw_same (Same.refl H6) hd6 s7
    have hP8 : PlacedAt (upd H7 d (.dK (endsL us fc us.length))) a (plP us fc us.length) := by
      have hd7 := s7 _ _ upd_same
      obtain ⟨ps, h1, h2⟩ := hP
      have keep : ∀ b o, b ≠ d → H7 b = some o → upd H7 d (.dK (endsL us fc us.length)) b = some o := fun b o z e => by rw [upd_ne z]; exact e
      have nt : ∀ b xs, H7 b = some (.tup xs) → b ≠ d := fun b xs e z => by rw [z, hd7] at e; cases e
      exact ⟨ps, keep _ _ nad h1, Paired.mapP h2 fun p q ⟨r, e1, e2⟩ => ⟨r, keep _ _ (nt _ _ e1) e1, keep _ _ (nt _ _ e2) e2⟩⟩
    generalize upd H7 d (.dK (endsL us fc us.length)) = H8 at s8 hP8 ⊢
    have hc8 : CellsAt H8 c us fc := s8 _ _ hc6
    have hm8 := s8 _ _ hm6
    have sH := sA.trans s6
    have bs := bC_small cv (Nat.le_refl us.length)
    have pl := plP_len (us := us) (fc := fc) us.length
    have aH : H a = none := sH.free ha
    dsimp only
    refine seq_cut (fun σ H9 => (∃ v6, σ = [some (.ref c), some (.ref d), some (.ref g), some (.ref m), v4, some (.ref a), v6]) ∧ Same H6 H9 ∧ PlacedAt H9 a (plA us fc)) (fun D' hJ => ?_) ?_
    · have gm := DGet.k (k := (Sum.inl (((cellsPC us fc us.length).map V.int).length : Nat) : Key)) hm8
      refine ⟨_, rfl, c, _, rfl, .inl (SqL.of hc8), _, rfl, m, _, rfl, gm, _, rfl, ?_⟩
      rw [hc8.len, led us.length (Nat.le_refl _)]
      cases el : ledTo us us.length with
      | false =>
        refine iteF (hJ _ _ ⟨⟨_, rfl⟩, s8, ?_⟩)
        unfold plA mkC
        rw [el]
        show PlacedAt H8 a (plP us fc us.length ++ [])
        rw [List.append_nil]
        exact hP8
      | true =>
        refine iteT ?_
        obtain ⟨ps0, hp0, _⟩ := id hP8
        refine ⟨_, rfl, .inl ⟨rfl, _, SqL.of hp0⟩, _, rfl, c, _, rfl, .inl (SqL.of hc8), _, rfl, c, _, rfl, .inl (SqL.of hc8), bC us fc us.length, by rw [hc8.len]; rfl, by omega, fun H9 s9 => ⟨s1000 (by show 2 ≤ 1000; decide), fun r hr9 => ⟨s1000 (by show 2 ≤ 1000; decide), fun p hp => ?_⟩⟩⟩
        have s10 := s9.trans ((Same.refl H9).upd (o := .tup [.str "mark", .str (nmC (bC us fc us.length))]) hr9)
        obtain ⟨xs, g1, g2, g3⟩ := hP8.put (q := (bC us fc us.length, .mark (nmC (bC us fc us.length)))) s10 upd_same hp
        rw [hc8.len]
        refine ⟨a, _, _, rfl, rfl, g1, small1000 (by omega), hJ _ _ ⟨⟨_, rfl⟩, ?_, ?_⟩⟩
        · exact ((s8.trans s10).trans ((Same.refl _).upd hp)).upd ha
        · unfold plA mkC
          rw [el]
          exact g3
    · rintro σ H9 ⟨⟨v6, rfl⟩, s9, hP9⟩
      exact ⟨_, rfl, k a H9 aH (sH.trans s9) hP9⟩
noncomputable abbrev s_rows_of : Stmt := top 39
theorem sc_rows_of : FnScope ["cells"] ["cells"] (defScope s_rows_of) := ⟨rfl, rfl, rfl, by decide +kernel, rfl, by decide +kernel, by decide +kernel⟩
noncomputable def spRowsG : Sp := fun vs H Q _ => Ex3_4 (fun (c : Addr) (us : List Cr) (fc : Nat → Bool) => vs = [.ref c]) (fun (c : Addr) (us : List Cr) (fc : Nat → Bool) => CellsAt H c us fc) (fun (c : Addr) (us : List Cr) (fc : Nat → Bool) => CV us fc) (fun (c : Addr) (us : List Cr) (fc : Nat → Bool) => ∀ l H', H l = none → Same H H' → RowsAt H' l (backR us fc) → Q (.ref l) H')
theorem ok_rows_of (D : Def K mg "rows_of" s_rows_of ["cells"]) (T : Tx P w K mg) (h_placed_rows : Has P w K mg base 4 "placed_rows" ["cells"] spPlaced) : Has P w K mg base 5 "rows_of" ["cells"] spRowsG := by
  refine D.has sc_rows_of (fun vs H Q E h => ?_) (fun f cdv A outer s H vs Q E hr h => ?_)
  · obtain ⟨c, us, fc, rfl, _⟩ := h
    rfl
  · obtain ⟨c, us, fc, rfl, hc, cv, k⟩ := h
    refine ⟨_, (pss_one (ps_ret (pe_comp2 rfl (x := "cell") (x2 := "row") (xs := []) (caps := []) (osc := defScope s_rows_of) ⟨rfl, rfl, by decide +kernel, by decide +kernel, rfl, rfl, by decide +kernel, by decide +kernel, by decide +kernel, .nil⟩ (pi_list (pe_has h_placed_rows hr rfl (pa_cons (pv 0) pa_nil))) (fun _ _ _ => (pv 1)) (fun _ _ _ => pifs_nil)))), ?_⟩
    exact ⟨_, rfl, c, us, fc, rfl, hc, cv, fun a H1 ha s1 hP => comp_rows (K := K) hP (plA_len cv) (fun x y H2 Q2 q => ⟨_, rfl, q⟩) fun l H2 hl s2 hR => k l H2 (s1.free hl) (s1.trans s2) hR⟩
end
end SC

set_option maxHeartbeats 2000000
namespace SC
open PySem PySem.Spec PyProof.Rows L2
theorem wtrail_lt {rs : List Rw} {steps : Nat} {n : Int} : ∀ k, ∀ p ∈ (wit rs steps ⟨0, n, [], []⟩ k).trail, p.1 < rs.length
  | 0, p, h => by cases h
  | k + 1, p, h => by
    have ih := wtrail_lt (rs := rs) (steps := steps) (n := n) k
    have h : p ∈ (wnext rs steps (wit rs steps ⟨0, n, [], []⟩ k)).trail := h
    generalize wit rs steps ⟨0, n, [], []⟩ k = s at ih h
    unfold wnext at h
    cases hr : runs rs steps s with
    | false => rw [hr] at h; exact ih p h
    | true =>
      rw [hr] at h
      unfold runs at hr
      rw [Bool.and_eq_true] at hr
      have h1 := of_decide_eq_true hr.1
      rw [List.getElem?_eq_getElem h1] at h
      have h : p ∈ (wrow rs s rs[s.place]).trail := h
      have up : ∀ m : Int, p ∈ s.trail ++ [(s.place, m)] → p.1 < rs.length := fun m hm => by
        rcases List.mem_append.mp hm with z | z
        · exact ih p z
        · rw [List.mem_singleton.mp z]; exact h1
      cases er : rs[s.place] with
      | mark x => rw [er] at h; exact ih p h
      | _ => rw [er] at h; exact up _ h
section
variable {P : Program} {w : World} {K : PySem.W.Frag} {mg : Str → Option Value} {base : Heap}
noncomputable abbrev s_walked_cells : Stmt := top 44
theorem sc_walked_cells : FnScope ["cells", "number", "steps", "placed", "walked"] ["cells", "number", "steps"] (defScope s_walked_cells) := ⟨rfl, rfl, rfl, by decide +kernel, rfl, by decide +kernel, by decide +kernel⟩
noncomputable def spWCellsG : Sp := fun vs H Q _ => ∃ (c : Addr) (us : List Cr) (fc : Nat → Bool) (n : Int) (steps : Nat), vs = [.ref c, .int n, .int (steps : Nat)] ∧ CellsAt H c us fc ∧ CV us fc ∧ steps ≤ 600 ∧
  ∀ t H' e, H t = none → Same H H' → WEnds (backR us fc) steps ⟨0, n, [], []⟩ e → WOk steps e → TrailAt H' t (e.trail.map fun p => ((bC us fc (cnt (backR us fc) p.1) : Nat), p.2)) e.told → Q (.ref t) H'
theorem ok_walked_cells (D : Def K mg "walked_cells" s_walked_cells ["cells", "number", "steps"]) (T : Tx P w K mg) (h_placed_rows : Has P w K mg base 4 "placed_rows" ["cells"] spPlaced) (h_walked_rows : Has P w K mg base 5 "walked_rows" ["rows", "number", "steps"] spWRows) :
    Has P w K mg base 6 "walked_cells" ["cells", "number", "steps"] spWCellsG := by
  refine D.has sc_walked_cells (fun vs H Q E h => ?_) (fun f cdv A outer s H vs Q E hr h => ?_)
  · obtain ⟨c, us, fc, n, steps, rfl, _⟩ := h
    rfl
  · obtain ⟨c, us, fc, n, steps, rfl, hc, cv, hst, k⟩ := h
    refine ⟨_, (pss_cons (ps_set (i := 3) sc_walked_cells.nd rfl (Or.inr rfl) (pe_has h_placed_rows hr rfl (pa_cons (pv 0) pa_nil)))
      (pss_cons (ps_set (i := 4) sc_walked_cells.nd rfl (Or.inl rfl) (pe_has h_walked_rows hr rfl (pa_cons (pe_comp2 rfl (x := "cell") (x2 := "row") (xs := []) (caps := []) (osc := defScope s_walked_cells) ⟨rfl, rfl, by decide +kernel, by decide +kernel, rfl, rfl, by decide +kernel, by decide +kernel, by decide +kernel, .nil⟩ (pi_list (pv 3)) (fun _ _ _ => (pv 1)) (fun _ _ _ => pifs_nil)) (pa_cons (pv 1) (pa_cons (pv 2) pa_nil)))))
      (pss_one (ps_ret (pe_tup (pa_cons (pe_comp2 rfl (x := "place") (x2 := "held") (xs := ["placed"]) (caps := [3]) (osc := defScope s_walked_cells) ⟨rfl, rfl, by decide +kernel, by decide +kernel, rfl, rfl, by decide +kernel, by decide +kernel, by decide +kernel, (.cons ⟨rfl, by decide +kernel⟩ (.nil))⟩ (pi_list (pe_ix ix_tup0 (pv 4) pe_int (fun _ _ => rfl))) (fun _ _ _ => (pe_tup (pa_cons (pe_ix ix_tup0 (pe_ix ix_list0 (pv 2) (pv 0) (fun _ _ => rfl)) pe_int (fun _ _ => rfl)) (pa_cons (pv 1) pa_nil)))) (fun _ _ _ => pifs_nil)) (pa_cons (pe_ix ix_tup0 (pv 4) pe_int (fun _ _ => rfl)) pa_nil))))))), ?_⟩
    refine ⟨_, rfl, c, us, fc, rfl, hc, cv, fun a H1 ha s1 hP => ?_⟩
    refine ⟨_, rfl, comp_rows (K := K) hP (plA_len cv) (fun x y H2 Q2 q => ⟨_, rfl, q⟩) fun l H2 hl s2 hR2 => ?_⟩
    refine ⟨_, rfl, _, rfl, l, backR us fc, n, steps, rfl, hR2, valid_back cv, hst, fun t H3 e ht s3 hE hO hT => ?_⟩
    have hP3 := (hP.same s2).same s3
    obtain ⟨lt, lo, qs, ht3, hlt3, hPd, hlo3⟩ := hT
    obtain ⟨ps, ha3, hpp⟩ := hP3
    have hlen := Paired.length hPd
    rw [List.length_map] at hlen
    have hol := hO.2
    have hlp := Paired.length hpp
    refine ⟨_, rfl, t, _, 0, _, rfl, rfl, SqT.of ht3, atI_nat (j := 0) rfl, lt, rfl, ⟨_, SqL.of hlt3⟩, comp_list2 (xs := qs.map V.ref) (s1000 (by rw [List.length_map]; omega)) (SqL.of hlt3)
      (fun i ys H => Same H3 H ∧ ∃ rs : List Addr, ys = rs.map V.ref ∧ rs.length = i ∧ Paired (fun r (p : Int × Int) => H r = some (.tup [.int p.1, .int p.2])) rs ((e.trail.map fun p => (((bC us fc (cnt (backR us fc) p.1) : Nat) : Int), p.2)).take i)) (fun i ys H h => h.1)
      (fun H s => ⟨s, [], rfl, rfl, .nil⟩) (fun i ys zs H l o hl0 hl1 ⟨s, rs, e1, e2, e3⟩ => ⟨s.upd hl0, rs, e1, e2, Paired.mapP e3 fun r q e => by rw [upd_ne (fun z => by rw [z, hl1] at e; cases e)]; exact e⟩) (fun i ys H ⟨s, rs, e1, e2, e3⟩ => by rw [e1, List.length_map]; exact e2) (fun i y ys H hy ⟨s, rs, e1, e2, e3⟩ => ?_) (fun l2 ys H' hl0 ⟨s, rs, e1, e2, e3⟩ hl' => ?_)⟩
    · have hi : i < e.trail.length := by
        have := (List.getElem?_eq_some_iff.mp hy).1
        rw [List.length_map] at this
        omega
      have hq : e.trail[i]? = some e.trail[i] := List.getElem?_eq_getElem hi
      obtain ⟨p, ep, f1⟩ := L2.Paired.at hPd (i := i) (b := (((e.trail[i].1 : Nat) : Int), e.trail[i].2)) (by rw [List.getElem?_map, hq]; rfl)
      rw [List.getElem?_map, ep] at hy
      cases hy
      have hlt : e.trail[i].1 < (plA us fc).length := by
        obtain ⟨⟨kk, rfl⟩, _⟩ := hE
        have := wtrail_lt kk _ (List.getElem_mem hi)
        unfold backR at this
        rw [List.length_map] at this
        exact this
      have hpl : (plA us fc)[e.trail[i].1]? = some (plA us fc)[e.trail[i].1] := List.getElem?_eq_getElem hlt
      obtain ⟨p2, ep2, r2, g1, g2⟩ := L2.Paired.at hpp hpl
      have ce := backR_cell hpl
      refine ⟨p, _, _, rfl, SqT.of (s _ _ f1), fun Q2 k2 => ?_⟩
      refine ⟨_, rfl, _, rfl, a, _, e.trail[i].1, _, rfl, rfl, SqL.of (s _ _ ha3), atI_nat (by rw [List.getElem?_map, ep2]; rfl), p2, _, 0, _, rfl, rfl, SqT.of (s _ _ g1), atI_nat (j := 0) rfl, _, rfl, s1000 (by show 2 ≤ 1000; decide), fun t2 ht2 => ?_⟩
      have s2 := (Same.refl H).upd (o := .tup [.int ((plA us fc)[e.trail[i].1].1 : Nat), .int e.trail[i].2]) ht2
      refine k2 _ _ s2 ⟨s.trans s2, rs ++ [t2], by rw [e1, List.map_append]; rfl, by rw [List.length_append, e2]; rfl, ?_⟩
      rw [take_snoc (q := (((bC us fc (cnt (backR us fc) e.trail[i].1) : Nat) : Int), e.trail[i].2)) (by rw [List.getElem?_map, hq]; rfl)]
      refine paired_snoc' (Paired.mapP e3 fun r q e => s2 _ _ e) ?_
      rw [upd_same, ce]
    · rw [List.length_map, hlen] at e3
      rw [List.take_of_length_le (by rw [List.length_map]; omega)] at e3
      refine ⟨_, rfl, t, _, 1, _, rfl, rfl, SqT.of (s _ _ ht3), atI_nat (j := 1) rfl, s1000 (by show 2 ≤ 1000; decide), fun t' ht' => ?_⟩
      have sx := (Same.refl H').upd (o := .tup [.ref l2, .ref lo]) ht'
      have sA := ((s1.trans s2).trans s3).trans s
      refine k t' _ e (sA.free ht') (sA.trans sx) hE hO ⟨l2, lo, rs, upd_same, sx _ _ (by rw [hl', e1]), Paired.mapP e3 fun r q e => sx _ _ e, sx _ _ (s _ _ hlo3)⟩
end
end SC

namespace SC
open PySem PySem.Spec PyProof.Rows L2
noncomputable def TsAt (H : Hp) (a : Addr) (ts : List (List V)) : Prop := ∃ ps : List Addr, H a = some (.lst (ps.map V.ref)) ∧ Paired (fun p (t : List V) => H p = some (.tup t)) ps ts
theorem TsAt.same {H H' : Hp} {a : Addr} {ts : List (List V)} (h : TsAt H a ts) (s : Same H H') : TsAt H' a ts := by
  obtain ⟨ps, h1, h2⟩ := h
  exact ⟨ps, s _ _ h1, Paired.mapP h2 fun p r e => s _ _ e⟩
theorem TsAt.get {H : Hp} {a : Addr} {ts : List (List V)} (h : TsAt H a ts) : ∃ ps : List Addr, H a = some (.lst (ps.map V.ref)) ∧ ps.length = ts.length ∧ ∀ (i : Nat) (t : List V), ts[i]? = some t → ∃ p, ps[i]? = some p ∧ (ps.map V.ref)[i]? = some (V.ref p) ∧ H p = some (.tup t) := by
  obtain ⟨ps, h1, h2⟩ := h
  refine ⟨ps, h1, Paired.length h2, fun i r e => ?_⟩
  obtain ⟨p, e1, e2⟩ := Paired.at h2 e
  exact ⟨p, e1, by rw [List.getElem?_map, e1]; rfl, e2⟩
theorem TsAt.rows {H : Hp} {l : Addr} {rs : List Rw} (h : TsAt H l (rs.map Rw.tv)) : RowsAt H l rs := by
  obtain ⟨ps, h1, h2⟩ := h
  refine ⟨ps, h1, ?_⟩
  have go : ∀ {ps : List Addr} {rs : List Rw}, Paired (fun p (q : List V) => H p = some (.tup q)) ps (rs.map Rw.tv) → Paired (fun p (r : Rw) => H p = some (.tup r.tv)) ps rs := by
    intro ps rs
    induction rs generalizing ps with
    | nil => intro h; cases h; exact .nil
    | cons r rs ih =>
      intro h
      cases h with
      | cons a b => exact .cons a (ih b)
  exact go h2
theorem app_ts {l : Addr} {σ : L2.St} {H : Hp} {D : Ends} {ta : TA} {i : Nat} {ts : List (List V)} {t : List V} (hσ : σ[i]? = some (some (.ref l))) (hP : TsAt H l ts) (hlen : ts.length < 900)
    (hv : ∀ Qa : List V → Hp → Prop, (∀ H', Same H H' → Qa t H') → ta σ H Qa) (hq : t.length ≤ 900) (k : ∀ H', But l H H' → TsAt H' l (ts ++ [t]) → D.nx σ H') :
    tDrop (tBM [] "list" rAppend (tVar i) (tCons (tTup ta) tNil)) D σ H := by
  obtain ⟨ps, h1, h2⟩ := hP
  refine ⟨_, hσ, .inl ⟨rfl, _, SqL.of h1⟩, ?_⟩
  refine hv _ fun H1 s1 => ⟨s1000 (by omega), fun p hp => ?_⟩
  have hp0 : H1 p = none := hp
  have g1 := s1 _ _ h1
  have npl : l ≠ p := ne_of_none g1 hp0
  have hl := Paired.length h2
  refine ⟨l, _, _, rfl, rfl, (by rw [upd_ne npl]; exact g1), (by rw [List.length_map]; exact small1000 (by omega)), ?_⟩
  have keep : ∀ b o, H b = some o → b ≠ l → upd (upd H1 p (.tup t)) l (.lst (ps.map V.ref ++ [.ref p])) b = some o := fun b o e hb => by
    rw [upd_ne hb, upd_ne (ne_of_none (s1 _ _ e) hp0)]
    exact s1 _ _ e
  refine k _ keep ⟨ps ++ [p], by rw [upd_same, List.map_append]; rfl, paired_append (Paired.mapP h2 fun b u e => keep b _ e fun z => by rw [z, h1] at e; cases e) (.cons ?_ .nil)⟩
  rw [upd_ne (Ne.symm npl), upd_same]
end SC

set_option maxHeartbeats 2000000
namespace SC
open PySem PySem.Spec PyProof.Rows L2
noncomputable def siz (f : Int) : Option Nat := if f = 1 then some 2 else if f = 2 then some 1 else if f = 3 then some 1 else if f = 4 then some 2 else if f = 5 then some 3 else if f = 6 then some 2 else if f = 7 then some 3 else none
theorem siz_look (f : Int) : lookI SIZ f = (siz f).map fun n => V.int (n : Nat) := by
  by_cases h1 : f = 1
  · subst h1; rfl
  by_cases h2 : f = 2
  · subst h2; rfl
  by_cases h3 : f = 3
  · subst h3; rfl
  by_cases h4 : f = 4
  · subst h4; rfl
  by_cases h5 : f = 5
  · subst h5; rfl
  by_cases h6 : f = 6
  · subst h6; rfl
  by_cases h7 : f = 7
  · subst h7; rfl
  unfold lookI siz SIZ
  simp [h1, h2, h3, h4, h5, h6, h7, Ne.symm h1, Ne.symm h2, Ne.symm h3, Ne.symm h4, Ne.symm h5, Ne.symm h6, Ne.symm h7]
theorem siz_in {f : Int} {s : Nat} (h : siz f = some s) : 1 ≤ s ∧ s ≤ 3 ∧ 1 ≤ f ∧ f ≤ 7 := by
  unfold siz at h
  split at h
  · cases h; omega
  split at h
  · cases h; omega
  split at h
  · cases h; omega
  split at h
  · cases h; omega
  split at h
  · cases h; omega
  split at h
  · cases h; omega
  split at h
  · cases h; omega
  · cases h
noncomputable def nx (cs : List Int) (p : Nat) : Option Nat := (cs[p]?).bind fun f => (siz f).bind fun s => if p + s ≤ cs.length then some (p + s) else none
theorem nx_some {cs : List Int} {p q : Nat} (h : nx cs p = some q) : ∃ f s, cs[p]? = some f ∧ siz f = some s ∧ q = p + s ∧ p + s ≤ cs.length := by
  unfold nx at h
  obtain ⟨f, h1, h⟩ := Option.bind_eq_some_iff.mp h
  obtain ⟨s, h2, h⟩ := Option.bind_eq_some_iff.mp h
  split at h
  · rename_i z
    exact ⟨f, s, h1, h2, (Option.some.inj h).symm, z⟩
  · cases h
noncomputable def bp (cs : List Int) : Nat → Option Nat
  | 0 => some 0
  | j + 1 => (bp cs j).bind (nx cs)
noncomputable def bf (cs : List Int) (j : Nat) : Nat := (bp cs j).getD 0
section
variable {cs : List Int}
theorem bp_prev {j q : Nat} (h : bp cs (j + 1) = some q) : ∃ p, bp cs j = some p ∧ nx cs p = some q := Option.bind_eq_some_iff.mp h
theorem bp_next {j p q : Nat} (h : bp cs j = some p) (n : nx cs p = some q) : bp cs (j + 1) = some q := by
  show (bp cs j).bind (nx cs) = some q
  rw [h]
  exact n
theorem bp_le {j p : Nat} (h : bp cs j = some p) : j ≤ p ∧ p ≤ cs.length := by
  induction j generalizing p with
  | zero => cases h; exact ⟨Nat.le_refl _, Nat.zero_le _⟩
  | succ j ih =>
    obtain ⟨p0, h0, hn⟩ := bp_prev h
    obtain ⟨f, s, _, h2, h3, h4⟩ := nx_some hn
    have := ih h0
    have := siz_in h2
    omega
theorem bf_of {j p : Nat} (h : bp cs j = some p) : bf cs j = p := by unfold bf; rw [h]; rfl
theorem bp_down {m q j : Nat} (h : bp cs m = some q) (hj : j ≤ m) : bp cs j = some (bf cs j) := by
  induction m generalizing q with
  | zero =>
    obtain rfl : j = 0 := by omega
    rw [bf_of h]
    exact h
  | succ m ih =>
    by_cases e : j = m + 1
    · subst e
      rw [bf_of h]
      exact h
    · obtain ⟨p, hp, _⟩ := bp_prev h
      exact ih hp (by omega)
theorem bf_step {m q j : Nat} (h : bp cs m = some q) (hj : j < m) : ∃ s, siz (cs.getD (bf cs j) 0) = some s ∧ bf cs (j + 1) = bf cs j + s ∧ bf cs j + s ≤ cs.length := by
  obtain ⟨p, h1, h2⟩ := bp_prev (bp_down h hj)
  obtain ⟨f, s, e1, e2, e3, e4⟩ := nx_some h2
  rw [bf_of h1]
  refine ⟨s, ?_, e3, e4⟩
  rw [List.getD_eq_getElem?_getD, e1]
  exact e2
theorem bf_lt {m q i j : Nat} (h : bp cs m = some q) (hij : i < j) (hj : j ≤ m) : bf cs i < bf cs j := by
  induction j with
  | zero => omega
  | succ j ih =>
    obtain ⟨s, e1, e2, _⟩ := bf_step h (show j < m by omega)
    have := (siz_in e1).1
    by_cases e : i = j
    · subst e; omega
    · have := ih (by omega) (by omega)
      omega
theorem bf_inj {m q i j : Nat} (h : bp cs m = some q) (hi : i ≤ m) (hj : j ≤ m) (e : bf cs i = bf cs j) : i = j := by
  rcases Nat.lt_trichotomy i j with g | g | g
  · have := bf_lt h g hj; omega
  · exact g
  · have := bf_lt h g hi; omega
noncomputable def Bad1 (cs : List Int) : Prop := ∃ j p, bp cs j = some p ∧ p < cs.length ∧ nx cs p = none
theorem cells_end (cs : List Int) : (∃ m, bp cs m = some cs.length) ∨ Bad1 cs := by
  have go : ∀ n j p, bp cs j = some p → cs.length - p ≤ n → (∃ m, bp cs m = some cs.length) ∨ Bad1 cs := by
    intro n
    induction n with
    | zero =>
      intro j p h hn
      have := bp_le h
      obtain rfl : p = cs.length := by omega
      exact .inl ⟨j, h⟩
    | succ n ih =>
      intro j p h hn
      by_cases e : p = cs.length
      · subst e; exact .inl ⟨j, h⟩
      have := bp_le h
      cases q : nx cs p with
      | none => exact .inr ⟨j, p, h, by omega, q⟩
      | some r =>
        obtain ⟨f, s, _, h2, h3, h4⟩ := nx_some q
        have := siz_in h2
        exact ih (j + 1) r (bp_next h q) (by omega)
  exact go cs.length 0 0 rfl (by omega)
end
theorem valV_no {kvs : List (Key × V)} {k : Key} (h : ∀ p ∈ kvs, p.1 ≠ k) : valV kvs k = none := by
  unfold valV
  rw [List.find?_eq_none.mpr (fun p hp z => h p hp (of_decide_eq_true z))]
  rfl
noncomputable def tabE (b : Nat → Nat) (m : Nat) : List (Key × V) := (List.range m).map fun j => ((Sum.inl (b j : Int) : Key), V.int (b (j + 1) : Nat))
section
variable {b : Nat → Nat}
theorem tabE_succ (m : Nat) : tabE b (m + 1) = tabE b m ++ [((Sum.inl (b m : Int) : Key), V.int (b (m + 1) : Nat))] := by
  unfold tabE
  rw [List.range_succ, List.map_append]
  rfl
theorem tabE_len (m : Nat) : (tabE b m).length = m := by simp [tabE]
theorem tabE_get {m j : Nat} (h : j < m) : (tabE b m)[j]? = some ((Sum.inl (b j : Int) : Key), V.int (b (j + 1) : Nat)) := by
  unfold tabE
  rw [List.getElem?_map, List.getElem?_range h]
  rfl
theorem tabE_none {m : Nat} {k : Int} (h : ∀ j, j < m → (b j : Int) ≠ k) : valV (tabE b m) (Sum.inl k) = none := valV_no fun p hp z => by
  obtain ⟨j, hj, rfl⟩ := List.mem_map.mp hp
  exact h j (List.mem_range.mp hj) (Sum.inl.inj z)
theorem tabE_val {m n : Nat} (inj : ∀ i j, i ≤ n → j ≤ n → b i = b j → i = j) (hm : m ≤ n) {j : Nat} (hj : j < m) : valV (tabE b m) (Sum.inl (b j : Int)) = some (V.int (b (j + 1) : Nat)) := by
  induction m with
  | zero => omega
  | succ m ih =>
    rw [tabE_succ, valV_snoc _ _ _ _ (tabE_none fun i hi z => by have := inj i m (by omega) (by omega) (by omega); omega)]
    by_cases e : j = m
    · subst e; rw [if_pos rfl]
    · rw [if_neg fun z => e (inj j m (by omega) (by omega) (by have := Sum.inl.inj z; omega))]
      exact ih (by omega) (by omega)
end
noncomputable def isNr (f : Int) : Bool := decide (f = 4) || decide (f = 6)
noncomputable def isFr (f : Int) : Bool := decide (f = 5) || decide (f = 7)
noncomputable def cA (cs : List Int) (p : Nat) : Int := cs.getD p 0
noncomputable def gapP (cs : List Int) (p : Nat) : Int := bif isFr (cA cs p) then cA cs (p + 1) * 16 + cA cs (p + 2) else cA cs (p + 1)
noncomputable def okP (cs : List Int) (p : Nat) : Bool := bif isNr (cA cs p) then SM.near (cA cs (p + 1)) else bif isFr (cA cs p) then decide (0 ≤ cA cs (p + 2)) && decide (cA cs (p + 2) < 16) else true
noncomputable def ldP (cs : List Int) (p : Nat) : Bool := isNr (cA cs p) || isFr (cA cs p)
noncomputable def Bad2 (cs : List Int) (m : Nat) : Prop := ∃ j, j < m ∧ okP cs (bf cs j) = false
noncomputable def goalP (cs : List Int) (j : Nat) : Int := (bf cs (j + 1) : Nat) + gapP cs (bf cs j)
noncomputable def Bad3 (cs : List Int) (m : Nat) : Prop := ∃ j, j < m ∧ ldP cs (bf cs j) = true ∧ ∀ t, t ≤ m → ((bf cs t : Nat) : Int) ≠ goalP cs j
noncomputable def BadC (cs : List Int) : Prop := Bad1 cs ∨ ∃ m, bp cs m = some cs.length ∧ (Bad2 cs m ∨ (¬ Bad2 cs m ∧ Bad3 cs m))
noncomputable def tabG (cs : List Int) : Nat → List (Key × V)
  | 0 => []
  | m + 1 => bif ldP cs (bf cs m) then tabG cs m ++ [((Sum.inl (bf cs m : Int) : Key), V.int (goalP cs m))] else tabG cs m
section
variable {cs : List Int}
theorem tabG_put {m : Nat} (h : ldP cs (bf cs m) = true) : tabG cs (m + 1) = tabG cs m ++ [((Sum.inl (bf cs m : Int) : Key), V.int (goalP cs m))] := by
  show (bif _ then _ else _) = _
  rw [h]
  rfl
theorem tabG_no {m : Nat} (h : ldP cs (bf cs m) = false) : tabG cs (m + 1) = tabG cs m := by
  show (bif _ then _ else _) = _
  rw [h]
  rfl
theorem tabG_mem {p : Key × V} {m : Nat} (h : p ∈ tabG cs m) : ∃ j, j < m ∧ ldP cs (bf cs j) = true ∧ p = ((Sum.inl (bf cs j : Int) : Key), V.int (goalP cs j)) := by
  induction m with
  | zero => cases h
  | succ m ih =>
    cases e : ldP cs (bf cs m) with
    | false =>
      rw [tabG_no e] at h
      obtain ⟨j, a, b⟩ := ih h
      exact ⟨j, by omega, b⟩
    | true =>
      rw [tabG_put e] at h
      rcases List.mem_append.mp h with h | h
      · obtain ⟨j, a, b⟩ := ih h
        exact ⟨j, by omega, b⟩
      · exact ⟨m, by omega, e, List.mem_singleton.mp h⟩
theorem tabG_has {j m : Nat} (h : ldP cs (bf cs j) = true) (hj : j < m) : ((Sum.inl (bf cs j : Int) : Key), V.int (goalP cs j)) ∈ tabG cs m := by
  induction m with
  | zero => omega
  | succ m ih =>
    by_cases e : j = m
    · subst e
      rw [tabG_put h]
      exact List.mem_append_right _ (List.mem_singleton.mpr rfl)
    · have := ih (by omega)
      cases q : ldP cs (bf cs m) with
      | false => rw [tabG_no q]; exact this
      | true => rw [tabG_put q]; exact List.mem_append_left _ this
theorem tabG_len (m : Nat) : (tabG cs m).length ≤ m := by
  induction m with
  | zero => exact Nat.le_refl _
  | succ m ih =>
    cases q : ldP cs (bf cs m) with
    | false => rw [tabG_no q]; omega
    | true => rw [tabG_put q, List.length_append, List.length_singleton]; omega
theorem tabG_fresh {m n q : Nat} (h : bp cs n = some q) (hm : m ≤ n) : valV (tabG cs m) (Sum.inl (bf cs m : Int)) = none := valV_no fun p hp z => by
  obtain ⟨j, hj, _, rfl⟩ := tabG_mem hp
  have := bf_lt h hj hm
  have := Sum.inl.inj z
  omega
theorem at_cs {p : Nat} (h : p < cs.length) : (cs.map V.int)[p]? = some (.int (cA cs p)) := by
  rw [List.getElem?_map, List.getElem?_eq_getElem h]
  unfold cA
  rw [List.getD_eq_getElem?_getD, List.getElem?_eq_getElem h]
  rfl
theorem nr_siz {f : Int} (h : isNr f = true) : siz f = some 2 := by
  unfold isNr at h
  rw [Bool.or_eq_true] at h
  rcases h with h | h <;> (obtain rfl := of_decide_eq_true h; rfl)
theorem fr_siz {f : Int} (h : isFr f = true) : siz f = some 3 := by
  unfold isFr at h
  rw [Bool.or_eq_true] at h
  rcases h with h | h <;> (obtain rfl := of_decide_eq_true h; rfl)
theorem fr_nr {f : Int} (h : isFr f = true) : isNr f = false := by
  unfold isFr at h
  rw [Bool.or_eq_true] at h
  rcases h with h | h <;> (obtain rfl := of_decide_eq_true h; rfl)
theorem in_nr (f : Int) : inV (V.int f) [.int 4, .int 6] = isNr f := by
  unfold inV isNr
  by_cases h : f = 4
  · subst h; rfl
  · by_cases h2 : f = 6
    · subst h2; rfl
    · simp [h, h2, Ne.symm h, Ne.symm h2, eqV]
theorem in_fr (f : Int) : inV (V.int f) [.int 5, .int 7] = isFr f := by
  unfold inV isFr
  by_cases h : f = 5
  · subst h; rfl
  · by_cases h2 : f = 7
    · subst h2; rfl
    · simp [h, h2, Ne.symm h, Ne.symm h2, eqV]
end
section
variable {P : Program} {w : World} {K : PySem.W.Frag} {mg : Str → Option Value} {base : Heap} {c : Cn}
noncomputable def spEndAtX (c : Cn) : Sp := fun vs H Q E => ∃ (a : Addr) (cs : List Int) (p : Nat), vs = [.ref a, .int (p : Nat)] ∧ H a = some (.lst (cs.map V.int)) ∧ p < cs.length ∧ cs.length ≤ 200 ∧
  (∀ q, nx cs p = some q → ∀ H', Same H H' → Q (.int (q : Nat)) H') ∧ (nx cs p = none → ∀ H', Same H H' → E (.ref c.NoCells) none H')
theorem no_end_at (D : Def K mg "end_at" s_end_at ["cells", "cell"]) (T : Tx P w K mg) (C : Tc K mg c) : Has1 P w K mg base 1 "end_at" ["cells", "cell"] (spEndAtX c) := by
  refine D.has1 sc_end_at (fun vs H Q E h => ?_) (fun f cdv A outer s H vs Q E hr h => ?_)
  · obtain ⟨a, cs, p, rfl, _⟩ := h
    rfl
  · obtain ⟨a, cs, p, rfl, ha, hp, hl, kq, ke⟩ := h
    have hat := at_cs hp
    have hc0 : cs[p]? = some (cA cs p) := by
      rw [List.getElem?_eq_getElem hp]
      unfold cA
      rw [List.getD_eq_getElem?_getD, List.getElem?_eq_getElem hp]
      rfl
    have sl := siz_look (cA cs p)
    refine ⟨_, (pss_cons (ps_set (i := 2) sc_end_at.nd rfl (Or.inl rfl) (pe_ix ix_list0 (pv 0) (pv 1) (fun _ _ => rfl)))
      (pss_cons (ps_if (pt_cmp (pc_gnotin T.c_SIZES (pv 2) rfl)) (pss_one (ps_raise throws1 rfl (by rfl) C.n_NoCells C.e_NoCells (pe_fmt (pv 1) (by decide +kernel)))) pss_nil)
      (pss_cons (ps_set (i := 3) sc_end_at.nd rfl (Or.inl rfl) (pe_op op_add (pv 1) (pe_gtabI T.c_SIZES (pv 2) rfl (fun _ _ => rfl))))
      (pss_cons (ps_if (pt_cmpR op_gt (pv 3) (pe_callB call_len_seq0 (by rfl) T.b_len bt_len (pa_cons (pv 0) pa_nil)) (nomark _)) (pss_one (ps_raise throws1 rfl (by rfl) C.n_NoCells C.e_NoCells (pe_fmt3 (pv 1)))) pss_nil)
      (pss_one (ps_ret (pv 3))))))), ?_⟩
    refine ⟨_, rfl, _, rfl, a, _, _, _, rfl, rfl, SqL.of ha, atI_nat hat, ?_⟩
    cases hs : siz (cA cs p) with
    | none =>
      rw [hs] at sl
      refine ⟨_, rfl, _, rfl, _, rfl, iteT' (by show (!(lookI SIZ _).isSome) = true; rw [sl]; rfl) ?_⟩
      exact ⟨_, rfl, _, rfl, by omega, by omega, ke (by unfold nx; rw [hc0]; show (siz _).bind _ = none; rw [hs]; rfl) H (Same.refl H)⟩
    | some z =>
      rw [hs] at sl
      have hz := siz_in hs
      refine ⟨_, rfl, _, rfl, _, rfl, iteF' (by show (!(lookI SIZ _).isSome) = false; rw [sl]; rfl) ?_⟩
      refine ⟨_, rfl, _, rfl, _, _, rfl, sl, _, _, rfl, rfl, ?_⟩
      dsimp only [gName]
      rw [show ((p : Nat) : Int) + ((z : Nat) : Int) = ((p + z : Nat) : Int) by omega]
      have hx : nx cs p = if p + z ≤ cs.length then some (p + z) else none := by
        unfold nx
        rw [hc0]
        show (siz _).bind _ = _
        rw [hs]
        rfl
      refine ⟨_, rfl, _, rfl, a, _, rfl, .inl (SqL.of ha), _, _, rfl, rfl, _, rfl, ite2 (fun h1 => ?_) (fun h1 => ?_)⟩
      · have h1 := of_decide_eq_true h1
        rw [List.length_map] at h1
        exact ⟨_, rfl, _, rfl, by omega, by omega, fun _ => ke (by rw [hx, if_neg (by omega)]) H (Same.refl H)⟩
      · have h1 : ¬ (((cs.map V.int).length : Nat) : Int) < ((p + z : Nat) : Int) := fun y => h1 (decide_eq_true y)
        rw [List.length_map] at h1
        exact ⟨_, rfl, kq _ (by rw [hx, if_pos (by omega)]) H (Same.refl H)⟩
noncomputable def spEndsX (c : Cn) : Sp := fun vs H Q E => ∃ (a : Addr) (cs : List Int), vs = [.ref a] ∧ H a = some (.lst (cs.map V.int)) ∧ cs.length ≤ 200 ∧
  (∀ m, bp cs m = some cs.length → ∀ d H', H d = none → Same H H' → H' d = some (.dK (tabE (bf cs) m)) → Q (.ref d) H') ∧ (Bad1 cs → ∀ H', Same H H' → E (.ref c.NoCells) none H')
theorem no_ends_of (D : Def K mg "ends_of" s_ends_of ["cells"]) (T : Tx P w K mg) (C : Tc K mg c) (h_end_at : Has P w K mg base 1 "end_at" ["cells", "cell"] spEndAt) (n_end_at : Has1 P w K mg base 1 "end_at" ["cells", "cell"] (spEndAtX c)) : Has1 P w K mg base 2 "ends_of" ["cells"] (spEndsX c) := by
  have h_end_at := n_end_at
  refine D.has1 sc_ends_of (fun vs H Q E h => ?_) (fun f cdv A outer s H vs Q E hr h => ?_)
  · obtain ⟨a, cs, rfl, _⟩ := h
    rfl
  · obtain ⟨a, cs, rfl, ha, hl, kq, ke⟩ := h
    have hu := hu_of hr
    refine ⟨_, (pss_cons (ps_set (i := 1) sc_ends_of.nd rfl (Or.inl rfl) pe_dnewK)
      (pss_cons (ps_set (i := 2) sc_ends_of.nd rfl (Or.inl rfl) pe_int)
      (pss_cons (ps_while PassesOwn.leaving (pt_cmpR op_lt (pv 2) (pe_callB call_len_seq0 (by rfl) T.b_len bt_len (pa_cons (pv 0) pa_nil)) (nomark _)) (pss_cons (ps_dput hu (pv 1) (pv 2) (pe_has1 h_end_at hr pass1 rfl (pa_cons (pv 0) (pa_cons (pv 2) pa_nil))) rfl)
      (pss_one (ps_set (i := 2) sc_ends_of.nd rfl (Or.inl rfl) (pe_dget hu (pv 1) (pv 2) (fun _ _ => rfl))))))
      (pss_one (ps_ret (pv 1)))))), ?_⟩
    intro d hd
    have s0 : Same H (upd H d (.dK [])) := (Same.refl H).upd hd
    refine ⟨fun m σ H2 => ∃ j p, bp cs j = some p ∧ σ = [some (.ref a), some (.ref d), some (.int (p : Nat))] ∧ m = cs.length - p ∧ Same H H2 ∧ H2 d = some (.dK (tabE (bf cs) j)), ⟨_, 0, 0, rfl, rfl, rfl, s0, upd_same⟩, ?_⟩
    rintro m σ H2 ⟨j, p, hb, rfl, rfl, s2, hd2⟩
    have ha2 := s2 _ _ ha
    have ble := bp_le hb
    refine ⟨_, rfl, _, rfl, a, _, rfl, .inl (SqL.of ha2), _, _, rfl, rfl, _, rfl, ite2 (fun h1 => ?_) (fun h1 => ?_)⟩
    · have h1 := of_decide_eq_true h1
      rw [List.length_map] at h1
      have hp : p < cs.length := by omega
      refine ⟨fun σ' H' => ∃ m', m' < cs.length - p ∧ ∃ j p, bp cs j = some p ∧ σ' = [some (.ref a), some (.ref d), some (.int (p : Nat))] ∧ m' = cs.length - p ∧ Same H H' ∧ H' d = some (.dK (tabE (bf cs) j)), fun σ' H' h => h, ?_⟩
      refine ⟨_, rfl, _, rfl, a, cs, p, rfl, ha2, hp, hl, fun q hq H3 s3 => ?_, fun hq H3 s3 => ke ⟨j, p, hb, hp, hq⟩ H3 (s2.trans s3)⟩
      have hd3 := s3 _ _ hd2
      have hb1 := bp_next hb hq
      have e0 := bf_of hb
      have e1 := bf_of hb1
      have fresh : valV (tabE (bf cs) j) (Sum.inl ((p : Nat) : Int)) = none := tabE_none fun i hi z => by
        have := bf_lt hb hi (Nat.le_refl _)
        omega
      refine ⟨_, rfl, _, rfl, d, _, rfl, DPut.k (k := (Sum.inl ((p : Nat) : Int) : Key)) hd3 (by rw [tabE_len]; exact small1000 (by omega)), ?_⟩
      have et : tabE (bf cs) j ++ [((Sum.inl ((p : Nat) : Int) : Key), V.int (q : Nat))] = tabE (bf cs) (j + 1) := by rw [tabE_succ, e0, e1]
      rw [putK_new fresh, et]
      have g := DGet.k (k := (Sum.inl ((p : Nat) : Int) : Key)) (upd_same (H := H3) (a := d) (o := .dK (tabE (bf cs) (j + 1))))
      have gv := tabE_val (b := bf cs) (n := j + 1) (fun i k hi hk e => bf_inj hb1 hi hk e) (Nat.le_refl _) (show j < j + 1 by omega)
      rw [e0, e1] at gv
      rw [gv] at g
      obtain ⟨f, z, _, z2, z3, z4⟩ := nx_some hq
      have := siz_in z2
      exact ⟨_, rfl, _, rfl, d, _, rfl, g, _, (by omega : cs.length - q < cs.length - p), j + 1, q, hb1, rfl, rfl, (s2.trans s3).upd hd, upd_same⟩
    · have h1 : ¬ ((p : Nat) : Int) < (((cs.map V.int).length : Nat) : Int) := fun y => h1 (decide_eq_true y)
      rw [List.length_map] at h1
      obtain rfl : p = cs.length := by omega
      exact ⟨_, rfl, kq j hb d H2 hd s2 hd2⟩
noncomputable def spNearX (c : Cn) : Sp := fun vs H Q E => ∃ (a : Addr) (cs : List Int) (p : Nat), vs = [.ref a, .int (p : Nat)] ∧ H a = some (.lst (cs.map V.int)) ∧ p + 1 < cs.length ∧ cs.length ≤ 200 ∧
  (SM.near (cA cs (p + 1)) = true → ∀ H', Same H H' → Q (.int (cA cs (p + 1))) H') ∧ (SM.near (cA cs (p + 1)) = false → ∀ H', Same H H' → E (.ref c.NoCells) none H')
theorem no_near_gap (D : Def K mg "near_gap" s_near_gap ["cells", "cell"]) (T : Tx P w K mg) (C : Tc K mg c) (h_is_near_gap : Has P w K mg base 1 "is_near_gap" ["gap"] spNear) : Has1 P w K mg base 2 "near_gap" ["cells", "cell"] (spNearX c) := by
  refine D.has1 sc_near_gap (fun vs H Q E h => ?_) (fun f cdv A outer s H vs Q E hr h => ?_)
  · obtain ⟨a, cs, p, rfl, _⟩ := h
    rfl
  · obtain ⟨a, cs, p, rfl, ha, hp, hl, kq, ke⟩ := h
    refine ⟨_, (pss_cons (ps_set (i := 2) sc_near_gap.nd rfl (Or.inl rfl) (pe_ix ix_list0 (pv 0) (pe_op op_add (pv 1) pe_int) (fun _ _ => rfl)))
      (pss_cons (ps_if (pt_not (pt_val (pe_has h_is_near_gap hr rfl (pa_cons (pv 2) pa_nil)))) (pss_one (ps_raise throws1 rfl (by rfl) C.n_NoCells C.e_NoCells (pe_fmt3 (pv 1)))) pss_nil)
      (pss_one (ps_ret (pv 2))))), ?_⟩
    refine ⟨_, rfl, _, rfl, _, _, rfl, rfl, a, _, _, _, rfl, rfl, SqL.of ha, atI_nat (j := p + 1) (at_cs hp), ?_⟩
    refine ⟨_, rfl, _, rfl, fun H1 s1 => ⟨_, rfl, ?_⟩⟩
    cases e : SM.near (cA cs (p + 1)) with
    | true => exact iteF' rfl ⟨_, rfl, kq e H1 s1⟩
    | false => exact iteT' rfl ⟨_, rfl, _, rfl, by omega, by omega, fun _ => ke e H1 s1⟩
noncomputable def spFarX (c : Cn) : Sp := fun vs H Q E => ∃ (a : Addr) (cs : List Int) (p : Nat), vs = [.ref a, .int (p : Nat)] ∧ H a = some (.lst (cs.map V.int)) ∧ p + 2 < cs.length ∧ cs.length ≤ 200 ∧
  ((0 ≤ cA cs (p + 2) ∧ cA cs (p + 2) < 16) → ∀ H', Same H H' → Q (.int (cA cs (p + 1) * 16 + cA cs (p + 2))) H') ∧ (¬ (0 ≤ cA cs (p + 2) ∧ cA cs (p + 2) < 16) → ∀ H', Same H H' → E (.ref c.NoCells) none H')
theorem no_far_gap (D : Def K mg "far_gap" s_far_gap ["cells", "cell"]) (T : Tx P w K mg) (C : Tc K mg c) : Has1 P w K mg base 1 "far_gap" ["cells", "cell"] (spFarX c) := by
  refine D.has1 sc_far_gap (fun vs H Q E h => ?_) (fun f cdv A outer s H vs Q E hr h => ?_)
  · obtain ⟨a, cs, p, rfl, _⟩ := h
    rfl
  · obtain ⟨a, cs, p, rfl, ha, hp, hl, kq, ke⟩ := h
    refine ⟨_, (pss_cons (ps_set (i := 2) sc_far_gap.nd rfl (Or.inl rfl) (pe_ix ix_list0 (pv 0) (pe_op op_add (pv 1) pe_int) (fun _ _ => rfl)))
      (pss_cons (ps_if (PW.pt (pw_or (pt_cmpR op_lt (pv 2) pe_int (nomark _)) (pw_or1 (pt_cmpR op_ge (pv 2) (pe_gI rfl T.c_FAR_UNIT) (nomark _))))) (pss_one (ps_raise throws1 rfl (by rfl) C.n_NoCells C.e_NoCells (pe_fmt3 (pv 1)))) pss_nil)
      (pss_one (ps_ret (pe_op op_add (pe_op op_mul (pe_ix ix_list0 (pv 0) (pe_op op_add (pv 1) pe_int) (fun _ _ => rfl)) (pe_gI rfl T.c_FAR_UNIT)) (pv 2)))))), ?_⟩
    refine ⟨_, rfl, _, rfl, _, _, rfl, rfl, a, _, _, _, rfl, rfl, SqL.of ha, atI_nat (j := p + 2) (at_cs hp), ?_⟩
    have no : ¬ (0 ≤ cA cs (p + 2) ∧ cA cs (p + 2) < 16) → E (.ref c.NoCells) none H := fun z => ke z H (Same.refl H)
    refine ⟨_, rfl, _, _, rfl, rfl, _, rfl, ite2 (fun h1 => ?_) (fun h1 => ?_)⟩
    · have h1 := of_decide_eq_true h1
      exact iteT ⟨_, rfl, _, rfl, by omega, by omega, fun _ => no (by omega)⟩
    have h1 : ¬ cA cs (p + 2) < 0 := fun y => h1 (decide_eq_true y)
    refine ⟨_, rfl, _, _, rfl, rfl, _, rfl, ite2 (fun h2 => ?_) (fun h2 => ?_)⟩
    · have h2 := of_decide_eq_true h2
      exact ⟨_, rfl, _, rfl, by omega, by omega, fun _ => no (by omega)⟩
    have h2 : ¬ 16 ≤ cA cs (p + 2) := fun y => h2 (decide_eq_true y)
    refine ⟨_, rfl, _, rfl, _, _, rfl, rfl, a, _, _, _, rfl, rfl, SqL.of ha, atI_nat (j := p + 1) (at_cs (by omega)), _, _, rfl, rfl, .inr ⟨by decide, by decide⟩, _, rfl, _, _, rfl, rfl, ?_⟩
    exact kq ⟨by omega, by omega⟩ H (Same.refl H)
noncomputable def Save (d : Addr) (H H' : Hp) : Prop := ∀ b o, b ≠ d → H b = some o → H' b = some o
noncomputable def spGoalsX (c : Cn) : Sp := fun vs H Q E => ∃ (a d : Addr) (cs : List Int) (m : Nat), vs = [.ref a, .ref d] ∧ H a = some (.lst (cs.map V.int)) ∧ cs.length ≤ 200 ∧ bp cs m = some cs.length ∧ H d = some (.dK (tabE (bf cs) m)) ∧
  (¬ Bad2 cs m → ∀ g H', H g = none → Same H H' → H' g = some (.dK (tabG cs m)) → Q (.ref g) H') ∧ (Bad2 cs m → ∀ H', Save d H H' → E (.ref c.NoCells) none H')
theorem no_goals_of (D : Def K mg "goals_of" s_goals_of ["cells", "ends"]) (T : Tx P w K mg) (C : Tc K mg c) (h_near_gap : Has P w K mg base 2 "near_gap" ["cells", "cell"] spNearGap) (n_near_gap : Has1 P w K mg base 2 "near_gap" ["cells", "cell"] (spNearX c))
    (h_far_gap : Has P w K mg base 1 "far_gap" ["cells", "cell"] spFarGap) (n_far_gap : Has1 P w K mg base 1 "far_gap" ["cells", "cell"] (spFarX c)) : Has1 P w K mg base 3 "goals_of" ["cells", "ends"] (spGoalsX c) := by
  have h_near_gap := n_near_gap
  have h_far_gap := n_far_gap
  refine D.has1 sc_goals_of (fun vs H Q E h => ?_) (fun f cdv A outer s H vs Q E hr h => ?_)
  · obtain ⟨a, d, cs, m, rfl, _⟩ := h
    rfl
  · obtain ⟨a, d, cs, m, rfl, ha, hl, hm, hd, kq, ke⟩ := h
    have hu := hu_of hr
    have hml := bp_le hm
    refine ⟨_, (pss_cons (ps_set (i := 2) sc_goals_of.nd rfl (Or.inl rfl) pe_dnewK)
      (pss_cons (ps_frz (ps_for PassesOwn.leaving rfl (pi_keys (pv 1)) (pg_name (i := 3) sc_goals_of.nd rfl (Or.inl rfl))
        (pss_cons (ps_if (pt_cmpR op_in_seq (pe_ix ix_list0 (pv 0) (pv 3) (fun _ _ => rfl)) (pe_gR rfl T.c_NEAR_FIRSTS) (by with_unfolding_all rfl)) (pss_one (ps_dput hu (pv 2) (pv 3) (pe_op op_add (pe_dget hu (pv 1) (pv 3) (fun _ _ => rfl)) (pe_has1 h_near_gap hr pass1 rfl (pa_cons (pv 0) (pa_cons (pv 3) pa_nil)))) rfl)) pss_nil)
      (pss_one (ps_if (pt_cmpR op_in_seq (pe_ix ix_list0 (pv 0) (pv 3) (fun _ _ => rfl)) (pe_gR rfl T.c_FAR_FIRSTS) (by with_unfolding_all rfl)) (pss_one (ps_dput hu (pv 2) (pv 3) (pe_op op_add (pe_dget hu (pv 1) (pv 3) (fun _ _ => rfl)) (pe_has1 h_far_gap hr pass1 rfl (pa_cons (pv 0) (pa_cons (pv 3) pa_nil)))) rfl)) pss_nil)))))
      (pss_one (ps_ret (pv 2))))), ?_⟩
    intro g hg
    have s0 : Same H (upd H g (.dK [])) := (Same.refl H).upd hg
    have hd0 := s0 _ _ hd
    have hg0 : upd H g (.dK []) g = some (.dK []) := upd_same
    generalize upd H g (.dK []) = H0 at s0 hd0 hg0 ⊢
    have ngd : g ≠ d := fun z => by rw [z, hd] at hg; cases hg
    have nad : a ≠ d := fun z => by rw [z, hd] at ha; cases ha
    have nag : a ≠ g := fun z => by rw [z, hg] at ha; cases ha
    refine ⟨d, _, hd0, fun ob => ?_⟩
    refine ⟨_, rfl, d, ob, _, rfl, upd_same, for_frz (n := m) (d := d) (o := .frz ob (.dK (tabE (bf cs) m))) (fun i H2 e hi => ⟨e, by rw [tabE_len]; exact hi⟩) (fun i H2 e hi => ⟨e, by rw [tabE_len]; exact hi⟩)
      (fun i σ H2 => ∃ v3, σ = [some (.ref a), some (.ref d), some (.ref g), v3] ∧ H2 d = some (.frz ob (.dK (tabE (bf cs) m))) ∧ Save d H H2 ∧ H2 g = some (.dK (tabG cs i)) ∧ ∀ j, j < i → okP cs (bf cs j) = true)
      ⟨none, rfl, upd_same, fun b o z e => by rw [upd_ne z]; exact s0 b o e, by rw [upd_ne ngd]; exact hg0, fun j hj => absurd hj (Nat.not_lt_zero _)⟩ (fun i σ H2 _ ⟨_, _, e, _⟩ => e) ?_ ?_⟩
    · rintro i x σ H2 H3 hi ⟨v3, rfl, hd2, s2, hg2, hok⟩ ⟨e3, kk, y, hy, rfl⟩
      subst e3
      rw [tabE_get hi] at hy
      cases hy
      obtain ⟨sz, e1, e2, e3⟩ := bf_step hm hi
      have e1 : siz (cA cs (bf cs i)) = some sz := e1
      have hsz := siz_in e1
      have ha2 := s2 _ _ nad ha
      have ge : DGet H3 d (.int (bf cs i : Nat)) (some (.int (bf cs (i + 1) : Nat))) := by
        have := frzD (k := (Sum.inl (bf cs i : Int) : Key)) hd2
        rw [tabE_val (n := m) (fun i k hi hk e => bf_inj hm hi hk e) (Nat.le_refl _) hi] at this
        exact this
      have put : ldP cs (bf cs i) = true → ∀ H4, Same H3 H4 → DPut H4 g (.int (bf cs i : Nat)) (.int (goalP cs i)) (upd H4 g (.dK (tabG cs (i + 1)))) := fun hld H4 s4 => by
        have := DPut.k (k := (Sum.inl (bf cs i : Int) : Key)) (v := .int (goalP cs i)) (s4 _ _ hg2) (by have := tabG_len (cs := cs) i; exact small1000 (by omega))
        rw [putK_new (tabG_fresh hm (by omega))] at this
        rw [tabG_put hld]
        exact this
      have okn : okP cs (bf cs i) = true → ∀ j, j < i + 1 → okP cs (bf cs j) = true := fun z j hj => by
        by_cases e : j = i
        · subst e; exact z
        · exact hok j (by omega)
      have bad : ∀ H4, Same H3 H4 → okP cs (bf cs i) = false → E (.ref c.NoCells) none H4 := fun H4 s4 z => ke ⟨i, hi, z⟩ H4 fun b o hb e => s4 _ _ (s2 b o hb e)
      have fin : okP cs (bf cs i) = true → ∀ H4, Same H3 H4 → ∀ H5, H5 = upd H4 g (.dK (tabG cs (i + 1))) → ∃ v3, [some (V.ref a), some (.ref d), some (.ref g), some (.int (bf cs i : Nat))] = [some (.ref a), some (.ref d), some (.ref g), v3] ∧ H5 d = some (.frz ob (.dK (tabE (bf cs) m))) ∧ Save d H H5 ∧ H5 g = some (.dK (tabG cs (i + 1))) ∧ ∀ j, j < i + 1 → okP cs (bf cs j) = true := by
        rintro z H4 s4 H5 rfl
        refine ⟨_, rfl, by rw [upd_ne (Ne.symm ngd)]; exact s4 _ _ hd2, fun b o hb e => ?_, upd_same, okn z⟩
        rw [upd_ne (fun q => by rw [q, hg] at e; cases e)]
        exact s4 _ _ (s2 b o hb e)
      refine ⟨_, rfl, _, rfl, a, _, _, _, rfl, rfl, SqL.of ha2, atI_nat (at_cs (by omega)), fun t ht => ⟨t, _, rfl, .inr (ht H3), rfl, rfl, _, rfl, ?_⟩⟩
      cases en : isNr (cA cs (bf cs i)) with
      | true =>
        refine iteT' (by show inV _ _ = true; rw [in_nr, en]) ?_
        have z2 := nr_siz en
        rw [z2] at e1
        cases e1
        have ef : isFr (cA cs (bf cs i)) = false := by
          cases q : isFr (cA cs (bf cs i)) with
          | false => rfl
          | true => rw [fr_nr q] at en; cases en
        have okp : okP cs (bf cs i) = SM.near (cA cs (bf cs i + 1)) := by unfold okP; rw [en]; rfl
        have gpp : goalP cs i = (bf cs (i + 1) : Nat) + cA cs (bf cs i + 1) := by unfold goalP gapP; rw [ef]; rfl
        have hld : ldP cs (bf cs i) = true := by unfold ldP; rw [en]; rfl
        refine ⟨_, rfl, _, rfl, d, _, rfl, ge, _, rfl, _, rfl, a, cs, bf cs i, rfl, ha2, by omega, hl, fun hn H4 s4 => ⟨_, _, rfl, rfl, _, rfl, _, rfl, g, _, rfl, by have e := put hld H4 s4; rw [gpp] at e; exact e, ?_⟩, fun hn H4 s4 => bad H4 s4 (by rw [okp]; exact hn)⟩
        have ha5 : ∀ (Hx : Hp), Hx = upd H4 g (.dK (tabG cs (i + 1))) → Hx a = some (.lst (cs.map V.int)) := by
          rintro Hx rfl
          rw [upd_ne nag]
          exact s4 _ _ ha2
        exact ⟨_, rfl, _, rfl, a, _, _, _, rfl, rfl, SqL.of (ha5 _ rfl), atI_nat (at_cs (by omega)), fun t ht => ⟨t, _, rfl, .inr (ht _), rfl, rfl, _, rfl, iteF' (by show inV _ _ = false; rw [in_fr, ef]) (fin (by rw [okp]; exact hn) H4 s4 _ rfl)⟩⟩
      | false =>
        refine iteF' (by show inV _ _ = false; rw [in_nr, en]) ?_
        refine ⟨_, rfl, _, rfl, a, _, _, _, rfl, rfl, SqL.of ha2, atI_nat (at_cs (by omega)), fun t ht => ⟨t, _, rfl, .inr (ht _), rfl, rfl, _, rfl, ?_⟩⟩
        cases ef : isFr (cA cs (bf cs i)) with
        | true =>
          refine iteT' (by show inV _ _ = true; rw [in_fr, ef]) ?_
          have z2 := fr_siz ef
          rw [z2] at e1
          cases e1
          have okp : okP cs (bf cs i) = (decide (0 ≤ cA cs (bf cs i + 2)) && decide (cA cs (bf cs i + 2) < 16)) := by unfold okP; rw [en, ef]; rfl
          have gpp : goalP cs i = (bf cs (i + 1) : Nat) + (cA cs (bf cs i + 1) * 16 + cA cs (bf cs i + 2)) := by unfold goalP gapP; rw [ef]; rfl
          have hld : ldP cs (bf cs i) = true := by unfold ldP; rw [en, ef]; rfl
          exact ⟨_, rfl, _, rfl, d, _, rfl, ge, _, rfl, _, rfl, a, cs, bf cs i, rfl, ha2, by omega, hl, fun hn H4 s4 => ⟨_, _, rfl, rfl, _, rfl, _, rfl, g, _, rfl, by have e := put hld H4 s4; rw [gpp] at e; exact e, fin (by rw [okp, decide_eq_true hn.1, decide_eq_true hn.2]; rfl) H4 s4 _ rfl⟩, fun hn H4 s4 => bad H4 s4 (by
            rw [okp]
            cases q : (decide (0 ≤ cA cs (bf cs i + 2)) && decide (cA cs (bf cs i + 2) < 16)) with
            | false => rfl
            | true =>
              rw [Bool.and_eq_true] at q
              exact absurd ⟨of_decide_eq_true q.1, of_decide_eq_true q.2⟩ hn)⟩
        | false =>
          refine iteF' (by show inV _ _ = false; rw [in_fr, ef]) ?_
          have okp : okP cs (bf cs i) = true := by unfold okP; rw [en, ef]; rfl
          have hld : ldP cs (bf cs i) = false := by unfold ldP; rw [en, ef]; rfl
          exact ⟨_, rfl, hd2, s2, by rw [tabG_no hld]; exact hg2, okn okp⟩
    · rintro σ H2 ⟨v3, rfl, hd2, s2, hg2, hok⟩
      refine ⟨hd2, _, rfl, ?_⟩
      refine kq (fun ⟨j, hj, z⟩ => by rw [hok j hj] at z; cases z) g _ hg (fun b o e => ?_) (by rw [upd_ne ngd]; exact hg2)
      by_cases z : b = d
      · subst z
        rw [hd] at e
        rw [upd_same]
        exact e
      · rw [upd_ne z]
        exact s2 b o z e
noncomputable def spOtherX (c : Cn) : Sp := fun vs H _ E => ∃ (a d g : Addr) (cs : List Int) (m : Nat), vs = [.ref a, .ref d, .ref g] ∧ H a = some (.lst (cs.map V.int)) ∧ cs.length ≤ 200 ∧ bp cs m = some cs.length ∧ H d = some (.dK (tabE (bf cs) m)) ∧ H g = some (.dK (tabG cs m)) ∧ d ≠ g ∧ Bad3 cs m ∧
  ∀ H', Save g H H' → E (.ref c.NoCells) none H'
theorem no_refuse_other_goals (D : Def K mg "refuse_other_goals" s_refuse_other_goals ["cells", "ends", "goals"]) (T : Tx P w K mg) (C : Tc K mg c) : Has1 P w K mg base 1 "refuse_other_goals" ["cells", "ends", "goals"] (spOtherX c) := by
  refine D.has1 sc_refuse_other_goals (fun vs H Q E h => ?_) (fun f cdv A outer s H vs Q E hr h => ?_)
  · obtain ⟨a, d, g, cs, m, rfl, _⟩ := h
    rfl
  · obtain ⟨a, d, g, cs, m, rfl, ha, hl, hm, hd, hg, hdg, ⟨j0, hj0, hl0, hb0⟩, ke⟩ := h
    have hu := hu_of hr
    have hml := bp_le hm
    obtain ⟨i0, hi0, ei0⟩ := List.mem_iff_getElem.mp (tabG_has hl0 hj0)
    refine ⟨_, (pss_one (ps_frz (ps_for PassesOwn.leaving rfl (pi_items (pv 2)) (pg_tup rfl (pgs_cons (pg_name (i := 3) sc_refuse_other_goals.nd rfl (Or.inl rfl)) (pgs_cons (pg_name (i := 4) sc_refuse_other_goals.nd rfl (Or.inl rfl)) pgs_nil)))
        (pss_one (ps_if (PW.pt (pw_and (pt_cmp (pc_dnotin hu (pv 4) (pv 1))) (pw_and1 (pt_cmpR op_ne (pv 4) (pe_callB call_len_seq0 (by rfl) T.b_len bt_len (pa_cons (pv 0) pa_nil)) (nomark _))))) (pss_one (ps_raise throws1 rfl (by rfl) C.n_NoCells C.e_NoCells (pe_fmt3 (pv 3)))) pss_nil))))), ?_⟩
    refine ⟨g, _, hg, fun ob => ?_⟩
    have nag : a ≠ g := fun z => by rw [z, hg] at ha; cases ha
    refine ⟨_, rfl, g, ob, _, rfl, upd_same, for_frz (n := (tabG cs m).length) (d := g) (o := .frz ob (.dK (tabG cs m))) (fun i H2 e hi => ⟨e, hi⟩) (fun i H2 e hi => ⟨e, hi⟩)
      (fun i σ H2 => ∃ v3 v4, σ = [some (.ref a), some (.ref d), some (.ref g), v3, v4] ∧ Same (upd H g (.frz ob (.dK (tabG cs m)))) H2 ∧ i ≤ i0)
      ⟨none, none, rfl, Same.refl _, Nat.zero_le _⟩ (fun i σ H2 _ ⟨_, _, _, s2, _⟩ => s2 _ _ upd_same) ?_ (fun σ H2 ⟨_, _, _, _, z⟩ => by omega)⟩
    rintro i x σ H2 H3 hi ⟨v3, v4, rfl, s2, hle⟩ ⟨p, kk, y, rfl, hp, rfl, hy⟩
    obtain ⟨j, hj, hld, e⟩ := tabG_mem (List.mem_of_getElem? hy)
    cases e
    have s3 : Same H2 (upd H2 p (.tup [kV (Sum.inl (bf cs j : Int)), .int (goalP cs j)])) := (Same.refl H2).upd hp
    have gt : Same (upd H g (.frz ob (.dK (tabG cs m)))) (upd H2 p (.tup [kV (Sum.inl (bf cs j : Int)), .int (goalP cs j)])) := s2.trans s3
    have sv : Save g H (upd H2 p (.tup [kV (Sum.inl (bf cs j : Int)), .int (goalP cs j)])) := fun b o hb e => gt _ _ (by rw [upd_ne hb]; exact e)
    refine ⟨p, _, rfl, SqT.of upd_same, rfl, _, _, rfl, _, _, rfl, rfl, ?_⟩
    have hd3 := gt _ _ (frz_other (u := .frz ob (.dK (tabG cs m))) hd hdg)
    have ge := DGet.k (k := (Sum.inl (goalP cs j) : Key)) hd3
    refine ⟨_, rfl, _, rfl, d, _, rfl, ge, _, rfl, ?_⟩
    have lt : (∃ t, t ≤ m ∧ ((bf cs t : Nat) : Int) = goalP cs j) → i + 1 ≤ i0 := fun ⟨t, ht, et⟩ => by
      rcases Nat.lt_or_ge i i0 with z | z
      · exact z
      · obtain rfl : i = i0 := by omega
        rw [List.getElem?_eq_getElem hi0, ei0] at hy
        have := Option.some.inj hy
        injection this with y1 y2
        have q : bf cs j0 = bf cs j := by have := Sum.inl.inj y1; omega
        have := bf_inj hm (by omega) (by omega) q
        subst this
        exact absurd et (hb0 t ht)
    cases ev : valV (tabE (bf cs) m) (Sum.inl (goalP cs j)) with
    | some v =>
      refine iteF (iteF ⟨_, _, rfl, gt, lt ?_⟩)
      by_cases q : ∃ t, t < m ∧ ((bf cs t : Nat) : Int) = goalP cs j
      · obtain ⟨t, ht, et⟩ := q
        exact ⟨t, by omega, et⟩
      · rw [tabE_none fun t ht et => q ⟨t, ht, et⟩] at ev
        cases ev
    | none =>
      refine iteT ?_
      refine ⟨_, rfl, _, rfl, a, _, rfl, .inl (SqL.of (gt _ _ (frz_other ha nag))), rfl, _, rfl, ite2 (fun h1 => ?_) (fun h1 => ?_)⟩
      · have := bp_le (bp_down hm (show j ≤ m by omega))
        exact ⟨_, rfl, _, rfl, by omega, by omega, fun _ => ke _ sv⟩
      · have h1 : V.int (goalP cs j) = V.int (((cs.map V.int).length : Nat) : Int) := by
          by_cases q : V.int (goalP cs j) = V.int (((cs.map V.int).length : Nat) : Int)
          · exact q
          · exact absurd (by rw [decide_eq_false q]; rfl) h1
        injection h1 with h1
        rw [List.length_map] at h1
        exact ⟨_, _, rfl, gt, lt ⟨m, Nat.le_refl _, by rw [bf_of hm, h1]⟩⟩
noncomputable def spCellsX (n : Nat) (c : Cn) : Sp := fun vs H _ E => ∃ (a : Addr) (cs : List Int) (more : List V), vs = .ref a :: more ∧ more.length = n ∧ H a = some (.lst (cs.map V.int)) ∧ cs.length ≤ 200 ∧ BadC cs ∧ ∀ H', Same H H' → E (.ref c.NoCells) none H'
theorem no_placed_rows (D : Def K mg "placed_rows" s_placed_rows ["cells"]) (T : Tx P w K mg) (C : Tc K mg c) (h_ends_of : Has P w K mg base 2 "ends_of" ["cells"] spEndsOf) (n_ends_of : Has1 P w K mg base 2 "ends_of" ["cells"] (spEndsX c))
    (h_goals_of : Has P w K mg base 3 "goals_of" ["cells", "ends"] spGoalsOf) (n_goals_of : Has1 P w K mg base 3 "goals_of" ["cells", "ends"] (spGoalsX c))
    (h_refuse_other_goals : Has P w K mg base 1 "refuse_other_goals" ["cells", "ends", "goals"] spOtherGoals) (n_refuse_other_goals : Has1 P w K mg base 1 "refuse_other_goals" ["cells", "ends", "goals"] (spOtherX c))
    (h_cell_name : Has P w K mg base 1 "cell_name" ["cell"] spCellName) (h_row_at : Has P w K mg base 2 "row_at" ["cells", "goals", "cell"] spRowAt) : Has1 P w K mg base 4 "placed_rows" ["cells"] (spCellsX 0 c) := by
  have h_ends_of := n_ends_of
  have h_goals_of := n_goals_of
  have h_refuse_other_goals := n_refuse_other_goals
  refine D.has1 sc_placed_rows (fun vs H Q E h => ?_) (fun f cdv A outer s H vs Q E hr h => ?_)
  · obtain ⟨a, cs, more, rfl, hm, _⟩ := h
    show more.length + 1 = 1
    omega
  · obtain ⟨a, cs, more, rfl, hm, ha, hl, hb, k⟩ := h
    obtain rfl := List.length_eq_zero_iff.mp hm
    have hu := hu_of hr
    refine ⟨_, (pss_cons (ps_set (i := 1) sc_placed_rows.nd rfl (Or.inl rfl) (pe_has1 h_ends_of hr pass1 rfl (pa_cons (pv 0) pa_nil)))
      (pss_cons (ps_set (i := 2) sc_placed_rows.nd rfl (Or.inl rfl) (pe_has1 h_goals_of hr pass1 rfl (pa_cons (pv 0) (pa_cons (pv 1) pa_nil))))
      (pss_cons (ps_expr (pe_has1 h_refuse_other_goals hr pass1 rfl (pa_cons (pv 0) (pa_cons (pv 1) (pa_cons (pv 2) pa_nil)))))
      (pss_cons (ps_set (i := 3) sc_placed_rows.nd rfl (Or.inl rfl) pe_dnewK)
      (pss_cons (ps_frz (ps_for PassesOwn.leaving rfl (pi_vals (pv 2)) (pg_name (i := 4) sc_placed_rows.nd rfl (Or.inl rfl))
        (pss_one (ps_dput hu (pv 3) (pv 4) pe_bl rfl))))
      (pss_cons (ps_set (i := 5) sc_placed_rows.nd rfl (Or.inl rfl) (pe_lst pa_nil))
      (pss_cons (ps_frz (ps_for PassesOwn.leaving rfl (pi_keys (pv 1)) (pg_name (i := 6) sc_placed_rows.nd rfl (Or.inl rfl))
        (pss_cons (ps_if (pt_cmp (pc_din hu (pv 6) (pv 3))) (pss_one (ps_expr (pe_bmF PySem.F.plainAttrs_list PySem.F.slot_list_append PySem.F.type_list_append mt_append (pv 5) (pa_tup (pe_tup (pa_cons (pv 6) (pa_tup (pe_tup (pa_con pe_str (pa_cons (pe_has h_cell_name hr rfl (pa_cons (pv 6) pa_nil)) pa_nil))) pa_nil))) pa_nil)))) pss_nil)
      (pss_one (ps_expr (pe_bmF PySem.F.plainAttrs_list PySem.F.slot_list_append PySem.F.type_list_append mt_append (pv 5) (pa_tup (pe_tup (pa_cons (pv 6) (pa_cons (pe_has h_row_at hr rfl (pa_cons (pv 0) (pa_cons (pv 2) (pa_cons (pv 6) pa_nil)))) pa_nil))) pa_nil)))))))
      (pss_cons (ps_if (pt_cmp (pc_din hu (pe_callB call_len_seq0 (by rfl) T.b_len bt_len (pa_cons (pv 0) pa_nil)) (pv 3))) (pss_one (ps_expr (pe_bmF PySem.F.plainAttrs_list PySem.F.slot_list_append PySem.F.type_list_append mt_append (pv 5) (pa_tup (pe_tup (pa_cons (pe_callB call_len_seq0 (by rfl) T.b_len bt_len (pa_cons (pv 0) pa_nil)) (pa_tup (pe_tup (pa_con pe_str (pa_cons (pe_has h_cell_name hr rfl (pa_cons (pe_callB call_len_seq0 (by rfl) T.b_len bt_len (pa_cons (pv 0) pa_nil)) pa_nil)) pa_nil))) pa_nil))) pa_nil)))) pss_nil)
      (pss_one (ps_ret (pv 5))))))))))), ?_⟩
    have dead : Bad1 cs → ∀ m, bp cs m = some cs.length → False := fun ⟨j, p, h1, h2, h3⟩ m h4 => by
      have e1 := bf_of h1
      have e4 := bf_of h4
      have lt : j < m := by
        rcases Nat.lt_or_ge j m with z | z
        · exact z
        · rcases Nat.lt_or_ge m j with y | y
          · have := bf_lt h1 y (Nat.le_refl _); omega
          · obtain rfl : j = m := by omega
            omega
      obtain ⟨p', h5, h6⟩ := bp_prev (bp_down h4 lt)
      rw [h1] at h5
      cases h5
      rw [h3] at h6
      cases h6
    refine ⟨_, rfl, a, cs, rfl, ha, hl, fun m hm d H1 hd s1 hd1 => ?_, fun hb1 H1 s1 => k H1 s1⟩
    rcases hb with hb | ⟨m', hm', hb⟩
    · exact (dead hb m hm).elim
    obtain rfl : m' = m := bf_inj (m := max m m') (q := cs.length) (by rcases Nat.le_total m m' with z | z; · rw [Nat.max_eq_right z]; exact hm'
                                                                       · rw [Nat.max_eq_left z]; exact hm) (Nat.le_max_right _ _) (Nat.le_max_left _ _) (by rw [bf_of hm, bf_of hm'])
    refine ⟨_, rfl, _, rfl, a, d, cs, m', rfl, s1 _ _ ha, hl, hm, hd1, fun hb2 g H2 hg s2 hg2 => ?_, fun hb2 H2 s2 => k H2 fun b o e => s2 b o (ne_of_none e hd) (s1 _ _ e)⟩
    rcases hb with hb | ⟨_, hb⟩
    · exact absurd hb hb2
    exact ⟨_, rfl, _, rfl, _, rfl, a, d, g, cs, m', rfl, (s1.trans s2) _ _ ha, hl, hm, s2 _ _ hd1, hg2, (fun z => by rw [z] at hd1; rw [hd1] at hg; cases hg), hb, fun H3 s3 => k H3 fun b o e => s3 b o (ne_of_none (s1 _ _ e) hg) ((s1.trans s2) _ _ e)⟩
theorem no_rows_of (D : Def K mg "rows_of" s_rows_of ["cells"]) (T : Tx P w K mg) (C : Tc K mg c) (h_placed_rows : Has P w K mg base 4 "placed_rows" ["cells"] spPlaced) (n_placed_rows : Has1 P w K mg base 4 "placed_rows" ["cells"] (spCellsX 0 c)) : Has1 P w K mg base 5 "rows_of" ["cells"] (spCellsX 0 c) := by
  have h_placed_rows := n_placed_rows
  refine D.has1 sc_rows_of (fun vs H Q E h => ?_) (fun f cdv A outer s H vs Q E hr h => ?_)
  · obtain ⟨a, cs, more, rfl, hm, _⟩ := h
    show more.length + 1 = 1
    omega
  · obtain ⟨a, cs, more, rfl, hm, ha, hl, hb, k⟩ := h
    obtain rfl := List.length_eq_zero_iff.mp hm
    refine ⟨_, (pss_one (ps_ret (pe_comp2 rfl (x := "cell") (x2 := "row") (xs := []) (caps := []) (osc := defScope s_rows_of) ⟨rfl, rfl, by decide +kernel, by decide +kernel, rfl, rfl, by decide +kernel, by decide +kernel, by decide +kernel, .nil⟩ (pi_list (pe_has1 h_placed_rows hr pass1 rfl (pa_cons (pv 0) pa_nil))) (fun _ _ _ => (pv 1)) (fun _ _ _ => pifs_nil)))), ?_⟩
    exact ⟨_, rfl, a, cs, [], rfl, rfl, ha, hl, hb, k⟩
theorem no_walked_cells (D : Def K mg "walked_cells" s_walked_cells ["cells", "number", "steps"]) (T : Tx P w K mg) (C : Tc K mg c) (h_placed_rows : Has P w K mg base 4 "placed_rows" ["cells"] spPlaced) (n_placed_rows : Has1 P w K mg base 4 "placed_rows" ["cells"] (spCellsX 0 c))
    (h_walked_rows : Has P w K mg base 5 "walked_rows" ["rows", "number", "steps"] spWRows) : Has1 P w K mg base 6 "walked_cells" ["cells", "number", "steps"] (spCellsX 2 c) := by
  have h_placed_rows := n_placed_rows
  refine D.has1 sc_walked_cells (fun vs H Q E h => ?_) (fun f cdv A outer s H vs Q E hr h => ?_)
  · obtain ⟨a, cs, more, rfl, hm, _⟩ := h
    show more.length + 1 = 3
    omega
  · obtain ⟨a, cs, more, rfl, hm, ha, hl, hb, k⟩ := h
    obtain ⟨x, y, rfl⟩ : ∃ x y, more = [x, y] := by
      match more, hm with
      | [x, y], _ => exact ⟨x, y, rfl⟩
    refine ⟨_, (pss_cons (ps_set (i := 3) sc_walked_cells.nd rfl (Or.inr rfl) (pe_has1 h_placed_rows hr pass1 rfl (pa_cons (pv 0) pa_nil)))
      (pss_cons (ps_set (i := 4) sc_walked_cells.nd rfl (Or.inl rfl) (pe_has h_walked_rows hr rfl (pa_cons (pe_comp2 rfl (x := "cell") (x2 := "row") (xs := []) (caps := []) (osc := defScope s_walked_cells) ⟨rfl, rfl, by decide +kernel, by decide +kernel, rfl, rfl, by decide +kernel, by decide +kernel, by decide +kernel, .nil⟩ (pi_list (pv 3)) (fun _ _ _ => (pv 1)) (fun _ _ _ => pifs_nil)) (pa_cons (pv 1) (pa_cons (pv 2) pa_nil)))))
      (pss_one (ps_ret (pe_tup (pa_cons (pe_comp2 rfl (x := "place") (x2 := "held") (xs := ["placed"]) (caps := [3]) (osc := defScope s_walked_cells) ⟨rfl, rfl, by decide +kernel, by decide +kernel, rfl, rfl, by decide +kernel, by decide +kernel, by decide +kernel, (.cons ⟨rfl, by decide +kernel⟩ (.nil))⟩ (pi_list (pe_ix ix_tup0 (pv 4) pe_int (fun _ _ => rfl))) (fun _ _ _ => (pe_tup (pa_cons (pe_ix ix_tup0 (pe_ix ix_list0 (pv 2) (pv 0) (fun _ _ => rfl)) pe_int (fun _ _ => rfl)) (pa_cons (pv 1) pa_nil)))) (fun _ _ _ => pifs_nil)) (pa_cons (pe_ix ix_tup0 (pv 4) pe_int (fun _ _ => rfl)) pa_nil))))))), ?_⟩
    exact ⟨_, rfl, a, cs, [], rfl, rfl, ha, hl, hb, k⟩
end
end SC

set_option maxHeartbeats 2000000
namespace SC
open PySem PySem.Spec PyProof.Rows L2
structure GoodC (cs : List Int) (m : Nat) : Prop where
  hm : bp cs m = some cs.length
  ok : ∀ j, j < m → okP cs (bf cs j) = true
  to : ∀ j, j < m → ldP cs (bf cs j) = true → ∃ t, t ≤ m ∧ ((bf cs t : Nat) : Int) = goalP cs j
theorem good_or (cs : List Int) : (∃ m, GoodC cs m) ∨ BadC cs := by
  rcases cells_end cs with ⟨m, hm⟩ | h
  · by_cases h2 : Bad2 cs m
    · exact .inr (.inr ⟨m, hm, .inl h2⟩)
    · by_cases h3 : Bad3 cs m
      · exact .inr (.inr ⟨m, hm, .inr ⟨h2, h3⟩⟩)
      · refine .inl ⟨m, hm, fun j hj => ?_, fun j hj hl => ?_⟩
        · cases e : okP cs (bf cs j) with
          | true => rfl
          | false => exact absurd ⟨j, hj, e⟩ h2
        · by_cases q : ∃ t, t ≤ m ∧ ((bf cs t : Nat) : Int) = goalP cs j
          · exact q
          · exact absurd ⟨j, hj, hl, fun t ht et => q ⟨t, ht, et⟩⟩ h3
  · exact .inr (.inl h)
noncomputable def toT (cs : List Int) (m j : Nat) : Nat := ((List.range (m + 1)).find? fun t => decide (((bf cs t : Nat) : Int) = goalP cs j)).getD 0
noncomputable def crOf (cs : List Int) (m j : Nat) : Cr :=
  if cA cs (bf cs j) = 1 then .grow (cA cs (bf cs j + 1)) else if cA cs (bf cs j) = 2 then .tell else if cA cs (bf cs j) = 3 then .halt else
    if cA cs (bf cs j) = 4 ∨ cA cs (bf cs j) = 5 then .jump (toT cs m j) else .whn (toT cs m j)
noncomputable def usOf (cs : List Int) (m : Nat) : List Cr := (List.range m).map (crOf cs m)
noncomputable def fcOf (cs : List Int) (m j : Nat) : Bool := decide (j < m) && isFr (cA cs (bf cs j))
section
variable {cs : List Int} {m : Nat}
theorem us_len : (usOf cs m).length = m := by simp [usOf]
theorem us_at {j : Nat} (h : j < m) : (usOf cs m)[j]? = some (crOf cs m j) := by
  unfold usOf
  rw [List.getElem?_map, List.getElem?_range h]
  rfl
theorem us_out {j : Nat} (h : m ≤ j) : (usOf cs m)[j]? = none := List.getElem?_eq_none (by rw [us_len]; exact h)
theorem fc_at {j : Nat} (h : j < m) : fcOf cs m j = isFr (cA cs (bf cs j)) := by unfold fcOf; rw [decide_eq_true h]; rfl
theorem codes (g : GoodC cs m) {j : Nat} (h : j < m) : ∃ s, siz (cA cs (bf cs j)) = some s ∧ bf cs (j + 1) = bf cs j + s ∧ bf cs j + s ≤ cs.length ∧
    (cA cs (bf cs j) = 1 ∨ cA cs (bf cs j) = 2 ∨ cA cs (bf cs j) = 3 ∨ cA cs (bf cs j) = 4 ∨ cA cs (bf cs j) = 5 ∨ cA cs (bf cs j) = 6 ∨ cA cs (bf cs j) = 7) := by
  obtain ⟨s, e1, e2, e3⟩ := bf_step g.hm h
  have := siz_in e1
  exact ⟨s, e1, e2, e3, by show cs.getD _ 0 = 1 ∨ _; unfold cA; omega⟩
theorem toT_ok (g : GoodC cs m) {j : Nat} (h : j < m) (hl : ldP cs (bf cs j) = true) : toT cs m j ≤ m ∧ ((bf cs (toT cs m j) : Nat) : Int) = goalP cs j := by
  obtain ⟨t, ht, et⟩ := g.to j h hl
  unfold toT
  cases e : (List.range (m + 1)).find? fun t => decide (((bf cs t : Nat) : Int) = goalP cs j) with
  | none => exact absurd (decide_eq_true et) (by have := List.find?_eq_none.mp e t (List.mem_range.mpr (by omega)); exact this)
  | some u =>
    have h1 := List.mem_of_find?_eq_some e
    have h2 := List.find?_some e
    exact ⟨by have := List.mem_range.mp h1; show u ≤ m; omega, of_decide_eq_true h2⟩
theorem ld_us (g : GoodC cs m) {j : Nat} (h : j < m) : ldc (usOf cs m) j = if ldP cs (bf cs j) = true then some (toT cs m j) else none := by
  obtain ⟨s, _, _, _, hc⟩ := codes g h
  unfold ldc
  rw [us_at h]
  show (crOf cs m j).lead = _
  unfold crOf ldP isNr isFr
  rcases hc with e | e | e | e | e | e | e <;> (rw [e]; rfl)
theorem sz_us (g : GoodC cs m) {j : Nat} (h : j < m) : szc (usOf cs m) j + SM.b2z (fcOf cs m j) = ((bf cs (j + 1) : Nat) : Int) - (bf cs j : Nat) := by
  obtain ⟨s, e1, e2, _, hc⟩ := codes g h
  unfold szc
  rw [us_at h, fc_at h, e2]
  show (crOf cs m j).sz + _ = _
  unfold crOf isFr
  rcases hc with e | e | e | e | e | e | e <;> (rw [e] at e1 ⊢; cases e1; show (_ : Int) = _; simp [Cr.sz, SM.b2z]; try omega)
theorem bg_us (g : GoodC cs m) {j : Nat} (h : j ≤ m) : SM.bg (szc (usOf cs m)) (fcOf cs m) j = (bf cs j : Nat) := by
  induction j with
  | zero => rfl
  | succ j ih =>
    show SM.bg _ _ j + (_ + _) = _
    rw [ih (by omega), sz_us g (by omega)]
    omega
theorem gap_us (g : GoodC cs m) {j : Nat} (h : j < m) (hl : ldP cs (bf cs j) = true) : gapC (usOf cs m) (fcOf cs m) j = gapP cs (bf cs j) := by
  unfold gapC
  rw [ld_us g h, if_pos hl]
  show SM.bg _ _ _ - SM.bg _ _ _ = _
  obtain ⟨h1, h2⟩ := toT_ok g h hl
  rw [bg_us g h1, bg_us g (by omega), h2]
  unfold goalP
  omega
theorem take_one {p : Nat} (h : p < cs.length) : cs.take (p + 1) = cs.take p ++ [cA cs p] := by
  rw [List.take_add_one, List.getElem?_eq_getElem h]
  unfold cA
  rw [List.getD_eq_getElem?_getD, List.getElem?_eq_getElem h]
  rfl
theorem cells_us (g : GoodC cs m) {j : Nat} (h : j ≤ m) : cellsPC (usOf cs m) (fcOf cs m) j = cs.take (bf cs j) := by
  induction j with
  | zero => rfl
  | succ j ih =>
    obtain ⟨s, e1, e2, e3, hc⟩ := codes g (show j < m by omega)
    have hok := g.ok j (by omega)
    show cellsPC _ _ j ++ cellsRC _ _ j = _
    rw [ih (by omega), e2]
    have two : s = 2 → cs.take (bf cs j + s) = cs.take (bf cs j) ++ [cA cs (bf cs j), cA cs (bf cs j + 1)] := fun z => by
      subst z
      rw [show bf cs j + 2 = bf cs j + 1 + 1 by omega, take_one (by omega), take_one (by omega), List.append_assoc]
      rfl
    have one : s = 1 → cs.take (bf cs j + s) = cs.take (bf cs j) ++ [cA cs (bf cs j)] := fun z => by
      subst z
      exact take_one (by omega)
    have three : s = 3 → cs.take (bf cs j + s) = cs.take (bf cs j) ++ [cA cs (bf cs j), cA cs (bf cs j + 1), cA cs (bf cs j + 2)] := fun z => by
      subst z
      rw [show bf cs j + 3 = bf cs j + 1 + 1 + 1 by omega, take_one (by omega), take_one (by omega), take_one (by omega), List.append_assoc, List.append_assoc]
      rfl
    have hr : cellsRC (usOf cs m) (fcOf cs m) j = (crOf cs m j).cells (fcOf cs m j) (gapC (usOf cs m) (fcOf cs m) j) := by unfold cellsRC; rw [us_at (by omega)]
    rw [hr, fc_at (by omega)]
    have gp := gap_us g (show j < m by omega)
    rcases hc with e | e | e | e | e | e | e
    · rw [two (by rw [e] at e1; cases e1; rfl)]
      unfold crOf isFr
      rw [e]
      rfl
    · rw [one (by rw [e] at e1; cases e1; rfl)]
      unfold crOf isFr
      rw [e]
      rfl
    · rw [one (by rw [e] at e1; cases e1; rfl)]
      unfold crOf isFr
      rw [e]
      rfl
    · rw [gp (by unfold ldP isNr isFr; rw [e]; rfl), two (by rw [e] at e1; cases e1; rfl)]
      unfold crOf gapP isFr
      rw [e]
      rfl
    · have hy : 0 ≤ cA cs (bf cs j + 2) ∧ cA cs (bf cs j + 2) < 16 := by
        unfold okP isNr isFr at hok
        rw [e] at hok
        have hok : (decide (0 ≤ cA cs (bf cs j + 2)) && decide (cA cs (bf cs j + 2) < 16)) = true := hok
        rw [Bool.and_eq_true] at hok
        exact ⟨of_decide_eq_true hok.1, of_decide_eq_true hok.2⟩
      rw [gp (by unfold ldP isNr isFr; rw [e]; rfl), three (by rw [e] at e1; cases e1; rfl)]
      unfold crOf gapP isFr
      rw [e]
      show _ ++ [5, (cA cs (bf cs j + 1) * 16 + cA cs (bf cs j + 2)) / 16, (cA cs (bf cs j + 1) * 16 + cA cs (bf cs j + 2)) % 16] = _
      rw [show (cA cs (bf cs j + 1) * 16 + cA cs (bf cs j + 2)) / 16 = cA cs (bf cs j + 1) by omega, show (cA cs (bf cs j + 1) * 16 + cA cs (bf cs j + 2)) % 16 = cA cs (bf cs j + 2) by omega]
    · rw [gp (by unfold ldP isNr isFr; rw [e]; rfl), two (by rw [e] at e1; cases e1; rfl)]
      unfold crOf gapP isFr
      rw [e]
      rfl
    · have hy : 0 ≤ cA cs (bf cs j + 2) ∧ cA cs (bf cs j + 2) < 16 := by
        unfold okP isNr isFr at hok
        rw [e] at hok
        have hok : (decide (0 ≤ cA cs (bf cs j + 2)) && decide (cA cs (bf cs j + 2) < 16)) = true := hok
        rw [Bool.and_eq_true] at hok
        exact ⟨of_decide_eq_true hok.1, of_decide_eq_true hok.2⟩
      rw [gp (by unfold ldP isNr isFr; rw [e]; rfl), three (by rw [e] at e1; cases e1; rfl)]
      unfold crOf gapP isFr
      rw [e]
      show _ ++ [7, (cA cs (bf cs j + 1) * 16 + cA cs (bf cs j + 2)) / 16, (cA cs (bf cs j + 1) * 16 + cA cs (bf cs j + 2)) % 16] = _
      rw [show (cA cs (bf cs j + 1) * 16 + cA cs (bf cs j + 2)) / 16 = cA cs (bf cs j + 1) by omega, show (cA cs (bf cs j + 1) * 16 + cA cs (bf cs j + 2)) % 16 = cA cs (bf cs j + 2) by omega]
theorem cells_all (g : GoodC cs m) : cellsPC (usOf cs m) (fcOf cs m) (usOf cs m).length = cs := by
  rw [us_len, cells_us g (Nat.le_refl _), bf_of g.hm, List.take_of_length_le (Nat.le_refl _)]
theorem bC_us (g : GoodC cs m) {j : Nat} (h : j ≤ m) : bC (usOf cs m) (fcOf cs m) j = bf cs j := by
  unfold bC
  rw [cells_us g h, List.length_take]
  have := bp_le (bp_down g.hm h)
  omega
noncomputable def Small (cs : List Int) : Prop := cs.length ≤ 100 ∧ ∀ x ∈ cs, -(10 ^ 30) ≤ x ∧ x ≤ 10 ^ 30
theorem cv_us (g : GoodC cs m) (h : Small cs) : CV (usOf cs m) (fcOf cs m) := by
  have hml := bp_le g.hm
  have lt : ∀ j t, ldc (usOf cs m) j = some t → j < m ∧ ldP cs (bf cs j) = true ∧ t = toT cs m j := fun j t e => by
    rcases Nat.lt_or_ge j m with z | z
    · rw [ld_us g z] at e
      split at e
      · rename_i q
        exact ⟨z, q, (Option.some.inj e).symm⟩
      · cases e
    · unfold ldc at e
      rw [us_out z] at e
      cases e
  refine ⟨fun j t e => ?_, fun j e => ?_, fun j t e hf => ?_, by rw [us_len]; have := h.1; omega, fun n hn => ?_⟩
  · obtain ⟨z, q, rfl⟩ := lt j t e
    rw [us_len]
    exact (toT_ok g z q).1
  · rcases Nat.lt_or_ge j m with z | z
    · rw [ld_us g z] at e
      rw [fc_at z]
      split at e
      · cases e
      · rename_i q
        unfold ldP at q
        cases f : isFr (cA cs (bf cs j)) with
        | false => rfl
        | true => rw [f, Bool.or_true] at q; exact absurd rfl q
    · unfold fcOf
      rw [decide_eq_false (by omega)]
      rfl
  · obtain ⟨z, q, rfl⟩ := lt j t e
    rw [gap_us g z q]
    rw [fc_at z] at hf
    have hn : isNr (cA cs (bf cs j)) = true := by
      unfold ldP at q
      rw [hf, Bool.or_false] at q
      exact q
    have := g.ok j z
    unfold okP at this
    rw [hn] at this
    unfold gapP
    rw [hf]
    exact this
  · obtain ⟨j, hj, e⟩ := List.mem_map.mp hn
    have hj := List.mem_range.mp hj
    obtain ⟨s, e1, e2, e3, hc⟩ := codes g hj
    unfold crOf at e
    split at e
    · rename_i q
      cases e
      rw [q] at e1
      cases e1
      refine h.2 _ ?_
      unfold cA
      rw [List.getD_eq_getElem?_getD, List.getElem?_eq_getElem (show bf cs j + 1 < cs.length by omega)]
      exact List.getElem_mem _
    · split at e
      · cases e
      · split at e
        · cases e
        · split at e <;> cases e
end
end SC

set_option maxHeartbeats 4000000
namespace SC
open PySem PySem.Spec PyProof.Rows L2
noncomputable def gapL (cs : List Int) (p : Nat) : Int := bif isFr (cA cs p) then 16 * cA cs (p + 1) + cA cs (p + 2) else if cA cs p = 2 ∨ cA cs p = 3 then 0 else cA cs (p + 1)
noncomputable def ptV (cs : List Int) (j : Nat) : List V := [.int (bf cs j : Nat), .int (cA cs (bf cs j)), .int (gapL cs (bf cs j)), .int (bf cs (j + 1) : Nat)]
noncomputable def ptsV (cs : List Int) (m : Nat) : List (List V) := (List.range m).map (ptV cs)
theorem pts_len {cs : List Int} {m : Nat} : (ptsV cs m).length = m := by simp [ptsV]
theorem pts_succ {cs : List Int} {m : Nat} : ptsV cs (m + 1) = ptsV cs m ++ [ptV cs m] := by
  unfold ptsV
  rw [List.range_succ, List.map_append]
  rfl
theorem pts_at {cs : List Int} {m j : Nat} (h : j < m) : (ptsV cs m)[j]? = some (ptV cs j) := by
  unfold ptsV
  rw [List.getElem?_map, List.getElem?_range h]
  rfl
noncomputable def SZK : List (Key × V) := [(Sum.inl 1, .int 2), (Sum.inl 2, .int 1), (Sum.inl 3, .int 1), (Sum.inl 4, .int 2), (Sum.inl 5, .int 3), (Sum.inl 6, .int 2), (Sum.inl 7, .int 3)]
theorem szk_val (f : Int) : valV (mergeK [] SZK) (Sum.inl f) = (siz f).map fun n => V.int (n : Nat) := by
  rw [← siz_look]
  have e : mergeK [] SZK = SZK := by decide +kernel
  rw [e]
  unfold valV lookI SZK SIZ
  by_cases h1 : f = 1
  · subst h1; rfl
  by_cases h2 : f = 2
  · subst h2; rfl
  by_cases h3 : f = 3
  · subst h3; rfl
  by_cases h4 : f = 4
  · subst h4; rfl
  by_cases h5 : f = 5
  · subst h5; rfl
  by_cases h6 : f = 6
  · subst h6; rfl
  by_cases h7 : f = 7
  · subst h7; rfl
  simp [Ne.symm h1, Ne.symm h2, Ne.symm h3, Ne.symm h4, Ne.symm h5, Ne.symm h6, Ne.symm h7]
section
variable {cs : List Int}
theorem good_lt {m j p : Nat} (g : GoodC cs m) (h : bp cs j = some p) (hp : p < cs.length) : j < m := by
  rcases Nat.lt_or_ge j m with z | z
  · exact z
  · have e1 := bf_of h
    have e2 := bf_of g.hm
    rcases Nat.lt_or_ge m j with y | y
    · have := bf_lt h y (Nat.le_refl _)
      omega
    · obtain rfl : j = m := by omega
      omega
theorem bad_none {j p : Nat} (h : bp cs j = some p) (hp : p < cs.length) (hn : nx cs p = none) : BadC cs := .inl ⟨j, p, h, hp, hn⟩
theorem bad_ok {j p : Nat} (h : bp cs j = some p) (hp : p < cs.length) (hn : okP cs p = false) : BadC cs := by
  rcases good_or cs with ⟨m, g⟩ | b
  · have := g.ok j (good_lt g h hp)
    rw [bf_of h, hn] at this
    cases this
  · exact b
theorem good_not {m : Nat} (g : GoodC cs m) (b : BadC cs) : False := by
  rcases b with ⟨j, p, h1, h2, h3⟩ | ⟨m', h', b⟩
  · have lt := good_lt g h1 h2
    obtain ⟨p', h5, h6⟩ := bp_prev (bp_down g.hm lt)
    rw [h1] at h5
    cases h5
    rw [h3] at h6
    cases h6
  · obtain rfl : m' = m := bf_inj (m := max m m') (q := cs.length) (by rcases Nat.le_total m m' with z | z; · rw [Nat.max_eq_right z]; exact h'
                                                                       · rw [Nat.max_eq_left z]; exact g.hm) (Nat.le_max_right _ _) (Nat.le_max_left _ _) (by rw [bf_of g.hm, bf_of h'])
    rcases b with ⟨j, hj, e⟩ | ⟨_, j, hj, hl, hn⟩
    · rw [g.ok j hj] at e
      cases e
    · obtain ⟨t, ht, et⟩ := g.to j hj hl
      exact hn t ht et
theorem good_uniq {m m' : Nat} (g : GoodC cs m) (g' : GoodC cs m') : m = m' := by
  have := bf_of g.hm
  have := bf_of g'.hm
  exact bf_inj (m := max m m') (q := cs.length) (by rcases Nat.le_total m m' with z | z; · rw [Nat.max_eq_right z]; exact g'.hm
                                                    · rw [Nat.max_eq_left z]; exact g.hm) (Nat.le_max_left _ _) (Nat.le_max_right _ _) (by omega)
theorem ld_gt {m j : Nat} (h : bp cs m = some cs.length) (hj : j < m) : ldP cs (bf cs j) = decide (3 < cA cs (bf cs j)) := by
  obtain ⟨s, e1, _⟩ := bf_step h hj
  have e1 : siz (cA cs (bf cs j)) = some s := e1
  have := siz_in e1
  unfold ldP isNr isFr
  have hc : cA cs (bf cs j) = 1 ∨ cA cs (bf cs j) = 2 ∨ cA cs (bf cs j) = 3 ∨ cA cs (bf cs j) = 4 ∨ cA cs (bf cs j) = 5 ∨ cA cs (bf cs j) = 6 ∨ cA cs (bf cs j) = 7 := by omega
  rcases hc with e | e | e | e | e | e | e <;> (rw [e]; rfl)
theorem gapL_ld {m j : Nat} (h : bp cs m = some cs.length) (hj : j < m) (hl : ldP cs (bf cs j) = true) : gapL cs (bf cs j) = gapP cs (bf cs j) := by
  rw [ld_gt h hj] at hl
  have := of_decide_eq_true hl
  unfold gapL gapP
  cases isFr (cA cs (bf cs j)) with
  | true => show (_ : Int) = _; simp; omega
  | false => show (if _ then _ else _) = _; rw [if_neg (by omega)]; rfl
end
theorem seq_cutR {t u : TS} {D : Ends} {σ : L2.St} {H : Hp} (J : L2.St → Hp → Prop) (h1 : ∀ D' : Ends, D'.rt = D.rt → (∀ σ' H', J σ' H' → D'.nx σ' H') → t D' σ H) (h2 : ∀ σ' H', J σ' H' → u D σ' H') : tSeq t u D σ H := h1 _ rfl h2
theorem inV_ints {g : Int} {xs : List Int} : inV (V.int g) (xs.map V.int) = decide (g ∈ xs) := by
  unfold inV
  induction xs with
  | nil => rfl
  | cons x xs ih =>
    rw [List.map_cons, List.any_cons, ih]
    by_cases h : g = x
    · subst h
      simp [eqV]
    · have : eqV (V.int x) (V.int g) = false := by simp [eqV, Ne.symm h]
      rw [this]
      simp [h]
section
variable {P : Program} {w : World} {K : PySem.W.Frag} {mg : Str → Option Value} {base : Heap} {c : Cn}
noncomputable abbrev s__law_cut_up : Stmt := top 47
theorem sc__law_cut_up : FnScope ["_law_cells", "_law_sizes", "_law_parts", "_law_spot", "_law_size", "_law_gap", "_law_begun", "_law_part"] ["_law_cells"] (defScope s__law_cut_up) := ⟨rfl, rfl, rfl, by decide +kernel, rfl, by decide +kernel, by decide +kernel⟩
noncomputable def spCut : Sp := fun vs H Q _ => ∃ (a : Addr) (cs : List Int), vs = [.ref a] ∧ H a = some (.lst (cs.map V.int)) ∧ Small cs ∧
  (∀ m, GoodC cs m → ∀ l H', H l = none → Same H H' → TsAt H' l (ptsV cs m) → Q (.ref l) H') ∧ (BadC cs → ∀ H', Same H H' → Q .non H')
theorem ok__law_cut_up (D : Def K mg "_law_cut_up" s__law_cut_up ["_law_cells"]) (T : Tx P w K mg) : Has P w K mg base 1 "_law_cut_up" ["_law_cells"] spCut := by
  refine D.has sc__law_cut_up (fun vs H Q E h => ?_) (fun f cdv A outer s H vs Q E hr h => ?_)
  · obtain ⟨a, cs, rfl, _⟩ := h
    rfl
  · obtain ⟨a, cs, rfl, ha, hsm, kq, kn⟩ := h
    have hu := hu_of hr
    have hl := hsm.1
    refine ⟨_, (@pss_cons _ _ _ _ _ (@ps_set _ _ 1 _ _ _ _ sc__law_cut_up.nd rfl (Or.inl rfl) (@pe_disp _ _ _ _ _ (@pps_cons _ _ _ _ _ _ _ _ _ pe_int pe_int (@pps_cons _ _ _ _ _ _ _ _ _ pe_int pe_int (@pps_cons _ _ _ _ _ _ _ _ _ pe_int pe_int (@pps_cons _ _ _ _ _ _ _ _ _ pe_int pe_int (@pps_cons _ _ _ _ _ _ _ _ _ pe_int pe_int (@pps_cons _ _ _ _ _ _ _ _ _ pe_int pe_int (@pps_cons _ _ _ _ _ _ _ _ _ pe_int pe_int pps_nil))))))) rfl rfl (List.cons_ne_nil _ _) (by decide)) (by rfl) (by first | exact .inl rfl | exact .inr rfl | assumption)) (@pss_cons _ _ _ _ _ (@ps_set _ _ 2 _ _ _ _ sc__law_cut_up.nd rfl (Or.inl rfl) (@pe_lst _ _ _ _ pa_nil) (by rfl) (by first | exact .inl rfl | exact .inr rfl | assumption)) (@pss_cons _ _ _ _ _ (@ps_set _ _ 3 _ _ _ _ sc__law_cut_up.nd rfl (Or.inl rfl) pe_int (by rfl) (by first | exact .inl rfl | exact .inr rfl | assumption)) (@pss_cons _ _ _ _ _ (@ps_while _ _ _ _ _ _ PassesOwn.never (@pt_cmpR _ _ _ _ _ _ _ _ op_lt (pv 3) (pe_callB call_len_seq0 (by rfl) T.b_len bt_len (@pa_cons _ _ _ _ _ (pv 0) pa_nil (by rfl))) (nomark _)) (@pss_cons _ _ _ _ _ (@ps_set _ _ 4 _ _ _ _ sc__law_cut_up.nd rfl (Or.inl rfl) (@pe_dget2 _ _ _ _ _ _ _ _ _ hu (pv 1) (@pe_ix _ _ _ _ _ _ _ ix_list0 (pv 0) (pv 3) (fun _ _ => rfl)) pe_int ⟨rfl, rfl, rfl, rfl⟩) (by rfl) (by first | exact .inl rfl | exact .inr rfl | assumption)) (@pss_cons _ _ _ _ _ (@ps_if _ _ _ _ _ _ _ _ (@PW.pt _ _ _ (@pw_or _ _ _ _ _ _ _ (@pt_cmpR _ _ _ _ _ _ _ _ op_eq (pv 4) pe_int (nomark _)) (@pw_or1 _ _ _ _ (@pt_cmpR _ _ _ _ _ _ _ _ op_gt (@pe_op _ _ _ _ _ _ _ _ op_add (pv 3) (pv 4)) (pe_callB call_len_seq0 (by rfl) T.b_len bt_len (@pa_cons _ _ _ _ _ (pv 0) pa_nil (by rfl))) (nomark _))))) (@pss_one _ _ _ (@ps_ret _ _ _ _ pe_non)) pss_nil) (@pss_cons _ _ _ _ _ (@ps_set _ _ 5 _ _ _ _ sc__law_cut_up.nd rfl (Or.inl rfl) pe_int (by rfl) (by first | exact .inl rfl | exact .inr rfl | assumption)) (@pss_cons _ _ _ _ _ (@ps_if _ _ _ _ _ _ _ _ (@pt_cmpR _ _ _ _ _ _ _ _ op_gt (pv 4) pe_int (nomark _)) (@pss_one _ _ _ (@ps_set _ _ 5 _ _ _ _ sc__law_cut_up.nd rfl (Or.inl rfl) (@pe_ix _ _ _ _ _ _ _ ix_list0 (pv 0) (@pe_op _ _ _ _ _ _ _ _ op_add (pv 3) pe_int) (fun _ _ => rfl)) (by rfl) (by first | exact .inl rfl | exact .inr rfl | assumption))) pss_nil) (@pss_cons _ _ _ _ _ (@ps_if _ _ _ _ _ _ _ _ (@pt_cmpR _ _ _ _ _ _ _ _ op_eq (pv 4) pe_int (nomark _)) (@pss_cons _ _ _ _ _ (@ps_if _ _ _ _ _ _ _ _ (@pt_not _ _ _ _ (pt_chain op_le op_le pe_int (@pe_ix _ _ _ _ _ _ _ ix_list0 (pv 0) (@pe_op _ _ _ _ _ _ _ _ op_add (pv 3) pe_int) (fun _ _ => rfl)) pe_int)) (@pss_one _ _ _ (@ps_ret _ _ _ _ pe_non)) pss_nil) (@pss_one _ _ _ (@ps_set _ _ 5 _ _ _ _ sc__law_cut_up.nd rfl (Or.inl rfl) (@pe_op _ _ _ _ _ _ _ _ op_add (@pe_op _ _ _ _ _ _ _ _ op_mul pe_int (pv 5)) (@pe_ix _ _ _ _ _ _ _ ix_list0 (pv 0) (@pe_op _ _ _ _ _ _ _ _ op_add (pv 3) pe_int) (fun _ _ => rfl))) (by rfl) (by first | exact .inl rfl | exact .inr rfl | assumption)))) (@pss_one _ _ _ (@ps_if _ _ _ _ _ _ _ _ (@PW.pt _ _ _ (@pw_and _ _ _ _ _ _ _ (@pt_cmpR _ _ _ _ _ _ _ _ op_gt (@pe_ix _ _ _ _ _ _ _ ix_list0 (pv 0) (pv 3) (fun _ _ => rfl)) pe_int (nomark _)) (@pw_and1 _ _ _ _ (@pt_not _ _ _ _ (pt_chain op_le op_le (@pe_un _ _ _ _ _ _ un_neg pe_int) (pv 5) pe_int))))) (@pss_one _ _ _ (@ps_ret _ _ _ _ pe_non)) pss_nil))) (@pss_cons _ _ _ _ _ (@ps_expr _ _ _ _ (pe_bmF PySem.F.plainAttrs_list PySem.F.slot_list_append PySem.F.type_list_append mt_append (pv 2) (@pa_tup _ _ _ _ _ _ _ (@pe_tup _ _ _ _ _ (@pa_cons _ _ _ _ _ (pv 3) (@pa_cons _ _ _ _ _ (@pe_ix _ _ _ _ _ _ _ ix_list0 (pv 0) (pv 3) (fun _ _ => rfl)) (@pa_cons _ _ _ _ _ (pv 5) (@pa_cons _ _ _ _ _ (@pe_op _ _ _ _ _ _ _ _ op_add (pv 3) (pv 4)) pa_nil (by rfl)) (by rfl)) (by rfl)) (by rfl))) pa_nil)) (by rfl)) (@pss_one _ _ _ (@ps_set _ _ 3 _ _ _ _ sc__law_cut_up.nd rfl (Or.inl rfl) (@pe_op _ _ _ _ _ _ _ _ op_add (pv 3) (pv 4)) (by rfl) (by first | exact .inl rfl | exact .inr rfl | assumption)))))))))) (@pss_cons _ _ _ _ _ (@ps_set _ _ 6 _ _ _ _ sc__law_cut_up.nd rfl (Or.inl rfl) (@pe_op _ _ _ _ _ _ _ _ op_cat (pe_comp rfl (x := "_law_part") (xs := []) (caps := []) (osc := defScope s__law_cut_up) ⟨rfl, rfl, by decide +kernel, by decide +kernel, rfl, by decide +kernel, by decide +kernel, by decide +kernel, .nil⟩ (@pi_list _ _ _ _ (pv 2)) (fun _ _ _ => (@pe_ix _ _ _ _ _ _ _ ix_tup0 (pv 0) pe_int (fun _ _ => rfl))) (fun _ _ _ => pifs_nil)) (@pe_lst _ _ _ _ (@pa_cons _ _ _ _ _ (pe_callB call_len_seq0 (by rfl) T.b_len bt_len (@pa_cons _ _ _ _ _ (pv 0) pa_nil (by rfl))) pa_nil (by rfl)))) (by rfl) (by first | exact .inl rfl | exact .inr rfl | assumption)) (@pss_cons _ _ _ _ _ (ps_for PassesOwn.never rfl (@pi_list _ _ _ _ (pv 2)) (pg_name (i := 7) sc__law_cut_up.nd rfl (Or.inl rfl))         (@pss_one _ _ _ (@ps_if _ _ _ _ _ _ _ _ (@PW.pt _ _ _ (@pw_and _ _ _ _ _ _ _ (@pt_cmpR _ _ _ _ _ _ _ _ op_gt (@pe_ix _ _ _ _ _ _ _ ix_tup0 (pv 7) pe_int (fun _ _ => rfl)) pe_int (nomark _)) (@pw_and1 _ _ _ _ (@pt_cmpR _ _ _ _ _ _ _ _ op_notIn_seq (@pe_op _ _ _ _ _ _ _ _ op_add (@pe_ix _ _ _ _ _ _ _ ix_tup0 (pv 7) pe_int (fun _ _ => rfl)) (@pe_ix _ _ _ _ _ _ _ ix_tup0 (pv 7) pe_int (fun _ _ => rfl))) (pv 6) (by with_unfolding_all rfl))))) (@pss_one _ _ _ (@ps_ret _ _ _ _ pe_non)) pss_nil))) (@pss_one _ _ _ (@ps_ret _ _ _ _ (pv 2))))))))), ?_⟩
    intro d hd
    refine ⟨upd_same, SZK, rfl, by decide, ?_⟩
    have sd : Same H (upd (upd H d (.dK [])) d (.dK (mergeK [] SZK))) := fun b o e => by
      rw [upd_ne (ne_of_none e hd), upd_ne (ne_of_none e hd)]
      exact e
    have hd0 : upd (upd H d (.dK [])) d (.dK (mergeK [] SZK)) d = some (.dK (mergeK [] SZK)) := upd_same
    generalize upd (upd H d (.dK [])) d (.dK (mergeK [] SZK)) = H0 at sd hd0 ⊢
    refine ⟨by decide, fun l hl0 => ?_⟩
    have sl : Same H0 (upd H0 l (.lst [])) := (Same.refl H0).upd hl0
    have hlH : H l = none := sd.free hl0
    have hdl : d ≠ l := ne_of_none hd0 hl0
    dsimp only [gName]
    refine ⟨fun m σ H2 => ∃ j p v4 v5 v6 v7, bp cs j = some p ∧ σ = [some (.ref a), some (.ref d), some (.ref l), some (.int (p : Nat)), v4, v5, v6, v7] ∧ m = cs.length - p ∧ Same H H2 ∧ H2 d = some (.dK (mergeK [] SZK)) ∧ TsAt H2 l (ptsV cs j) ∧ ∀ i, i < j → okP cs (bf cs i) = true,
      ⟨_, 0, 0, none, none, none, none, rfl, rfl, rfl, sd.trans sl, by rw [upd_ne hdl]; exact hd0, ⟨[], upd_same, .nil⟩, fun i hi => absurd hi (Nat.not_lt_zero _)⟩, ?_⟩
    rintro m σ H2 ⟨j, p, v4, v5, v6, v7, hb, rfl, rfl, s2, hd2, hT, hok⟩
    have ha2 := s2 _ _ ha
    have ble := bp_le hb
    have ebf := bf_of hb
    refine ⟨_, rfl, _, rfl, a, _, rfl, .inl (SqL.of ha2), _, _, rfl, rfl, _, rfl, ite2 (fun h1 => ?_) (fun h1 => ?_)⟩
    · have h1 := of_decide_eq_true h1
      rw [List.length_map] at h1
      have hp : p < cs.length := by omega
      have hat := at_cs hp
      have hc0 : cs[p]? = some (cA cs p) := by
        rw [List.getElem?_eq_getElem hp]
        unfold cA
        rw [List.getD_eq_getElem?_getD, List.getElem?_eq_getElem hp]
        rfl
      refine ⟨fun σ' H' => ∃ m', m' < cs.length - p ∧ ∃ j p v4 v5 v6 v7, bp cs j = some p ∧ σ' = [some (.ref a), some (.ref d), some (.ref l), some (.int (p : Nat)), v4, v5, v6, v7] ∧ m' = cs.length - p ∧ Same H H' ∧ H' d = some (.dK (mergeK [] SZK)) ∧ TsAt H' l (ptsV cs j) ∧ ∀ i, i < j → okP cs (bf cs i) = true, fun σ' H' h => h, ?_⟩
      have ge := DGet.k (k := (Sum.inl (cA cs p) : Key)) hd2
      rw [szk_val] at ge
      refine ⟨_, rfl, d, rfl, .inl ⟨_, .inl hd2⟩, _, rfl, _, rfl, a, _, _, _, rfl, rfl, SqL.of ha2, atI_nat hat, _, ge, ?_⟩
      cases hs : siz (cA cs p) with
      | none =>
        refine ⟨_, rfl, rfl, _, rfl, iteT' (decide_eq_true rfl) (iteT ?_)⟩
        exact kn (bad_none hb hp (by unfold nx; rw [hc0]; show (siz _).bind _ = none; rw [hs]; rfl)) H2 s2
      | some z =>
        have hz := siz_in hs
        have hx : nx cs p = if p + z ≤ cs.length then some (p + z) else none := by
          unfold nx
          rw [hc0]
          show (siz _).bind _ = _
          rw [hs]
          rfl
        refine ⟨_, rfl, rfl, _, rfl, iteF' (decide_eq_false (fun y => by injection y with y; have y : ((z : Nat) : Int) = 0 := y; omega)) ?_⟩
        refine ⟨_, rfl, _, rfl, _, _, rfl, rfl, _, rfl, a, _, rfl, .inl (SqL.of ha2), _, _, rfl, rfl, _, rfl, ite2 (fun h2 => ?_) (fun h2 => ?_)⟩
        · have h2 := of_decide_eq_true h2
          rw [List.length_map] at h2
          exact kn (bad_none hb hp (by rw [hx, if_neg (by omega)])) H2 s2
        have h2 : ¬ (((cs.map V.int).length : Nat) : Int) < ((p : Nat) : Int) + ((z : Nat) : Int) := fun y => h2 (decide_eq_true y)
        rw [List.length_map] at h2
        rw [if_pos (by omega)] at hx
        have hb1 := bp_next hb hx
        have e1 := bf_of hb1
        change tSeq (tAsg (tC (V.int 0)) (gName 5)) _ _ _ _
        dsimp only [gName]
        refine seq_cut (fun σ' H' => σ' = [some (.ref a), some (.ref d), some (.ref l), some (.int (p : Nat)), some (.int (z : Nat)), some (.int 0), v6, v7] ∧ H2 = H') (fun D' hJ => hJ _ _ ⟨rfl, rfl⟩) ?_
        rintro _ _ ⟨rfl, rfl⟩
        try dsimp only
        -- the gap
        refine seq_cut (fun σ' H' => σ' = [some (.ref a), some (.ref d), some (.ref l), some (.int (p : Nat)), some (.int (z : Nat)), some (.int (if z = 1 then 0 else cA cs (p + 1))), v6, v7] ∧ H2 = H') (fun D' hJ => ?_) ?_
        · refine ⟨_, rfl, _, _, rfl, rfl, _, rfl, ite2 (fun h3 => ?_) (fun h3 => ?_)⟩
          · have h3 : 1 < ((z : Nat) : Int) := of_decide_eq_true h3
            refine ⟨_, rfl, _, rfl, _, _, rfl, rfl, a, _, _, _, rfl, rfl, SqL.of ha2, atI_nat (j := p + 1) (at_cs (by omega)), ?_⟩
            exact hJ _ _ ⟨by rw [if_neg (by omega)]; rfl, rfl⟩
          · have h3 : ¬ 1 < ((z : Nat) : Int) := fun y => h3 (decide_eq_true y)
            exact hJ _ _ ⟨by rw [if_pos (by omega)], rfl⟩
        rintro _ _ ⟨rfl, rfl⟩
        try dsimp only
        have gL : gapL cs p = if z = 3 then 16 * cA cs (p + 1) + cA cs (p + 2) else if z = 1 then 0 else cA cs (p + 1) := by
          have hc : cA cs p = 1 ∨ cA cs p = 2 ∨ cA cs p = 3 ∨ cA cs p = 4 ∨ cA cs p = 5 ∨ cA cs p = 6 ∨ cA cs p = 7 := by omega
          unfold gapL isFr
          rcases hc with e | e | e | e | e | e | e <;> (rw [e] at hs ⊢; cases hs; rfl)
        -- bounds
        refine seq_cutR (fun σ' H' => σ' = [some (.ref a), some (.ref d), some (.ref l), some (.int (p : Nat)), some (.int (z : Nat)), some (.int (gapL cs p)), v6, v7] ∧ H2 = H' ∧ okP cs p = true) (fun D' hrt hJ => ?_) ?_
        · refine ⟨_, rfl, rfl, _, rfl, ite2 (fun h3 => ?_) (fun h3 => ?_)⟩
          · have h3 : z = 3 := by
              have := of_decide_eq_true h3
              injection this with this
              omega
            subst h3
            have hf : isFr (cA cs p) = true ∧ isNr (cA cs p) = false := by
              have hc : cA cs p = 1 ∨ cA cs p = 2 ∨ cA cs p = 3 ∨ cA cs p = 4 ∨ cA cs p = 5 ∨ cA cs p = 6 ∨ cA cs p = 7 := by omega
              unfold isFr isNr
              rcases hc with e | e | e | e | e | e | e <;> (rw [e] at hs ⊢; cases hs) <;> exact ⟨rfl, rfl⟩
            have okp : okP cs p = (decide (0 ≤ cA cs (p + 2)) && decide (cA cs (p + 2) < 16)) := by unfold okP; rw [hf.1, hf.2]; rfl
            have hat2 := at_cs (show p + 2 < cs.length by omega)
            refine ⟨_, rfl, _, rfl, _, _, rfl, rfl, a, _, _, _, rfl, rfl, SqL.of ha2, atI_nat (j := p + 2) hat2, _, _, rfl, rfl, _, rfl, ite2 (fun h4 => ?_) (fun h4 => ?_)⟩
            · have h4 : 0 ≤ cA cs (p + 2) := of_decide_eq_true h4
              refine ⟨_, _, rfl, rfl, _, rfl, ?_⟩
              cases h5 : decide (cA cs (p + 2) ≤ 15) with
              | false =>
                have h5 := of_decide_eq_false h5
                exact iteT (by show D'.rt V.non H2; rw [hrt]; exact kn (bad_ok hb hp (by rw [okp, decide_eq_false (show ¬ cA cs (p + 2) < 16 by omega), Bool.and_false])) H2 s2)
              | true =>
                have h5 := of_decide_eq_true h5
                refine iteF ?_
                refine ⟨_, rfl, _, _, rfl, rfl, .inl ⟨by decide, by decide⟩, _, rfl, _, rfl, _, _, rfl, rfl, a, _, _, _, rfl, rfl, SqL.of ha2, atI_nat (j := p + 2) hat2, _, _, rfl, rfl, ?_⟩
                exact hJ _ _ ⟨by rw [gL, if_pos rfl]; rfl, rfl, by rw [okp, decide_eq_true h4, decide_eq_true (show cA cs (p + 2) < 16 by omega)]; rfl⟩
            · have h4 : ¬ 0 ≤ cA cs (p + 2) := fun y => h4 (decide_eq_true y)
              exact ⟨_, rfl, iteT (by show D'.rt V.non H2; rw [hrt]; exact kn (bad_ok hb hp (by rw [okp, decide_eq_false h4]; rfl)) H2 s2)⟩
          · have h3 : z ≠ 3 := fun y => h3 (by subst y; exact decide_eq_true rfl)
            have hf : isFr (cA cs p) = false ∧ isNr (cA cs p) = decide (3 < cA cs p) := by
              have hc : cA cs p = 1 ∨ cA cs p = 2 ∨ cA cs p = 3 ∨ cA cs p = 4 ∨ cA cs p = 5 ∨ cA cs p = 6 ∨ cA cs p = 7 := by omega
              unfold isFr isNr
              rcases hc with e | e | e | e | e | e | e <;> (rw [e] at hs ⊢; cases hs) <;> first | exact ⟨rfl, rfl⟩ | exact absurd rfl h3
            rw [if_neg h3] at gL
            rw [← gL]
            have okp : okP cs p = (bif decide (3 < cA cs p) then SM.near (cA cs (p + 1)) else true) := by unfold okP; rw [hf.1, hf.2]; rfl
            refine ⟨_, rfl, _, rfl, a, _, _, _, rfl, rfl, SqL.of ha2, atI_nat hat, _, _, rfl, rfl, _, rfl, ite2 (fun h4 => ?_) (fun h4 => ?_)⟩
            · have h4' : 3 < cA cs p := of_decide_eq_true h4
              have z2 : z = 2 := by
                have hc : cA cs p = 4 ∨ cA cs p = 5 ∨ cA cs p = 6 ∨ cA cs p = 7 := by omega
                rcases hc with e | e | e | e <;> (rw [e] at hs; cases hs) <;> first | rfl | exact absurd rfl h3
              have gL2 : gapL cs p = cA cs (p + 1) := by rw [gL, if_neg (by omega)]
              rw [decide_eq_true h4'] at okp
              have okp : okP cs p = SM.near (cA cs (p + 1)) := okp
              rw [gL2]
              refine ⟨_, rfl, _, rfl, _, _, rfl, rfl, _, rfl, ite2 (fun h5 => ?_) (fun h5 => ?_)⟩
              · have h5 : -8 ≤ cA cs (p + 1) := of_decide_eq_true h5
                refine ⟨_, _, rfl, rfl, _, rfl, ?_⟩
                cases h6 : decide (cA cs (p + 1) ≤ 7) with
                | true =>
                  refine iteF ?_
                  exact hJ _ _ ⟨by rw [gL2], rfl, by rw [okp]; unfold SM.near; rw [decide_eq_true h5, h6]; rfl⟩
                | false => exact iteT (by show D'.rt V.non H2; rw [hrt]; exact kn (bad_ok hb hp (by rw [okp]; unfold SM.near; rw [h6, Bool.and_false])) H2 s2)
              · have h5 : ¬ -8 ≤ cA cs (p + 1) := fun y => h5 (decide_eq_true y)
                exact ⟨_, rfl, iteT (by show D'.rt V.non H2; rw [hrt]; exact kn (bad_ok hb hp (by rw [okp]; unfold SM.near; rw [decide_eq_false h5]; rfl)) H2 s2)⟩
            · have h4' : ¬ 3 < cA cs p := fun y => h4 (decide_eq_true y)
              rw [decide_eq_false h4'] at okp
              exact iteF (hJ _ _ ⟨rfl, rfl, okp⟩)
        rintro _ _ ⟨rfl, rfl, hokp⟩
        try dsimp only
        refine app_ts (t := ptV cs j) rfl hT (by rw [pts_len]; omega) (fun Qa kq' => ?_) (by show 4 ≤ 900; decide) fun H3 b3 hT3 => ?_
        · refine ⟨_, rfl, _, rfl, _, rfl, a, _, _, _, rfl, rfl, SqL.of ha2, atI_nat hat, _, rfl, _, rfl, _, rfl, _, _, rfl, rfl, ?_⟩
          have ev : ([.int ((p : Nat) : Int), .int (cA cs p), .int (gapL cs p), .int (((p : Nat) : Int) + ((z : Nat) : Int))] : List V) = ptV cs j := by
            unfold ptV
            rw [ebf, e1, show (((p + z : Nat)) : Int) = ((p : Nat) : Int) + ((z : Nat) : Int) by omega]
          rw [← ev] at kq'
          exact kq' H2 (Same.refl H2)
        · refine ⟨_, rfl, _, rfl, _, _, rfl, rfl, ?_⟩
          refine ⟨_, (by omega : cs.length - (p + z) < cs.length - p), j + 1, p + z, some (.int (z : Nat)), some (.int (gapL cs p)), v6, v7, hb1, ?_, rfl, b3.same s2 hlH, b3 _ _ hd2 hdl, by rw [pts_succ]; exact hT3, fun i hi => ?_⟩
          · rw [show (((p + z : Nat)) : Int) = ((p : Nat) : Int) + ((z : Nat) : Int) by omega]; rfl
          · by_cases e : i = j
            · subst e; rw [ebf]; exact hokp
            · exact hok i (by omega)
    · have h1 : ¬ ((p : Nat) : Int) < (((cs.map V.int).length : Nat) : Int) := fun y => h1 (decide_eq_true y)
      rw [List.length_map] at h1
      obtain rfl : p = cs.length := by omega
      obtain ⟨qs, hq1, hq2, hqg⟩ := hT.get
      rw [pts_len] at hq2
      have hjl : j ≤ 100 := by omega
      -- where parts begin
      refine ⟨_, rfl, l, rfl, ⟨_, SqL.of hq1⟩, comp_pure (n := j) (item := fun i => (qs.map V.ref).getD i .non) (p := fun _ => true) (f := fun i => V.int (bf cs i : Nat)) (s1000 (by omega)) (fun i H3 s3 hi => ?_) (fun H3 s3 => ⟨_, s3.seq (SqL.of hq1), by rw [List.length_map]; omega⟩) (fun i H3 y H4 s3 hi hy => ?_)
        (fun i H3 _ _ Q2 k2 => k2 H3 (Same.refl H3)) (fun i H3 hi _ s3 Q2 k2 => ?_) (fun lb H3 hlb s3 hlb2 => ?_)⟩
      · exact ⟨_, (qs.map V.ref)[i]'(by rw [List.length_map]; omega), s3.seq (SqL.of hq1), List.getElem?_eq_getElem _⟩
      · obtain ⟨e1, e2⟩ := hy
        have := e2 _ (s3.seq (SqL.of hq1))
        exact ⟨by rw [List.getD, this]; rfl, e1⟩
      · obtain ⟨q, _, e2, hq⟩ := hqg i _ (pts_at hi)
        exact ⟨_, rfl, q, _, 0, _, (by rw [List.getD, e2]; rfl), rfl, SqT.of (s3 _ _ hq), atI_nat (j := 0) rfl, k2 H3 (Same.refl H3)⟩
      have hb3 : H3 lb = some (.lst (((List.range j).map fun i => ((bf cs i : Nat) : Int)).map V.int)) := by
        rw [hlb2, List.filter_eq_self.mpr (fun _ _ => rfl), List.map_map]
        rfl
      have ha3 := s3 _ _ (s2 _ _ ha)
      refine ⟨_, rfl, a, _, rfl, .inl (SqL.of ha3), s1000 (by show 1 ≤ 1000; decide), fun l1 hl1 => ?_⟩
      have u4 : Same H3 (upd H3 l1 (.lst [.int (((cs.map V.int).length : Nat) : Int)])) := (Same.refl H3).upd hl1
      refine ⟨lb, l1, _, _, rfl, rfl, u4 _ _ hb3, upd_same, s1000 (by simp; omega), fun l2 hl2 => ?_⟩
      have eB : (((List.range j).map fun i => ((bf cs i : Nat) : Int)).map V.int) ++ [V.int (((cs.map V.int).length : Nat) : Int)] = ((List.range (j + 1)).map fun i => ((bf cs i : Nat) : Int)).map V.int := by
        rw [List.range_succ, List.map_append, List.map_append, List.length_map, List.map_singleton, List.map_singleton, ebf]
      rw [eB]
      have u5 : Same H2 (upd (upd H3 l1 (.lst [.int (((cs.map V.int).length : Nat) : Int)])) l2 (.lst (((List.range (j + 1)).map fun i => ((bf cs i : Nat) : Int)).map V.int))) := (s3.trans u4).trans ((Same.refl _).upd hl2)
      have h5 : upd (upd H3 l1 (.lst [.int (((cs.map V.int).length : Nat) : Int)])) l2 (.lst (((List.range (j + 1)).map fun i => ((bf cs i : Nat) : Int)).map V.int)) l2 = some (.lst (((List.range (j + 1)).map fun i => ((bf cs i : Nat) : Int)).map V.int)) := upd_same
      generalize upd (upd H3 l1 (.lst [.int (((cs.map V.int).length : Nat) : Int)])) l2 (.lst (((List.range (j + 1)).map fun i => ((bf cs i : Nat) : Int)).map V.int)) = H5 at u5 h5 ⊢
      have hq5 := u5 _ _ hq1
      -- each gap leads to a part
      refine ⟨_, rfl, l, rfl, ⟨_, SqL.of hq5⟩, for_list (K := K) (a := l) (xs := qs.map V.ref) (fun i σ H6 => ∃ v7, σ = [some (.ref a), some (.ref d), some (.ref l), some (.int (cs.length : Nat)), v4, v5, some (.ref l2), v7] ∧ Same H5 H6 ∧ ∀ k, k < i → ldP cs (bf cs k) = true → ∃ t, t ≤ j ∧ ((bf cs t : Nat) : Int) = goalP cs k)
        ⟨_, rfl, Same.refl H5, fun k hk => absurd hk (Nat.not_lt_zero _)⟩ (fun i σ H6 _ ⟨_, _, s6, _⟩ => s6.seq (SqL.of hq5)) ?_ ?_⟩
      · rintro i y σ H6 hi ⟨v7, rfl, s6, hto⟩
        have hij : i < j := by
          have := (List.getElem?_eq_some_iff.mp hi).1
          rw [List.length_map] at this
          omega
        obtain ⟨q, _, e2, hq⟩ := hqg i _ (pts_at hij)
        rw [e2] at hi
        cases hi
        have hq6 := s6 _ _ (u5 _ _ hq)
        have gt := ld_gt hb hij
        refine ⟨_, rfl, q, _, 1, _, rfl, rfl, SqT.of hq6, atI_nat (j := 1) rfl, _, _, rfl, rfl, _, rfl, ?_⟩
        rw [← gt]
        cases hl : ldP cs (bf cs i) with
        | false =>
          refine iteF (iteF ⟨_, rfl, s6, fun k hk hkl => ?_⟩)
          by_cases e : k = i
          · subst e; rw [hl] at hkl; cases hkl
          · exact hto k (by omega) hkl
        | true =>
          refine iteT ?_
          refine ⟨_, rfl, q, _, 3, _, rfl, rfl, SqT.of hq6, atI_nat (j := 3) rfl, _, rfl, q, _, 2, _, rfl, rfl, SqT.of hq6, atI_nat (j := 2) rfl, _, _, rfl, rfl, _, rfl, l2, _, rfl, .inl (SqL.of (s6 _ _ h5)), rfl, (by rw [List.all_eq_true]; intro x hx; obtain ⟨y, _, rfl⟩ := List.mem_map.mp hx; rfl), _, rfl, ?_⟩
          have eg : ((bf cs (i + 1) : Nat) : Int) + gapL cs (bf cs i) = goalP cs i := by rw [gapL_ld hb hij hl]; rfl
          show if (!inV (V.int (((bf cs (i + 1) : Nat) : Int) + gapL cs (bf cs i))) _) = true then _ else _
          rw [eg, inV_ints]
          cases hin : decide (goalP cs i ∈ (List.range (j + 1)).map fun i => ((bf cs i : Nat) : Int)) with
          | true =>
            obtain ⟨t, ht, et⟩ := List.mem_map.mp (of_decide_eq_true hin)
            refine iteF ⟨_, rfl, s6, fun k hk hkl => ?_⟩
            by_cases e : k = i
            · subst e; exact ⟨t, by have := List.mem_range.mp ht; omega, et⟩
            · exact hto k (by omega) hkl
          | false =>
            refine iteT (kn ?_ H6 ((s2.trans u5).trans s6))
            rcases good_or cs with ⟨m, g⟩ | b
            · obtain rfl : m = j := by
                have := bf_of g.hm
                exact bf_inj (m := max m j) (q := cs.length) (by rcases Nat.le_total m j with z | z; · rw [Nat.max_eq_right z]; exact hb
                                                                 · rw [Nat.max_eq_left z]; exact g.hm) (Nat.le_max_left _ _) (Nat.le_max_right _ _) (by omega)
              obtain ⟨t, ht, et⟩ := g.to i hij hl
              exact absurd (List.mem_map.mpr ⟨t, List.mem_range.mpr (by omega), et⟩) (of_decide_eq_false hin)
            · exact b
      · rintro σ H6 ⟨v7, rfl, s6, hto⟩
        rw [List.length_map, hq2] at hto
        exact ⟨_, rfl, kq j ⟨hb, hok, hto⟩ l H6 hlH ((s2.trans u5).trans s6) ((hT.same u5).same s6)⟩
end
end SC

set_option maxHeartbeats 4000000
namespace SC
open PySem PySem.Spec PyProof.Rows L2
noncomputable def ledL (cs : List Int) (m : Nat) : List Int := ((List.range m).filter fun i => ldP cs (bf cs i)).map fun i => goalP cs i
theorem led_iff {cs : List Int} {m t : Nat} (g : GoodC cs m) (ht : t ≤ m) : decide (((bf cs t : Nat) : Int) ∈ ledL cs m) = ledTo (usOf cs m) t := by
  have e : ((((bf cs t : Nat) : Int) ∈ ledL cs m) ↔ ledTo (usOf cs m) t = true) := by
    rw [ledTo_iff]
    constructor
    · intro h
      obtain ⟨j, hj, e⟩ := List.mem_map.mp h
      obtain ⟨h1, h2⟩ := List.mem_filter.mp hj
      have h1 := List.mem_range.mp h1
      obtain ⟨a, b⟩ := toT_ok g h1 h2
      refine ⟨j, by rw [us_len]; exact h1, ?_⟩
      rw [ld_us g h1, if_pos h2, bf_inj g.hm a ht (by omega)]
    · rintro ⟨j, hj, e⟩
      rw [us_len] at hj
      rw [ld_us g hj] at e
      split at e
      · rename_i q
        cases e
        exact List.mem_map.mpr ⟨j, List.mem_filter.mpr ⟨List.mem_range.mpr hj, q⟩, (toT_ok g hj q).2.symm⟩
      · cases e
  cases q : ledTo (usOf cs m) t with
  | true => exact decide_eq_true (e.mpr q)
  | false => exact decide_eq_false fun z => by rw [e.mp z] at q; cases q
theorem flat_ints (xs : List Int) : (xs.map V.int).all flatV = true := by
  rw [List.all_eq_true]
  intro x hx
  obtain ⟨y, _, rfl⟩ := List.mem_map.mp hx
  rfl
theorem log_small {n : Int} (h0 : 0 ≤ n) (h1 : n < 400) : n.natAbs.log2 < 1920 := by
  by_cases z : n.natAbs = 0
  · rw [z]; decide
  · exact Nat.lt_of_lt_of_le ((Nat.log2_lt z).mpr (show n.natAbs < 2 ^ 40 by omega)) (by decide)
section
variable {P : Program} {w : World} {K : PySem.W.Frag} {mg : Str → Option Value} {base : Heap} {c : Cn}
noncomputable abbrev s__law_rows_from : Stmt := top 48
theorem sc__law_rows_from : FnScope ["_law_parts", "_law_size", "_law_led", "_law_rows", "_law_part", "_law_word"] ["_law_parts", "_law_size"] (defScope s__law_rows_from) := ⟨rfl, rfl, rfl, by decide +kernel, rfl, by decide +kernel, by decide +kernel⟩
noncomputable def spFrom : Sp := fun vs H Q _ => Ex3_5 (fun (l : Addr) (cs : List Int) (m : Nat) => vs = [.ref l, .int (cs.length : Nat)]) (fun (l : Addr) (cs : List Int) (m : Nat) => TsAt H l (ptsV cs m)) (fun (l : Addr) (cs : List Int) (m : Nat) => GoodC cs m) (fun (l : Addr) (cs : List Int) (m : Nat) => Small cs) (fun (l : Addr) (cs : List Int) (m : Nat) => ∀ r H', Same H H' → RowsAt H' r (backR (usOf cs m) (fcOf cs m)) → Q (.ref r) H')
theorem ok__law_rows_from (D : Def K mg "_law_rows_from" s__law_rows_from ["_law_parts", "_law_size"]) (T : Tx P w K mg) : Has P w K mg base 1 "_law_rows_from" ["_law_parts", "_law_size"] spFrom := by
  refine D.has sc__law_rows_from (fun vs H Q E h => ?_) (fun f cdv A outer s H vs Q E hr h => ?_)
  · obtain ⟨l, cs, m, rfl, _⟩ := h
    rfl
  · obtain ⟨l, cs, m, rfl, hT, g, hsm, k⟩ := h
    have cv := cv_us g hsm
    have hml := bp_le g.hm
    have hl := hsm.1
    have hm120 := cv.len
    obtain ⟨qs, hq1, hq2, hqg⟩ := hT.get
    rw [pts_len] at hq2
    refine ⟨_, (@pss_cons _ _ _ _ _ (ps_setComp (j := 2) sc__law_rows_from.nd rfl rfl rfl (x := "_law_part") (xs := []) (caps := []) (osc := defScope s__law_rows_from) ⟨rfl, rfl, by decide +kernel, by decide +kernel, rfl, by decide +kernel, by decide +kernel, by decide +kernel, .nil⟩ (@pi_list _ _ _ _ (pv 0)) (fun _ _ _ => (@pe_op _ _ _ _ _ _ _ _ op_add (@pe_ix _ _ _ _ _ _ _ ix_tup0 (pv 0) pe_int (fun _ _ => rfl)) (@pe_ix _ _ _ _ _ _ _ ix_tup0 (pv 0) pe_int (fun _ _ => rfl)))) (fun _ _ _ => (pifs_one (@pt_cmpR _ _ _ _ _ _ _ _ op_gt (@pe_ix _ _ _ _ _ _ _ ix_tup0 (pv 0) pe_int (fun _ _ => rfl)) pe_int (nomark _))))) (@pss_cons _ _ _ _ _ (@ps_set _ _ 3 _ _ _ _ sc__law_rows_from.nd rfl (Or.inl rfl) (@pe_lst _ _ _ _ pa_nil) (by rfl) (by first | exact .inl rfl | exact .inr rfl | assumption)) (@pss_cons _ _ _ _ _ (ps_for PassesOwn.never rfl (@pi_list _ _ _ _ (pv 0)) (pg_name (i := 4) sc__law_rows_from.nd rfl (Or.inl rfl))         (@pss_cons _ _ _ _ _ (@ps_if _ _ _ _ _ _ _ _ (@pt_cmpR _ _ _ _ _ _ _ _ op_in_seq (@pe_ix _ _ _ _ _ _ _ ix_tup0 (pv 4) pe_int (fun _ _ => rfl)) (pv 2) (by with_unfolding_all rfl)) (@pss_one _ _ _ (@ps_expr _ _ _ _ (pe_bmF PySem.F.plainAttrs_list PySem.F.slot_list_append PySem.F.type_list_append mt_append (pv 3) (@pa_tup _ _ _ _ _ _ _ (@pe_tup _ _ _ _ _ (@pa_con _ _ _ _ _ _ _ pe_str (@pa_cons _ _ _ _ _ (@pe_op _ _ _ _ _ _ _ _ op_add_str pe_str (pe_callTy call_str_int (by rfl) T.b_str bt_str (@pa_cons _ _ _ _ _ (@pe_ix _ _ _ _ _ _ _ ix_tup0 (pv 4) pe_int (fun _ _ => rfl)) pa_nil (by rfl)))) pa_nil (by rfl)))) pa_nil)) (by rfl))) pss_nil) (@pss_one _ _ _ (@ps_if _ _ _ _ _ _ _ _ (@pt_cmpR _ _ _ _ _ _ _ _ op_eq (@pe_ix _ _ _ _ _ _ _ ix_tup0 (pv 4) pe_int (fun _ _ => rfl)) pe_int (nomark _)) (@pss_one _ _ _ (@ps_expr _ _ _ _ (pe_bmF PySem.F.plainAttrs_list PySem.F.slot_list_append PySem.F.type_list_append mt_append (pv 3) (@pa_tup _ _ _ _ _ _ _ (@pe_tup _ _ _ _ _ (@pa_con _ _ _ _ _ _ _ pe_str (@pa_cons _ _ _ _ _ (@pe_ix _ _ _ _ _ _ _ ix_tup0 (pv 4) pe_int (fun _ _ => rfl)) pa_nil (by rfl)))) pa_nil)) (by rfl))) (@pss_one _ _ _ (@ps_if _ _ _ _ _ _ _ _ (@pt_cmpR _ _ _ _ _ _ _ _ op_lt (@pe_ix _ _ _ _ _ _ _ ix_tup0 (pv 4) pe_int (fun _ _ => rfl)) pe_int (nomark _)) (@pss_one _ _ _ (@ps_expr _ _ _ _ (pe_bmF PySem.F.plainAttrs_list PySem.F.slot_list_append PySem.F.type_list_append mt_append (pv 3) (@pa_tup _ _ _ _ _ _ _ (@pe_tup _ _ _ _ _ (@pa_cons _ _ _ _ _ (@pe_ix _ _ _ _ _ _ _ ix_list0 (@pe_lst _ _ _ _ (@pa_con _ _ _ _ _ _ _ pe_str (@pa_con _ _ _ _ _ _ _ pe_str pa_nil))) (@pe_op _ _ _ _ _ _ _ _ op_sub (@pe_ix _ _ _ _ _ _ _ ix_tup0 (pv 4) pe_int (fun _ _ => rfl)) pe_int) (fun _ _ => rfl)) pa_nil (by rfl))) pa_nil)) (by rfl))) (@pss_cons _ _ _ _ _ (@ps_set _ _ 5 _ _ _ _ sc__law_rows_from.nd rfl (Or.inl rfl) (@pe_ix _ _ _ _ _ _ _ ix_list0 (@pe_lst _ _ _ _ (@pa_con _ _ _ _ _ _ _ pe_str (@pa_con _ _ _ _ _ _ _ pe_str pa_nil))) (@pe_op _ _ _ _ _ _ _ _ op_fdiv (@pe_ix _ _ _ _ _ _ _ ix_tup0 (pv 4) pe_int (fun _ _ => rfl)) pe_int) (fun _ _ => rfl)) (by rfl) (by first | exact .inl rfl | exact .inr rfl | assumption)) (@pss_one _ _ _ (@ps_expr _ _ _ _ (pe_bmF PySem.F.plainAttrs_list PySem.F.slot_list_append PySem.F.type_list_append mt_append (pv 3) (@pa_tup _ _ _ _ _ _ _ (@pe_tup _ _ _ _ _ (@pa_cons _ _ _ _ _ (pv 5) (@pa_cons _ _ _ _ _ (@pe_op _ _ _ _ _ _ _ _ op_add_str pe_str (pe_callTy call_str_int (by rfl) T.b_str bt_str (@pa_cons _ _ _ _ _ (@pe_op _ _ _ _ _ _ _ _ op_add (@pe_ix _ _ _ _ _ _ _ ix_tup0 (pv 4) pe_int (fun _ _ => rfl)) (@pe_ix _ _ _ _ _ _ _ ix_tup0 (pv 4) pe_int (fun _ _ => rfl))) pa_nil (by rfl)))) pa_nil (by rfl)) (by rfl))) pa_nil)) (by rfl)))))))))) (@pss_cons _ _ _ _ _ (@ps_if _ _ _ _ _ _ _ _ (@pt_cmpR _ _ _ _ _ _ _ _ op_in_seq (pv 1) (pv 2) (by with_unfolding_all rfl)) (@pss_one _ _ _ (@ps_expr _ _ _ _ (pe_bmF PySem.F.plainAttrs_list PySem.F.slot_list_append PySem.F.type_list_append mt_append (pv 3) (@pa_tup _ _ _ _ _ _ _ (@pe_tup _ _ _ _ _ (@pa_con _ _ _ _ _ _ _ pe_str (@pa_cons _ _ _ _ _ (@pe_op _ _ _ _ _ _ _ _ op_add_str pe_str (pe_callTy call_str_int (by rfl) T.b_str bt_str (@pa_cons _ _ _ _ _ (pv 1) pa_nil (by rfl)))) pa_nil (by rfl)))) pa_nil)) (by rfl))) pss_nil) (@pss_one _ _ _ (@ps_ret _ _ _ _ (pv 3))))))), ?_⟩
    refine ⟨_, rfl, l, rfl, ⟨_, SqL.of hq1⟩, comp_pure (n := m) (item := fun i => (qs.map V.ref).getD i .non) (p := fun i => ldP cs (bf cs i)) (f := fun i => V.int (goalP cs i)) (s1000 (by omega)) (fun i H3 s3 hi => ?_) (fun H3 s3 => ⟨_, s3.seq (SqL.of hq1), by rw [List.length_map]; omega⟩) (fun i H3 y H4 s3 hi hy => ?_)
      (fun i H3 hi s3 Q2 k2 => ?_) (fun i H3 hi hl3 s3 Q2 k2 => ?_) (fun le H3 hle s3 hle2 => ?_)⟩
    · exact ⟨_, (qs.map V.ref)[i]'(by rw [List.length_map]; omega), s3.seq (SqL.of hq1), List.getElem?_eq_getElem _⟩
    · obtain ⟨e1, e2⟩ := hy
      have := e2 _ (s3.seq (SqL.of hq1))
      exact ⟨by rw [List.getD, this]; rfl, e1⟩
    · obtain ⟨q, _, e2, hq⟩ := hqg i _ (pts_at hi)
      refine ⟨_, rfl, q, _, 1, _, (by rw [List.getD, e2]; rfl), rfl, SqT.of (s3 _ _ hq), atI_nat (j := 1) rfl, _, _, rfl, rfl, _, rfl, ?_⟩
      rw [← ld_gt g.hm hi]
      exact k2 H3 (Same.refl H3)
    · obtain ⟨q, _, e2, hq⟩ := hqg i _ (pts_at hi)
      refine ⟨_, rfl, q, _, 3, _, (by rw [List.getD, e2]; rfl), rfl, SqT.of (s3 _ _ hq), atI_nat (j := 3) rfl, _, rfl, q, _, 2, _, (by rw [List.getD, e2]; rfl), rfl, SqT.of (s3 _ _ hq), atI_nat (j := 2) rfl, _, _, rfl, rfl, ?_⟩
      have eg : ((bf cs (i + 1) : Nat) : Int) + gapL cs (bf cs i) = goalP cs i := by rw [gapL_ld g.hm hi hl3]; rfl
      dsimp only
      rw [eg]
      exact k2 H3 (Same.refl H3)
    have hb3 : H3 le = some (.lst ((ledL cs m).map V.int)) := by
      rw [hle2]
      unfold ledL
      rw [List.map_map]
      rfl
    refine ⟨by decide, fun r hr0 => ?_⟩
    have s4 : Same H3 (upd H3 r (.lst [])) := (Same.refl H3).upd hr0
    have hT4 : TsAt (upd H3 r (.lst [])) r [] := ⟨[], upd_same, .nil⟩
    have hrH : H r = none := s3.free hr0
    have hb4 := s4 _ _ hb3
    have hner : le ≠ r := ne_of_none hb3 hr0
    have s4' := s3.trans s4
    generalize upd H3 r (.lst []) = H4 at s4' hT4 hb4 ⊢
    have hq4 := s4' _ _ hq1
    have smallb : ∀ t, t ≤ m → bf cs t < 400 := fun t ht => by
      have := bp_le (bp_down g.hm ht)
      omega
    refine ⟨_, rfl, l, rfl, ⟨_, SqL.of hq4⟩, for_list (K := K) (a := l) (xs := qs.map V.ref) (fun i σ H5 => ∃ v4 v5, σ = [some (.ref l), some (.int (cs.length : Nat)), some (.ref le), some (.ref r), v4, v5] ∧ Same H H5 ∧ H5 le = some (.lst ((ledL cs m).map V.int)) ∧ TsAt H5 r (((plP (usOf cs m) (fcOf cs m) i).map (·.2)).map Rw.tv))
      ⟨none, none, rfl, s4', hb4, hT4⟩ (fun i σ H5 _ ⟨_, _, _, s5, _⟩ => s5.seq (SqL.of hq1)) ?_ ?_⟩
    · rintro i y σ H5 hi ⟨v4, v5, rfl, s5, hb5, hT5⟩
      have him : i < m := by
        have := (List.getElem?_eq_some_iff.mp hi).1
        rw [List.length_map] at this
        omega
      obtain ⟨q, _, e2, hq⟩ := hqg i _ (pts_at him)
      rw [e2] at hi
      cases hi
      have hq5 := s5 _ _ hq
      have plen := plP_len (us := usOf cs m) (fc := fcOf cs m) i
      have ebC := bC_us g (show i ≤ m by omega)
      dsimp only [gName]
      refine seq_cut (fun σ' H6 => σ' = [some (.ref l), some (.int (cs.length : Nat)), some (.ref le), some (.ref r), some (.ref q), v5] ∧ Same H H6 ∧ H6 le = some (.lst ((ledL cs m).map V.int)) ∧ TsAt H6 r (((plP (usOf cs m) (fcOf cs m) i ++ mkC (usOf cs m) (fcOf cs m) i).map (·.2)).map Rw.tv)) (fun D' hJ => ?_) ?_
      · refine ⟨_, rfl, q, _, 0, _, rfl, rfl, SqT.of hq5, atI_nat (j := 0) rfl, _, rfl, le, _, rfl, .inl (SqL.of hb5), rfl, flat_ints _, _, rfl, ?_⟩
        show if inV (V.int ((bf cs i : Nat) : Int)) _ = true then _ else _
        rw [inV_ints, led_iff g (by omega)]
        cases hld : ledTo (usOf cs m) i with
        | false =>
          refine iteF (hJ _ _ ⟨rfl, s5, hb5, ?_⟩)
          unfold mkC
          rw [hld]
          show TsAt H5 r (((_ ++ []).map _).map _)
          rw [List.append_nil]
          exact hT5
        | true =>
          refine iteT ?_
          refine app_ts (t := (Rw.mark (nmC (bf cs i))).tv) rfl hT5 (by simp; omega) (fun Qa kq' => ?_) (by show 2 ≤ 900; decide) fun H6 b6 hT6 => ?_
          · have nk := (nmC_ok (smallb i (by omega))).1.2
            unfold nmC at nk
            rw [strLen_append] at nk
            exact ⟨_, rfl, q, _, 0, _, rfl, rfl, SqT.of hq5, atI_nat (j := 0) rfl, _, rfl, log_small (by omega) (by have := smallb i (by omega); omega), _, _, rfl, rfl, s1000 nk, kq' H5 (Same.refl H5)⟩
          · refine hJ _ _ ⟨rfl, b6.same s5 hrH, b6 _ _ hb5 hner, ?_⟩
            unfold mkC
            rw [hld, ebC]
            show TsAt H6 r (((_ ++ [_]).map _).map _)
            rw [List.map_append, List.map_append]
            exact hT6
      rintro _ H6 ⟨rfl, s6, hb6, hT6⟩
      have hq6 := s6 _ _ hq
      have pl1 := plP_succ (us := usOf cs m) (fc := fcOf cs m) (us_at (cs := cs) him)
      have mlen := mkC_len (us := usOf cs m) (fc := fcOf cs m) i
      have fin : ∀ (v5 : Option V) H7 (_ : But r H6 H7) (_ : TsAt H7 r (((plP (usOf cs m) (fcOf cs m) i ++ mkC (usOf cs m) (fcOf cs m) i).map (·.2)).map Rw.tv ++ [(rowC (usOf cs m) (fcOf cs m) (crOf cs m i)).tv])),
          ∃ v4 v5', [some (V.ref l), some (.int (cs.length : Nat)), some (.ref le), some (.ref r), some (.ref q), v5] = [some (.ref l), some (.int (cs.length : Nat)), some (.ref le), some (.ref r), v4, v5'] ∧ Same H H7 ∧ H7 le = some (.lst ((ledL cs m).map V.int)) ∧ TsAt H7 r (((plP (usOf cs m) (fcOf cs m) (i + 1)).map (·.2)).map Rw.tv) := fun v5 H7 b7 hT7 => by
        refine ⟨_, _, rfl, b7.same s6 hrH, b7 _ _ hb6 hner, ?_⟩
        rw [pl1, List.map_append, List.map_append]
        exact hT7
      obtain ⟨sz, e1, e2', e3, hc⟩ := codes g him
      have one : ∀ {e : Int}, cA cs (bf cs i) = e → ptV cs i = [.int (bf cs i : Nat), .int e, .int (gapL cs (bf cs i)), .int (bf cs (i + 1) : Nat)] := fun h => by unfold ptV; rw [h]
      have lead : (cA cs (bf cs i) = 4 ∨ cA cs (bf cs i) = 5 ∨ cA cs (bf cs i) = 6 ∨ cA cs (bf cs i) = 7) → ldP cs (bf cs i) = true := fun h => by
        rw [ld_gt g.hm him]
        exact decide_eq_true (by omega)
      refine ⟨_, rfl, q, _, 1, _, rfl, rfl, SqT.of hq6, atI_nat (j := 1) rfl, rfl, _, rfl, ite2 (fun h1 => ?_) (fun h1 => ?_)⟩
      · have h1 : cA cs (bf cs i) = 1 := by have := of_decide_eq_true h1; injection this
        refine app_ts (t := (rowC (usOf cs m) (fcOf cs m) (crOf cs m i)).tv) rfl hT6 (by simp; omega) (fun Qa kq' => ?_) (Nat.le_trans (tv_len _) (by decide)) (fin _)
        have er : (rowC (usOf cs m) (fcOf cs m) (crOf cs m i)).tv = [.str "grow", .int (gapL cs (bf cs i))] := by
          unfold crOf gapL isFr
          rw [h1]
          rfl
        rw [er] at kq'
        exact ⟨_, rfl, q, _, 2, _, rfl, rfl, SqT.of hq6, atI_nat (j := 2) rfl, kq' H6 (Same.refl H6)⟩
      have h1 : cA cs (bf cs i) ≠ 1 := fun z => h1 (by rw [z]; exact decide_eq_true rfl)
      refine ⟨_, rfl, q, _, 1, _, rfl, rfl, SqT.of hq6, atI_nat (j := 1) rfl, _, _, rfl, rfl, _, rfl, ite2 (fun h2 => ?_) (fun h2 => ?_)⟩
      · have h2 : cA cs (bf cs i) < 4 := of_decide_eq_true h2
        refine app_ts (t := (rowC (usOf cs m) (fcOf cs m) (crOf cs m i)).tv) rfl hT6 (by simp; omega) (fun Qa kq' => ?_) (Nat.le_trans (tv_len _) (by decide)) (fin _)
        refine ⟨s1000 (by show 2 ≤ 1000; decide), fun p hp => ?_⟩
        have s7 : Same H6 (upd H6 p (.lst [.str "tell", .str "halt"])) := (Same.refl H6).upd hp
        refine ⟨_, rfl, q, _, 1, _, rfl, rfl, SqT.of (s7 _ _ hq6), atI_nat (j := 1) rfl, _, _, rfl, rfl, p, _, _, _, rfl, rfl, SqL.of upd_same, at2 (by omega) (by omega), ?_⟩
        have er : (rowC (usOf cs m) (fcOf cs m) (crOf cs m i)).tv = [if cA cs (bf cs i) - 2 = 0 then V.str "tell" else V.str "halt"] := by
          unfold crOf
          rcases (show cA cs (bf cs i) = 2 ∨ cA cs (bf cs i) = 3 by omega) with e | e <;> (rw [e]; rfl)
        rw [er] at kq'
        exact kq' _ s7
      have h2 : ¬ cA cs (bf cs i) < 4 := fun z => h2 (decide_eq_true z)
      have h4 : cA cs (bf cs i) = 4 ∨ cA cs (bf cs i) = 5 ∨ cA cs (bf cs i) = 6 ∨ cA cs (bf cs i) = 7 := by omega
      have hld := lead h4
      obtain ⟨tm, te⟩ := toT_ok g him hld
      refine ⟨s1000 (by show 2 ≤ 1000; decide), fun p hp => ?_⟩
      have s7 : Same H6 (upd H6 p (.lst [.str "jump", .str "when"])) := (Same.refl H6).upd hp
      refine ⟨_, rfl, q, _, 1, _, rfl, rfl, SqT.of (s7 _ _ hq6), atI_nat (j := 1) rfl, _, _, rfl, rfl, ⟨by decide, by decide⟩, p, _, _, _, rfl, rfl, SqL.of upd_same, at2 (by omega) (by omega), ?_⟩
      have hT7 := hT6.same s7
      have hq7 := s7 _ _ hq6
      refine app_ts (t := (rowC (usOf cs m) (fcOf cs m) (crOf cs m i)).tv) rfl hT7 (by simp; omega) (fun Qa kq' => ?_) (Nat.le_trans (tv_len _) (by decide)) (fun H8 b8 hT8 => fin _ H8 (fun b o e hb => b8 b o (s7 _ _ e) hb) hT8)
      have eg : ((bf cs (i + 1) : Nat) : Int) + gapL cs (bf cs i) = ((bf cs (toT cs m i) : Nat) : Int) := by rw [gapL_ld g.hm him hld, te]; rfl
      have nk := (nmC_ok (smallb _ tm)).1.2
      unfold nmC at nk
      rw [strLen_append] at nk
      refine ⟨_, rfl, _, rfl, q, _, 3, _, rfl, rfl, SqT.of hq7, atI_nat (j := 3) rfl, _, rfl, q, _, 2, _, rfl, rfl, SqT.of hq7, atI_nat (j := 2) rfl, _, _, rfl, rfl, ?_⟩
      dsimp only
      rw [eg]
      refine ⟨_, rfl, log_small (by omega) (by have := smallb _ tm; omega), _, _, rfl, rfl, s1000 nk, ?_⟩
      have er : (rowC (usOf cs m) (fcOf cs m) (crOf cs m i)).tv = [if cA cs (bf cs i) / 6 = 0 then V.str "jump" else V.str "when", .str (nmC (bf cs (toT cs m i)))] := by
        have eb := bC_us g tm
        unfold crOf
        rcases h4 with e | e | e | e <;> (rw [e]; show (rowC _ _ _).tv = _; unfold rowC; rw [← eb]; rfl)
      rw [er] at kq'
      exact kq' _ (Same.refl _)
    · rintro σ H5 ⟨v4, v5, rfl, s5, hb5, hT5⟩
      rw [List.length_map, hq2] at hT5
      have plen := plP_len (us := usOf cs m) (fc := fcOf cs m) m
      have ebC := bC_us g (Nat.le_refl m)
      have ebf := bf_of g.hm
      dsimp only
      refine seq_cut (fun σ' H6 => σ' = [some (.ref l), some (.int (cs.length : Nat)), some (.ref le), some (.ref r), v4, v5] ∧ Same H H6 ∧ TsAt H6 r ((backR (usOf cs m) (fcOf cs m)).map Rw.tv)) (fun D' hJ => ?_) ?_
      · refine ⟨_, rfl, _, rfl, le, _, rfl, .inl (SqL.of hb5), rfl, flat_ints _, _, rfl, ?_⟩
        show if inV (V.int ((cs.length : Nat) : Int)) _ = true then _ else _
        rw [show inV (V.int ((cs.length : Nat) : Int)) ((ledL cs m).map V.int) = ledTo (usOf cs m) m by rw [inV_ints, ← led_iff g (Nat.le_refl _), ebf]]
        have eR : backR (usOf cs m) (fcOf cs m) = (plP (usOf cs m) (fcOf cs m) m ++ mkC (usOf cs m) (fcOf cs m) m).map (·.2) := by
          unfold backR plA
          rw [us_len]
        rw [eR] at hJ
        cases hld : ledTo (usOf cs m) m with
        | false =>
          refine iteF (hJ _ _ ⟨rfl, s5, ?_⟩)
          unfold mkC
          rw [hld]
          show TsAt H5 r (((_ ++ []).map _).map _)
          rw [List.append_nil]
          exact hT5
        | true =>
          refine iteT ?_
          refine app_ts (t := (Rw.mark (nmC cs.length)).tv) rfl hT5 (by simp; omega) (fun Qa kq' => ?_) (by show 2 ≤ 900; decide) fun H6 b6 hT6 => ?_
          · have nk := (nmC_ok (show cs.length < 400 by omega)).1.2
            unfold nmC at nk
            rw [strLen_append] at nk
            exact ⟨_, rfl, _, rfl, log_small (by omega) (by omega), _, _, rfl, rfl, s1000 nk, kq' H5 (Same.refl H5)⟩
          · refine hJ _ _ ⟨rfl, b6.same s5 hrH, ?_⟩
            unfold mkC
            rw [hld, ebC, ebf]
            show TsAt H6 r (((_ ++ [_]).map _).map _)
            rw [List.map_append, List.map_append]
            exact hT6
      rintro _ H6 ⟨rfl, s6, hT6⟩
      exact ⟨_, rfl, k r H6 s6 hT6.rows⟩
end
end SC

set_option maxHeartbeats 8000000
namespace SC
open PySem PySem.Spec PyProof.Rows L2
noncomputable def Bd (cs : List Int) : Prop := ∀ x ∈ cs, -100 ≤ x ∧ x ≤ 100
theorem Bd.app {cs ds : List Int} (a : Bd cs) (b : Bd ds) : Bd (cs ++ ds) := fun x hx => (List.mem_append.mp hx).elim (a x) (b x)
theorem Bd.small {cs : List Int} (h : Bd cs) (hl : cs.length ≤ 60) : Small cs := ⟨by omega, fun x hx => by
  have := h x hx
  exact ⟨Int.le_trans (by decide) this.1, Int.le_trans this.2 (by decide)⟩⟩
theorem Bd.one {x : Int} (h : -100 ≤ x ∧ x ≤ 100) : Bd [x] := fun y hy => by rw [List.mem_singleton.mp hy]; exact h
theorem Bd.cons {x : Int} {cs : List Int} (h : -100 ≤ x ∧ x ≤ 100) (hc : Bd cs) : Bd (x :: cs) := fun y hy => by
  rcases List.mem_cons.mp hy with z | z
  · rw [z]; exact h
  · exact hc y z
theorem Bd.nil : Bd [] := fun x hx => by cases hx
theorem Bd.set {cs : List Int} {j : Nat} {x : Int} (hc : Bd cs) (h : -100 ≤ x ∧ x ≤ 100) : Bd (cs.set j x) := fun y hy => by
  rcases List.mem_or_eq_of_mem_set hy with z | z
  · exact hc y z
  · rw [z]; exact h
theorem Bd.take {cs : List Int} {j : Nat} (hc : Bd cs) : Bd (cs.take j) := fun y hy => hc y (List.mem_of_mem_take hy)
theorem ext_ints {l : Addr} {σ : L2.St} {H : Hp} {D : Ends} {ta : TA} {i : Nat} {cs ys : List Int} (hσ : σ[i]? = some (some (.ref l))) (hl : H l = some (.lst (cs.map V.int))) (hn : cs.length ≤ 500)
    (hv : ∀ Qa : List V → Hp → Prop, (∀ H', Same H H' → Qa (ys.map V.int) H') → ta σ H Qa) (hy : ys.length ≤ 400) (k : ∀ H', But l H H' → H' l = some (.lst ((cs ++ ys).map V.int)) → D.nx σ H') :
    tDrop (tBM [] "list" rExtend (tVar i) (tCons (tLst ta) tNil)) D σ H := by
  refine ⟨_, hσ, .inl ⟨rfl, _, SqL.of hl⟩, ?_⟩
  refine hv _ fun H1 s1 => ⟨s1000 (by rw [List.length_map]; omega), fun p hp => ?_⟩
  have hp0 : H1 p = none := hp
  have g1 := s1 _ _ hl
  have npl : l ≠ p := ne_of_none g1 hp0
  refine ⟨l, p, _, _, rfl, rfl, (by rw [upd_ne npl]; exact g1), upd_same, s1000 (by rw [List.length_map, List.length_map]; omega), ?_⟩
  refine k _ (fun b o e hb => ?_) ?_
  · rw [upd_ne hb, upd_ne (ne_of_none (s1 _ _ e) hp0)]
    exact s1 _ _ e
  · rw [upd_same, List.map_append]
theorem app_int {l : Addr} {σ : L2.St} {H : Hp} {D : Ends} {te : TE} {i : Nat} {cs : List Int} {y : Int} (hσ : σ[i]? = some (some (.ref l))) (hl : H l = some (.lst (cs.map V.int))) (hn : cs.length ≤ 500)
    (hv : ∀ Q : VK, (∀ H', Same H H' → Q (.int y) H') → te σ H Q) (k : ∀ H', But l H H' → H' l = some (.lst ((cs ++ [y]).map V.int)) → D.nx σ H') :
    tDrop (tBM [] "list" rAppend (tVar i) (tCons te tNil)) D σ H := by
  refine ⟨_, hσ, .inl ⟨rfl, _, SqL.of hl⟩, ?_⟩
  refine hv _ fun H1 s1 => ?_
  refine ⟨l, _, _, rfl, rfl, s1 _ _ hl, (by rw [List.length_map]; exact small1000 (by omega)), ?_⟩
  refine k _ (fun b o e hb => ?_) ?_
  · rw [upd_ne hb]
    exact s1 _ _ e
  · rw [upd_same, List.map_append]
    rfl
theorem at_in {xs : List Int} {i : Int} (h0 : 0 ≤ i) (h1 : i < (xs.length : Nat)) : ∃ x, x ∈ xs ∧ atI (xs.map V.int) i = some (.int x) := by
  obtain ⟨n, rfl⟩ : ∃ n : Nat, i = (n : Int) := ⟨i.toNat, by omega⟩
  have hn : n < xs.length := by omega
  exact ⟨xs[n], List.getElem_mem hn, atI_nat (by rw [List.getElem?_map, List.getElem?_eq_getElem hn]; rfl)⟩
theorem cut_some (ns : List Int) (k : Nat) : ∃ ms : List Int, cutV (ns.map V.int) (some (2 : Int)) (some ((k : Nat) : Int)) = ms.map V.int ∧ ms.length ≤ k - 2 := by
  unfold cutV
  rw [show HT.sIx (ns.map V.int).length 0 (some (2 : Int)) = min 2 (ns.map V.int).length from HT.sIx_nat _ _ 2, show HT.sIx (ns.map V.int).length (ns.map V.int).length (some ((k : Nat) : Int)) = min k (ns.map V.int).length from HT.sIx_nat _ _ k]
  refine ⟨(ns.drop (min 2 (ns.map V.int).length)).take (min k (ns.map V.int).length - min 2 (ns.map V.int).length), by rw [List.map_take, List.map_drop], ?_⟩
  rw [List.length_take]
  omega
theorem cut_to (cs : List Int) (k : Nat) : cutV (cs.map V.int) none (some ((k : Nat) : Int)) = (cs.take (min k cs.length)).map V.int := by
  unfold cutV
  rw [HT.sIx_none, List.drop_zero, show HT.sIx (cs.map V.int).length (cs.map V.int).length (some ((k : Nat) : Int)) = min k (cs.map V.int).length from HT.sIx_nat _ _ k, Nat.sub_zero, List.length_map, List.map_take]
section
variable {P : Program} {w : World} {K : PySem.W.Frag} {mg : Str → Option Value} {base : Heap} {c : Cn}
noncomputable abbrev s__law_some_cells : Stmt := top 50
theorem sc__law_some_cells : FnScope ["_law_cells", "_law_made", "_law_cell", "_law_rest", "_law_way", "_law_gap"] ["_law_cells"] (defScope s__law_some_cells) := ⟨rfl, rfl, rfl, by decide +kernel, rfl, by decide +kernel, by decide +kernel⟩
noncomputable def spSome : Sp := fun vs H Q _ => Ex2_4 (fun (a : Addr) (ns : List Int) => vs = [.ref a]) (fun (a : Addr) (ns : List Int) => H a = some (.lst (ns.map V.int))) (fun (a : Addr) (ns : List Int) => ns.length ≤ 9) (fun (a : Addr) (ns : List Int) => ∀ l H' cs, H l = none → Same H H' → H' l = some (.lst (cs.map V.int)) → cs.length ≤ 27 → Bd cs → Q (.ref l) H')
theorem ok__law_some_cells (D : Def K mg "_law_some_cells" s__law_some_cells ["_law_cells"]) (T : Tx P w K mg) : Has P w K mg base 1 "_law_some_cells" ["_law_cells"] spSome := by
  refine D.has sc__law_some_cells (fun vs H Q E h => ?_) (fun f cdv A outer s H vs Q E hr h => ?_)
  · obtain ⟨a, ns, rfl, _⟩ := h
    rfl
  · obtain ⟨a, ns, rfl, ha, hn, k⟩ := h
    refine ⟨_, (@pss_cons _ _ _ _ _ (@ps_set _ _ 1 _ _ _ _ sc__law_some_cells.nd rfl (Or.inl rfl) (@pe_lst _ _ _ _ pa_nil) (by rfl) (by first | exact .inl rfl | exact .inr rfl | assumption)) (@pss_cons _ _ _ _ _ (ps_for PassesOwn.never rfl (@pi_list _ _ _ _ (pv 0)) (pg_name (i := 2) sc__law_some_cells.nd rfl (Or.inl rfl))         (@pss_cons _ _ _ _ _ (@ps_set _ _ 3 _ _ _ _ sc__law_some_cells.nd rfl (Or.inl rfl) (@pe_op _ _ _ _ _ _ _ _ op_fdiv (pv 2) pe_int) (by rfl) (by first | exact .inl rfl | exact .inr rfl | assumption)) (@pss_cons _ _ _ _ _ (@ps_set _ _ 4 _ _ _ _ sc__law_some_cells.nd rfl (Or.inl rfl) (@pe_op _ _ _ _ _ _ _ _ op_mod (pv 2) pe_int) (by rfl) (by first | exact .inl rfl | exact .inr rfl | assumption)) (@pss_one _ _ _ (@ps_if _ _ _ _ _ _ _ _ (@pt_cmpR _ _ _ _ _ _ _ _ op_lt (pv 4) pe_int (nomark _)) (@pss_one _ _ _ (@ps_expr _ _ _ _ (pe_bmF PySem.F.plainAttrs_list PySem.F.slot_list_extend PySem.F.type_list_extend mt_extend (pv 1) (@pa_cons _ _ _ _ _ (@pe_lst _ _ _ _ (@pa_con _ _ _ _ _ _ _ pe_int (@pa_cons _ _ _ _ _ (@pe_op _ _ _ _ _ _ _ _ op_sub (@pe_op _ _ _ _ _ _ _ _ op_mod (pv 3) pe_int) pe_int) pa_nil (by rfl)))) pa_nil (by rfl))) (by rfl))) (@pss_one _ _ _ (@ps_if _ _ _ _ _ _ _ _ (@pt_cmpR _ _ _ _ _ _ _ _ op_eq (pv 4) pe_int (nomark _)) (@pss_one _ _ _ (@ps_expr _ _ _ _ (pe_bmF PySem.F.plainAttrs_list PySem.F.slot_list_append PySem.F.type_list_append mt_append (pv 1) (@pa_con _ _ _ _ _ _ _ pe_int pa_nil)) (by rfl))) (@pss_one _ _ _ (@ps_if _ _ _ _ _ _ _ _ (@pt_cmpR _ _ _ _ _ _ _ _ op_eq (pv 4) pe_int (nomark _)) (@pss_one _ _ _ (@ps_expr _ _ _ _ (pe_bmF PySem.F.plainAttrs_list PySem.F.slot_list_append PySem.F.type_list_append mt_append (pv 1) (@pa_cons _ _ _ _ _ (@pe_ix _ _ _ _ _ _ _ ix_list0 (@pe_lst _ _ _ _ (@pa_con _ _ _ _ _ _ _ pe_int (@pa_con _ _ _ _ _ _ _ pe_int pa_nil))) (pe_callTy call_int1 (by rfl) T.b_int bt_int (@pa_cons _ _ _ _ _ (@pe_cmpR _ _ _ _ _ _ _ _ op_gt (@pe_op _ _ _ _ _ _ _ _ op_mod (pv 3) pe_int) pe_int (nomark _)) pa_nil (by rfl))) (fun _ _ => rfl)) pa_nil (by rfl))) (by rfl))) (@pss_one _ _ _ (@ps_if _ _ _ _ _ _ _ _ (@pt_cmpR _ _ _ _ _ _ _ _ op_lt (pv 4) pe_int (nomark _)) (@pss_one _ _ _ (@ps_expr _ _ _ _ (pe_bmF PySem.F.plainAttrs_list PySem.F.slot_list_extend PySem.F.type_list_extend mt_extend (pv 1) (@pa_cons _ _ _ _ _ (@pe_lst _ _ _ _ (@pa_cons _ _ _ _ _ (@pe_op _ _ _ _ _ _ _ _ op_add pe_int (@pe_op _ _ _ _ _ _ _ _ op_mul pe_int (@pe_op _ _ _ _ _ _ _ _ op_sub (pv 4) pe_int))) (@pa_cons _ _ _ _ _ (@pe_ix _ _ _ _ _ _ _ ix_list0 (@pe_lst _ _ _ _ (@pa_con _ _ _ _ _ _ _ pe_int (@pa_con _ _ _ _ _ _ _ pe_int (@pa_un _ _ _ _ _ _ _ (@pe_un _ _ _ _ _ _ un_neg pe_int) (@pa_con _ _ _ _ _ _ _ pe_int (@pa_con _ _ _ _ _ _ _ pe_int (@pa_con _ _ _ _ _ _ _ pe_int (@pa_un _ _ _ _ _ _ _ (@pe_un _ _ _ _ _ _ un_neg pe_int) (@pa_con _ _ _ _ _ _ _ pe_int pa_nil))))))))) (@pe_op _ _ _ _ _ _ _ _ op_mod (pv 3) pe_int) (fun _ _ => rfl)) pa_nil (by rfl)) (by rfl))) pa_nil (by rfl))) (by rfl))) (@pss_cons _ _ _ _ _ (@ps_set _ _ 5 _ _ _ _ sc__law_some_cells.nd rfl (Or.inl rfl) (@pe_ix _ _ _ _ _ _ _ ix_list0 (@pe_lst _ _ _ _ (@pa_con _ _ _ _ _ _ _ pe_int (@pa_con _ _ _ _ _ _ _ pe_int (@pa_un _ _ _ _ _ _ _ (@pe_un _ _ _ _ _ _ un_neg pe_int) (@pa_con _ _ _ _ _ _ _ pe_int (@pa_con _ _ _ _ _ _ _ pe_int (@pa_con _ _ _ _ _ _ _ pe_int (@pa_un _ _ _ _ _ _ _ (@pe_un _ _ _ _ _ _ un_neg pe_int) (@pa_con _ _ _ _ _ _ _ pe_int pa_nil))))))))) (@pe_op _ _ _ _ _ _ _ _ op_mod (pv 3) pe_int) (fun _ _ => rfl)) (by rfl) (by first | exact .inl rfl | exact .inr rfl | assumption)) (@pss_cons _ _ _ _ _ (@ps_expr _ _ _ _ (pe_bmF PySem.F.plainAttrs_list PySem.F.slot_list_extend PySem.F.type_list_extend mt_extend (pv 1) (@pa_cons _ _ _ _ _ (@pe_lst _ _ _ _ (@pa_cons _ _ _ _ _ (@pe_op _ _ _ _ _ _ _ _ op_add pe_int (@pe_op _ _ _ _ _ _ _ _ op_mul pe_int (@pe_op _ _ _ _ _ _ _ _ op_sub (pv 4) pe_int))) (@pa_cons _ _ _ _ _ (@pe_op _ _ _ _ _ _ _ _ op_fdiv (pv 5) pe_int) (@pa_cons _ _ _ _ _ (@pe_op _ _ _ _ _ _ _ _ op_mod (pv 5) pe_int) pa_nil (by rfl)) (by rfl)) (by rfl))) pa_nil (by rfl))) (by rfl)) (@pss_one _ _ _ (@ps_if _ _ _ _ _ _ _ _ (@pt_cmpR _ _ _ _ _ _ _ _ op_eq (@pe_op _ _ _ _ _ _ _ _ op_mod (pv 3) pe_int) pe_int (nomark _)) (@pss_cons _ _ _ _ _ (ps_asg (@pe_op _ _ _ _ _ _ _ _ op_add (@pe_ix _ _ _ _ _ _ _ ix_list0 (pv 1) (@pe_un _ _ _ _ _ _ un_neg pe_int) (fun _ _ => rfl)) pe_int) (pg_sub (pv 1) (@pe_un _ _ _ _ _ _ un_neg pe_int) set_list)) (@pss_one _ _ _ (ps_asg (@pe_op _ _ _ _ _ _ _ _ op_sub (@pe_ix _ _ _ _ _ _ _ ix_list0 (pv 1) (@pe_un _ _ _ _ _ _ un_neg pe_int) (fun _ _ => rfl)) pe_int) (pg_sub (pv 1) (@pe_un _ _ _ _ _ _ un_neg pe_int) set_list)))) pss_nil))))))))))))))) (@pss_one _ _ _ (@ps_ret _ _ _ _ (pv 1))))), ?_⟩
    refine ⟨by decide, fun l hl => ?_⟩
    have s1 : Same H (upd H l (.lst [])) := (Same.refl H).upd hl
    refine ⟨_, rfl, a, rfl, ⟨_, SqL.of (s1 _ _ ha)⟩, for_list (K := K) (a := a) (xs := ns.map V.int) (fun i σ H2 => ∃ v2 v3 v4 v5 cs, σ = [some (.ref a), some (.ref l), v2, v3, v4, v5] ∧ Same H H2 ∧ H2 l = some (.lst (cs.map V.int)) ∧ cs.length ≤ 3 * i ∧ Bd cs)
      ⟨none, none, none, none, [], rfl, s1, upd_same, Nat.le_refl _, Bd.nil⟩ (fun i σ H2 _ ⟨_, _, _, _, _, _, s2, _⟩ => s2.seq (SqL.of ha)) ?_ ?_⟩
    · rintro i y σ H2 hi ⟨v2, v3, v4, v5, cs, rfl, s2, hl2, hlen, hbd⟩
      have hil : i < ns.length := by
        have := (List.getElem?_eq_some_iff.mp hi).1
        rw [List.length_map] at this
        exact this
      rw [List.getElem?_map, List.getElem?_eq_getElem hil] at hi
      have hi := Option.some.inj hi
      subst hi
      generalize ns[i] = x
      refine ⟨_, rfl, _, _, rfl, rfl, ⟨by decide, by decide⟩, ?_⟩
      refine ⟨_, rfl, _, _, rfl, rfl, (by decide : (0 : Int) < 8), ?_⟩
      have w0 := Int.emod_nonneg x (show (8 : Int) ≠ 0 by decide)
      have w1 := Int.emod_lt_of_pos x (show (0 : Int) < 8 by decide)
      dsimp only [gName]
      generalize x / 8 = rest
      generalize x % 8 = way at w0 w1
      have fin : ∀ (v5 : Option V) (ys : List Int), ys.length ≤ 3 → Bd ys → ∀ H3, But l H2 H3 → H3 l = some (.lst ((cs ++ ys).map V.int)) → ∃ v2 v3 v4 v5' cs, [some (V.ref a), some (.ref l), some (.int x), some (.int rest), some (.int way), v5] = [some (.ref a), some (.ref l), v2, v3, v4, v5'] ∧ Same H H3 ∧ H3 l = some (.lst (cs.map V.int)) ∧ cs.length ≤ 3 * (i + 1) ∧ Bd cs :=
        fun v5 ys hy hb H3 b3 h3 => ⟨_, _, _, _, _, rfl, b3.same s2 hl, h3, by rw [List.length_append]; omega, hbd.app hb⟩
      refine ⟨_, rfl, _, _, rfl, rfl, _, rfl, ite2 (fun _ => ?_) (fun c1 => ?_)⟩
      · have r0 := Int.emod_nonneg rest (show (19 : Int) ≠ 0 by decide)
        have r1 := Int.emod_lt_of_pos rest (show (0 : Int) < 19 by decide)
        refine ext_ints (ys := [1, rest % 19 - 9]) rfl hl2 (by omega) (fun Qa kq => ?_) (by show 2 ≤ 400; decide) (fin _ [1, rest % 19 - 9] (by show 2 ≤ 3; decide) (Bd.cons (by decide) (Bd.one (by omega))))
        exact ⟨_, rfl, _, _, rfl, rfl, (by decide : (0 : Int) < 19), _, _, rfl, rfl, kq H2 (Same.refl H2)⟩
      have c1 : ¬ way < 2 := fun z => c1 (decide_eq_true z)
      refine ⟨_, rfl, rfl, _, rfl, ite2 (fun _ => ?_) (fun c2 => ?_)⟩
      · exact app_int (y := 2) rfl hl2 (by omega) (fun Qa kq => kq H2 (Same.refl H2)) (fin _ [2] (by decide) (Bd.one (by decide)))
      have c2 : way ≠ 2 := fun z => c2 (by subst z; exact decide_eq_true rfl)
      refine ⟨_, rfl, rfl, _, rfl, ite2 (fun _ => ?_) (fun c3 => ?_)⟩
      · obtain ⟨y, hy, hv⟩ : ∃ y : Int, (-100 ≤ y ∧ y ≤ 100) ∧ atI ([.int 3, .int 2] : List V) (if decide (0 < rest % 3) = true then 1 else 0) = some (.int y) := by
          cases decide (0 < rest % 3) with
          | true => exact ⟨2, by decide, rfl⟩
          | false => exact ⟨3, by decide, rfl⟩
        refine app_int (y := y) rfl hl2 (by omega) (fun Qa kq => ?_) (fin _ [y] (by show 1 ≤ 3; decide) (Bd.one hy))
        refine ⟨s1000 (by show 2 ≤ 1000; decide), fun p hp => ⟨_, rfl, _, _, rfl, rfl, (by decide : (0 : Int) < 3), _, _, rfl, rfl, .inr ⟨_, rfl, p, _, _, _, rfl, rfl, SqL.of upd_same, hv, kq _ ((Same.refl H2).upd hp)⟩⟩⟩
      have c3 : way ≠ 3 := fun z => c3 (by subst z; exact decide_eq_true rfl)
      have r0 := Int.emod_nonneg rest (show (8 : Int) ≠ 0 by decide)
      have r1 := Int.emod_lt_of_pos rest (show (0 : Int) < 8 by decide)
      refine ⟨_, rfl, _, _, rfl, rfl, _, rfl, ite2 (fun c4 => ?_) (fun c4 => ?_)⟩
      · have c4 : way < 6 := of_decide_eq_true c4
        obtain ⟨y, hy, hv⟩ := at_in (xs := [0, 0, -2, 2, 0, 1, -4, 3]) r0 r1
        have hy : -100 ≤ y ∧ y ≤ 100 := by
          simp only [List.mem_cons, List.not_mem_nil, or_false] at hy
          omega
        refine ext_ints (ys := [4 + 2 * (way - 4), y]) rfl hl2 (by omega) (fun Qa kq => ?_) (by show 2 ≤ 400; decide) (fin _ [4 + 2 * (way - 4), y] (by show 2 ≤ 3; decide) (Bd.cons (by omega) (Bd.one hy)))
        refine ⟨_, rfl, _, _, rfl, rfl, _, _, rfl, rfl, .inl ⟨by decide, by decide⟩, _, _, rfl, rfl, _, rfl, _, rfl, s1000 (by show 8 ≤ 1000; decide), fun p hp => ?_⟩
        exact ⟨_, rfl, _, _, rfl, rfl, (by decide : (0 : Int) < 8), p, _, _, _, rfl, rfl, SqL.of upd_same, hv, kq _ ((Same.refl H2).upd hp)⟩
      · have c4 : ¬ way < 6 := fun z => c4 (decide_eq_true z)
        obtain ⟨y, hy, hv⟩ := at_in (xs := [0, 0, -3, 2, 0, 1, -5, 16]) r0 r1
        have hy : -100 ≤ y ∧ y ≤ 16 := by
          simp only [List.mem_cons, List.not_mem_nil, or_false] at hy
          omega
        refine ⟨_, rfl, _, rfl, s1000 (by show 8 ≤ 1000; decide), fun p hp => ?_⟩
        refine ⟨_, rfl, _, _, rfl, rfl, (by decide : (0 : Int) < 8), p, _, _, _, rfl, rfl, SqL.of upd_same, hv, ?_⟩
        have s3 : Same H2 (upd H2 p (.lst [V.int 0, V.int 0, V.int (-3), V.int 2, V.int 0, V.int 1, V.int (-5), V.int 16])) := (Same.refl H2).upd hp
        have hl3 := s3 _ _ hl2
        have s3' := s2.trans s3
        dsimp only [gName]
        generalize upd H2 p (.lst [V.int 0, V.int 0, V.int (-3), V.int 2, V.int 0, V.int 1, V.int (-5), V.int 16]) = H3 at s3 hl3 s3' ⊢
        have fin3 : ∀ (ys : List Int), ys.length ≤ 3 → Bd ys → ∀ H4, But l H3 H4 → H4 l = some (.lst ((cs ++ ys).map V.int)) → ∃ v2 v3 v4 v5' cs, [some (V.ref a), some (.ref l), some (.int x), some (.int rest), some (.int way), some (.int y)] = [some (.ref a), some (.ref l), v2, v3, v4, v5'] ∧ Same H H4 ∧ H4 l = some (.lst (cs.map V.int)) ∧ cs.length ≤ 3 * (i + 1) ∧ Bd cs :=
          fun ys hy hb H4 b4 h4 => ⟨_, _, _, _, _, rfl, b4.same s3' hl, h4, by rw [List.length_append]; omega, hbd.app hb⟩
        refine ext_ints (ys := [5 + 2 * (way - 6), y / 16, y % 16]) rfl hl3 (by omega) (fun Qa kq => ?_) (by show 3 ≤ 400; decide) (fun H4 b4 hl4 => ?_)
        · exact ⟨_, rfl, _, _, rfl, rfl, _, _, rfl, rfl, .inl ⟨by decide, by decide⟩, _, _, rfl, rfl, _, rfl, _, _, rfl, rfl, ⟨by decide, by decide⟩, _, rfl, _, _, rfl, rfl, (by decide : (0 : Int) < 16), kq H3 (Same.refl H3)⟩
        have l3 : ((cs ++ [5 + 2 * (way - 6), y / 16, y % 16]).map V.int).length = cs.length + 3 := by simp
        refine ⟨_, rfl, _, _, rfl, rfl, (by decide : (0 : Int) < 13), rfl, _, rfl, ite2 (fun _ => ?_) (fun _ => ?_)⟩
        rotate_left
        · exact fin3 [5 + 2 * (way - 6), y / 16, y % 16] (by show 3 ≤ 3; decide) (Bd.cons (by omega) (Bd.cons (by omega) (Bd.one (by omega)))) H4 b4 hl4
        have i1 : ixN (cs.length + 3) (-1) = some (cs.length + 2) := by unfold ixN; rw [if_neg (by decide), if_pos (by omega)]; congr 1; omega
        have i2 : ixN (cs.length + 3) (-2) = some (cs.length + 1) := by unfold ixN; rw [if_neg (by decide), if_pos (by omega)]; congr 1; omega
        have g1 : atI ((cs ++ [5 + 2 * (way - 6), y / 16, y % 16]).map V.int) (-1) = some (.int (y % 16)) := by
          unfold atI
          rw [l3, i1, List.map_append]
          show (_ ++ _)[cs.length + 2]? = _
          rw [List.getElem?_append_right (by rw [List.length_map]; omega), List.length_map, show cs.length + 2 - cs.length = 2 by omega]
          rfl
        refine ⟨_, rfl, _, rfl, l, _, _, _, rfl, rfl, SqL.of hl4, g1, _, _, rfl, rfl, ?_⟩
        refine ⟨_, rfl, _, rfl, l, _, _, cs.length + 2, rfl, rfl, hl4, (by rw [l3]; exact i1), ?_⟩
        have e1 : ((cs ++ [5 + 2 * (way - 6), y / 16, y % 16]).map V.int).set (cs.length + 2) (.int (y % 16 + 16)) = (cs ++ [5 + 2 * (way - 6), y / 16, y % 16 + 16]).map V.int := by
          rw [List.map_append, List.map_append, List.set_append_right _ _ (by rw [List.length_map]; omega), List.length_map, show cs.length + 2 - cs.length = 2 by omega]
          rfl
        rw [e1]
        have hl5 : upd H4 l (.lst ((cs ++ [5 + 2 * (way - 6), y / 16, y % 16 + 16]).map V.int)) l = some (.lst ((cs ++ [5 + 2 * (way - 6), y / 16, y % 16 + 16]).map V.int)) := upd_same
        have b5 : But l H3 (upd H4 l (.lst ((cs ++ [5 + 2 * (way - 6), y / 16, y % 16 + 16]).map V.int))) := fun b o e hb => by rw [upd_ne hb]; exact b4 b o e hb
        generalize upd H4 l (.lst ((cs ++ [5 + 2 * (way - 6), y / 16, y % 16 + 16]).map V.int)) = H5 at hl5 b5 ⊢
        have l4 : ((cs ++ [5 + 2 * (way - 6), y / 16, y % 16 + 16]).map V.int).length = cs.length + 3 := by simp
        have g2 : atI ((cs ++ [5 + 2 * (way - 6), y / 16, y % 16 + 16]).map V.int) (-2) = some (.int (y / 16)) := by
          unfold atI
          rw [l4, i2, List.map_append]
          show (_ ++ _)[cs.length + 1]? = _
          rw [List.getElem?_append_right (by rw [List.length_map]; omega), List.length_map, show cs.length + 1 - cs.length = 1 by omega]
          rfl
        refine ⟨_, rfl, _, rfl, l, _, _, _, rfl, rfl, SqL.of hl5, g2, _, _, rfl, rfl, ?_⟩
        refine ⟨_, rfl, _, rfl, l, _, _, cs.length + 1, rfl, rfl, hl5, (by rw [l4]; exact i2), ?_⟩
        have e2 : ((cs ++ [5 + 2 * (way - 6), y / 16, y % 16 + 16]).map V.int).set (cs.length + 1) (.int (y / 16 - 1)) = (cs ++ [5 + 2 * (way - 6), y / 16 - 1, y % 16 + 16]).map V.int := by
          rw [List.map_append, List.map_append, List.set_append_right _ _ (by rw [List.length_map]; omega), List.length_map, show cs.length + 1 - cs.length = 1 by omega]
          rfl
        rw [e2]
        refine fin3 [5 + 2 * (way - 6), y / 16 - 1, y % 16 + 16] (by show 3 ≤ 3; decide) (Bd.cons (by omega) (Bd.cons (by omega) (Bd.one (by omega)))) _ (fun b o e hb => ?_) upd_same
        rw [upd_ne hb]
        exact b5 b o e hb
    · rintro σ H2 ⟨v2, v3, v4, v5, cs, rfl, s2, hl2, hlen, hbd⟩
      rw [List.length_map] at hlen
      exact ⟨_, rfl, k l H2 cs hl s2 hl2 (by omega) hbd⟩
end
end SC

set_option maxHeartbeats 8000000
namespace SC
open PySem PySem.Spec PyProof.Rows L2
theorem kit_four {K : PySem.W.Frag} {t a b c d : Value} (h1 : PySem.W.kitOne K t a = some false) (h2 : PySem.W.kitOne K t b = some false) (h3 : PySem.W.kitOne K t c = some false) (h4 : PySem.W.kitOne K t d = some false) : PySem.W.kitAny K t [a, b, c, d] = some false := kit_none fun e he => by
  simp only [List.mem_cons, List.not_mem_nil, or_false] at he
  rcases he with rfl | rfl | rfl | rfl <;> assumption
noncomputable def GI (t : TE) (σ : L2.St) (H : Hp) (xs : List Int) : Prop := ∀ Q : VK, (∀ l H', Same H H' → H' l = some (.lst (xs.map V.int)) → Q (.ref l) H') → t σ H Q
theorem gi_lst {σ : L2.St} {H : Hp} {ta : TA} {xs : List Int} (h : ∀ Qa : List V → Hp → Prop, Qa (xs.map V.int) H → ta σ H Qa) (hl : xs.length ≤ 900) : GI (tLst ta) σ H xs := fun Q k => by
  refine h _ ⟨s1000 (by rw [List.length_map]; omega), fun p hp => ?_⟩
  exact k p _ ((Same.refl H).upd hp) upd_same
theorem gi_var {σ : L2.St} {H : Hp} {i : Nat} {l : Addr} {xs : List Int} (h : σ[i]? = some (some (.ref l))) (hl : H l = some (.lst (xs.map V.int))) : GI (tVar i) σ H xs := fun Q k => ⟨_, h, k l H (Same.refl H) hl⟩
theorem gi_cat {σ : L2.St} {H : Hp} {ta tb : TE} {xs ys : List Int} (ha : GI ta σ H xs) (hb : ∀ H', Same H H' → GI tb σ H' ys) (hl : xs.length + ys.length ≤ 900) : GI (tOp rCat ta tb) σ H (xs ++ ys) := fun Q k => by
  refine ha _ fun l H1 s1 h1 => hb H1 s1 _ fun b H2 s2 h2 => ?_
  refine ⟨l, b, _, _, rfl, rfl, s2 _ _ h1, h2, s1000 (by rw [List.length_map, List.length_map]; omega), fun p hp => ?_⟩
  exact k p _ ((s1.trans s2).trans ((Same.refl H2).upd hp)) (by rw [upd_same, List.map_append])
theorem gi_rep {σ : L2.St} {H : Hp} {ta tb : TE} {x : Int} {n : Nat} (ha : GI ta σ H [x]) (hb : ∀ (H' : Hp) (Q : VK), Same H H' → Q (.int n) H' → tb σ H' Q) (hl : n ≤ 900) : GI (tOp rRep ta tb) σ H (List.replicate n x) := fun Q k => by
  refine ha _ fun l H1 s1 h1 => hb H1 _ s1 ?_
  refine ⟨l, n, _, rfl, rfl, h1, by omega, by omega, s1000 (by rw [Int.toNat_natCast]; show 1 * n ≤ 1000; omega), fun q hq => ?_⟩
  refine k q _ (s1.trans ((Same.refl H1).upd hq)) ?_
  rw [upd_same, Int.toNat_natCast, List.map_cons, List.map_nil, flat_one, List.map_replicate]
theorem Bd.rep {n : Nat} {x : Int} (h : -100 ≤ x ∧ x ≤ 100) : Bd (List.replicate n x) := fun y hy => by rw [(List.mem_replicate.mp hy).2]; exact h
theorem mod_in (x : Int) {m : Int} (h : 0 < m) (hm : m ≤ 50) : 0 ≤ x % m ∧ x % m < 50 := by
  have h1 := Int.emod_nonneg x (show m ≠ 0 by omega)
  have h2 := Int.emod_lt_of_pos x h
  omega
section
variable {P : Program} {w : World} {K : PySem.W.Frag} {mg : Str → Option Value} {base : Heap} {c : Cn}
noncomputable abbrev s__law_refuses : Stmt := top 51
theorem sc__law_refuses : FnScope ["_law_way", "_law_cells", "e"] ["_law_way", "_law_cells"] (defScope s__law_refuses) := ⟨rfl, rfl, rfl, by decide +kernel, rfl, by decide +kernel, by decide +kernel⟩
noncomputable def spRefu : Sp := fun vs H Q _ => Ex3_5 (fun (a : Addr) (cs : List Int) (way : Nat) => vs = [.int (way : Nat), .ref a]) (fun (a : Addr) (cs : List Int) (way : Nat) => way < 3) (fun (a : Addr) (cs : List Int) (way : Nat) => H a = some (.lst (cs.map V.int))) (fun (a : Addr) (cs : List Int) (way : Nat) => Small cs) (fun (a : Addr) (cs : List Int) (way : Nat) => ((∃ m, GoodC cs m) → ∀ H', Same H H' → Q (.bl false) H') ∧ (BadC cs → ∀ H', Same H H' → Q (.bl true) H'))
theorem ok__law_refuses (D : Def K mg "_law_refuses" s__law_refuses ["_law_way", "_law_cells"]) (T : Tx P w K mg) (C : Tc K mg c) (h_rows_of : Has P w K mg base 5 "rows_of" ["cells"] spRowsG) (n_rows_of : Has1 P w K mg base 5 "rows_of" ["cells"] (spCellsX 0 c))
    (h_walked_cells : Has P w K mg base 6 "walked_cells" ["cells", "number", "steps"] spWCellsG) (n_walked_cells : Has1 P w K mg base 6 "walked_cells" ["cells", "number", "steps"] (spCellsX 2 c)) : Has P w K mg base 7 "_law_refuses" ["_law_way", "_law_cells"] spRefu := by
  refine D.has sc__law_refuses (fun vs H Q E h => ?_) (fun f cdv A outer s H vs Q E hr h => ?_)
  · obtain ⟨a, cs, way, rfl, _⟩ := h
    rfl
  · obtain ⟨a, cs, way, rfl, hw, ha, hsm, kf, kt⟩ := h
    rcases good_or cs with ⟨m, g⟩ | hb
    · have kf := kf ⟨m, g⟩
      have h_rows_of := h_rows_of.up
      have h_walked_cells := h_walked_cells.up
      have hC : CellsAt H a (usOf cs m) (fcOf cs m) := by unfold CellsAt; rw [cells_all g]; exact ha
      have cv := cv_us g hsm
      refine ⟨_, (pss_cons (ps_try (i := 2) rfl rfl rfl (fun E σ0 pn xe hx => (pss_one (ps_if (pt_cmpR op_eq (pv 0) pe_int (nomark _)) (pss_one (ps_expr (pe_hasT h_rows_of hr hx rfl (pa_cons (pv 1) pa_nil)))) (pss_one (ps_expr (pe_hasT h_walked_cells hr hx rfl (pa_cons (pv 1) (pa_con pe_int (pa_cons (pe_op op_sub (pv 0) pe_int) pa_nil))))))))) (fun ea => (pss_cons (ps_if (pt_val (pe_callB (show CallR _ _ (rIsE K) from call_isiE) (by rfl) T.b_isinstance bt_isinstance (pa_cons (pv 2) (pa_cons (pe_tup (pa_cons (pe_cls (by rfl) C.n_NoLine) (pa_cons (pe_cls (by rfl) C.n_NoMark) (pa_cons (pe_cls (by rfl) C.n_NoRow) (pa_cons (pe_cls (by rfl) C.n_TwoMarks) pa_nil))))) pa_nil)))) (pss_one (ps_ret pe_bl)) pss_nil)
      (pss_one (ps_ret (pe_and (pe_callB (show CallR _ _ (rIsE K) from call_isiE) (by rfl) T.b_isinstance bt_isinstance (pa_cons (pv 2) (pa_cons (pe_cls (by rfl) C.n_NoCells) pa_nil))) (pe_one (pe_callB (show CallR _ _ (rIsE K) from call_isiE) (by rfl) T.b_isinstance bt_isinstance (pa_cons (pv 2) (pa_cons (pe_bty (by rfl) T.b_ValueError bt_ValueError) pa_nil))))))))) (by rfl) C.n_CellError C.e_CellError sc__law_refuses.nd rfl rfl)
      (pss_one (ps_ret pe_bl))), ?_⟩
      refine ⟨fun _ _ _ => False, ?_, fun _ _ z => z.elim⟩
      refine ⟨_, rfl, rfl, _, rfl, ite2 (fun h0 => ?_) (fun h0 => ?_)⟩
      · exact ⟨rfl, _, rfl, a, _, _, rfl, hC, cv, fun l H1 _ s1 _ => kf H1 s1⟩
      · have w1 : 1 ≤ way := by
          have z0 : way ≠ 0 := fun z => h0 (by subst z; rfl)
          omega
        have ew : ((way : Nat) : Int) - 1 = ((way - 1 : Nat) : Int) := by omega
        refine ⟨rfl, _, rfl, _, rfl, _, _, rfl, rfl, ?_⟩
        dsimp only
        rw [ew]
        exact ⟨a, _, _, 1, way - 1, rfl, hC, cv, by omega, fun t H1 e _ s1 _ _ _ => kf H1 s1⟩
    · have kt := kt hb
      have h_rows_of := n_rows_of
      have h_walked_cells := n_walked_cells
      refine ⟨_, (pss_cons (ps_try (i := 2) rfl rfl rfl (fun E σ0 pn xe hx => (pss_one (ps_if (pt_cmpR op_eq (pv 0) pe_int (nomark _)) (pss_one (ps_expr (pe_hasT h_rows_of hr hx rfl (pa_cons (pv 1) pa_nil)))) (pss_one (ps_expr (pe_hasT h_walked_cells hr hx rfl (pa_cons (pv 1) (pa_con pe_int (pa_cons (pe_op op_sub (pv 0) pe_int) pa_nil))))))))) (fun ea => (pss_cons (ps_if (pt_val (pe_callB (show CallR _ _ (rIsE K) from call_isiE) (by rfl) T.b_isinstance bt_isinstance (pa_cons (pv 2) (pa_cons (pe_tup (pa_cons (pe_cls (by rfl) C.n_NoLine) (pa_cons (pe_cls (by rfl) C.n_NoMark) (pa_cons (pe_cls (by rfl) C.n_NoRow) (pa_cons (pe_cls (by rfl) C.n_TwoMarks) pa_nil))))) pa_nil)))) (pss_one (ps_ret pe_bl)) pss_nil)
      (pss_one (ps_ret (pe_and (pe_callB (show CallR _ _ (rIsE K) from call_isiE) (by rfl) T.b_isinstance bt_isinstance (pa_cons (pv 2) (pa_cons (pe_cls (by rfl) C.n_NoCells) pa_nil))) (pe_one (pe_callB (show CallR _ _ (rIsE K) from call_isiE) (by rfl) T.b_isinstance bt_isinstance (pa_cons (pv 2) (pa_cons (pe_bty (by rfl) T.b_ValueError bt_ValueError) pa_nil))))))))) (by rfl) C.n_CellError C.e_CellError sc__law_refuses.nd rfl rfl)
      (pss_one (ps_ret pe_bl))), ?_⟩
      refine ⟨fun v _ H1 => v = .ref c.NoCells ∧ Same H H1, ?_, ?_⟩
      · refine ⟨_, rfl, rfl, _, rfl, ite2 (fun h0 => ?_) (fun h0 => ?_)⟩
        · exact ⟨rfl, _, rfl, a, cs, [], rfl, rfl, ha, by have := hsm.1; omega, hb, fun H1 s1 => ⟨rfl, s1⟩⟩
        · exact ⟨rfl, _, rfl, _, rfl, _, _, rfl, rfl, a, cs, _, rfl, rfl, ha, by have := hsm.1; omega, hb, fun H1 s1 => ⟨rfl, s1⟩⟩
      · rintro _ H1 ⟨rfl, s1⟩
        refine ⟨_, rfl, C.e_NoCells, C.u_NoCells, fun ea hea => ?_⟩
        have hE : upd H1 ea (ExO ea c.NoCells) ea = some (ExO ea c.NoCells) := upd_same
        have s2 : Same H1 (upd H1 ea (ExO ea c.NoCells)) := (Same.refl H1).upd hea
        refine ⟨_, rfl, s1000 (by show 4 ≤ 1000; decide), fun tp htp => ?_⟩
        have s3 : Same (upd H1 ea (ExO ea c.NoCells)) (upd (upd H1 ea (ExO ea c.NoCells)) tp (.tup [.ref c.NoLine, .ref c.NoMark, .ref c.NoRow, .ref c.TwoMarks])) := (Same.refl _).upd htp
        refine ⟨ea, c.NoCells, _, s3 _ _ hE, C.e_NoCells, .inr (.inr ⟨tp, [c.NoLine, c.NoMark, c.NoRow, c.TwoMarks], rfl, upd_same, kit_four C.i_NoCells_NoLine C.i_NoCells_NoMark C.i_NoCells_NoRow C.i_NoCells_TwoMarks⟩), _, rfl, iteF ?_⟩
        refine ⟨_, rfl, ea, c.NoCells, _, s3 _ _ hE, C.e_NoCells, .inl ⟨_, rfl, C.i_NoCells_NoCells⟩, _, rfl, iteT ?_⟩
        exact ⟨_, rfl, ea, c.NoCells, _, s3 _ _ hE, C.e_NoCells, .inr (.inl ⟨_, rfl, C.v_NoCells⟩), kt _ ((s1.trans s2).trans s3)⟩
noncomputable abbrev s__law_any_refusal : Stmt := top 52
theorem sc__law_any_refusal : FnScope ["_law_way", "_law_cells", "e"] ["_law_way", "_law_cells"] (defScope s__law_any_refusal) := ⟨rfl, rfl, rfl, by decide +kernel, rfl, by decide +kernel, by decide +kernel⟩
noncomputable def spAny : Sp := fun vs H Q _ => Ex3_6 (fun (a : Addr) (cs : List Int) (way : Nat) => vs = [.int (way : Nat), .ref a]) (fun (a : Addr) (cs : List Int) (way : Nat) => way < 3) (fun (a : Addr) (cs : List Int) (way : Nat) => H a = some (.lst (cs.map V.int))) (fun (a : Addr) (cs : List Int) (way : Nat) => Small cs) (fun (a : Addr) (cs : List Int) (way : Nat) => BadC cs) (fun (a : Addr) (cs : List Int) (way : Nat) => ∀ H', Same H H' → Q (.bl true) H')
theorem ok__law_any_refusal (D : Def K mg "_law_any_refusal" s__law_any_refusal ["_law_way", "_law_cells"]) (T : Tx P w K mg) (C : Tc K mg c) (h_rows_of : Has P w K mg base 5 "rows_of" ["cells"] spRowsG) (n_rows_of : Has1 P w K mg base 5 "rows_of" ["cells"] (spCellsX 0 c))
    (h_walked_cells : Has P w K mg base 6 "walked_cells" ["cells", "number", "steps"] spWCellsG) (n_walked_cells : Has1 P w K mg base 6 "walked_cells" ["cells", "number", "steps"] (spCellsX 2 c)) : Has P w K mg base 7 "_law_any_refusal" ["_law_way", "_law_cells"] spAny := by
  refine D.has sc__law_any_refusal (fun vs H Q E h => ?_) (fun f cdv A outer s H vs Q E hr h => ?_)
  · obtain ⟨a, cs, way, rfl, _⟩ := h
    rfl
  · obtain ⟨a, cs, way, rfl, hw, ha, hsm, hb, kt⟩ := h
    have h_rows_of := n_rows_of
    have h_walked_cells := n_walked_cells
    refine ⟨_, (pss_cons (ps_try (i := 2) rfl rfl rfl (fun E σ0 pn xe hx => (pss_one (ps_if (pt_cmpR op_eq (pv 0) pe_int (nomark _)) (pss_one (ps_expr (pe_hasT h_rows_of hr hx rfl (pa_cons (pv 1) pa_nil)))) (pss_one (ps_expr (pe_hasT h_walked_cells hr hx rfl (pa_cons (pv 1) (pa_con pe_int (pa_cons (pe_op op_sub (pv 0) pe_int) pa_nil))))))))) (fun ea => (pss_one (ps_ret (pe_callB (show CallR _ _ (rIsE K) from call_isiE) (by rfl) T.b_isinstance bt_isinstance (pa_cons (pv 2) (pa_cons (pe_bty (by rfl) T.b_ValueError bt_ValueError) pa_nil)))))) (by rfl) C.n_CellError C.e_CellError sc__law_any_refusal.nd rfl rfl)
      (pss_one (ps_ret pe_bl))), ?_⟩
    refine ⟨fun v _ H1 => v = .ref c.NoCells ∧ Same H H1, ?_, ?_⟩
    · refine ⟨_, rfl, rfl, _, rfl, ite2 (fun h0 => ?_) (fun h0 => ?_)⟩
      · exact ⟨rfl, _, rfl, a, cs, [], rfl, rfl, ha, by have := hsm.1; omega, hb, fun H1 s1 => ⟨rfl, s1⟩⟩
      · exact ⟨rfl, _, rfl, _, rfl, _, _, rfl, rfl, a, cs, _, rfl, rfl, ha, by have := hsm.1; omega, hb, fun H1 s1 => ⟨rfl, s1⟩⟩
    · rintro _ H1 ⟨rfl, s1⟩
      refine ⟨_, rfl, C.e_NoCells, C.u_NoCells, fun ea hea => ?_⟩
      have hE : upd H1 ea (ExO ea c.NoCells) ea = some (ExO ea c.NoCells) := upd_same
      have s2 : Same H1 (upd H1 ea (ExO ea c.NoCells)) := (Same.refl H1).upd hea
      exact ⟨_, rfl, ea, c.NoCells, _, hE, C.e_NoCells, .inr (.inl ⟨_, rfl, C.v_NoCells⟩), kt _ (s1.trans s2)⟩
noncomputable abbrev s_law : Stmt := top 53
theorem sc_law : FnScope ["_law_script", "_law_cells", "_law_way", "_law_spot", "_law_near", "_law_low", "_law_parts", "_law_turn"] ["_law_script"] (defScope s_law) := ⟨rfl, rfl, rfl, by decide +kernel, rfl, by decide +kernel, by decide +kernel⟩
noncomputable def J9 (cc : Addr) (ns : List Int) (way spot B : Nat) (N : Addr → Prop) (σ : L2.St) (H : Hp) : Prop := ∃ (l : Addr) (cs : List Int) (v4 v5 : Option V), σ = [some (.ref cc), some (.ref l), some (.int (way : Nat)), some (.int (spot : Nat)), v4, v5, none, none] ∧
  H cc = some (.lst (ns.map V.int)) ∧ N l ∧ H l = some (.lst (cs.map V.int)) ∧ cs.length ≤ B ∧ Bd cs
theorem ok_law {f : Addr} {fd : FuncData} (F : Fun K "law" "law" s_law f fd) (T : Tx P w K mg) (h__law_at : Has P w K mg base 1 "_law_at" ["_law_script", "_law_k"] spAt) (h__law_some_cells : Has P w K mg base 1 "_law_some_cells" ["_law_cells"] spSome)
    (h__law_cut_up : Has P w K mg base 1 "_law_cut_up" ["_law_cells"] spCut) (h__law_refuses : Has P w K mg base 7 "_law_refuses" ["_law_way", "_law_cells"] spRefu) (h__law_any_refusal : Has P w K mg base 7 "_law_any_refusal" ["_law_way", "_law_cells"] spAny)
    (h_rows_of : Has P w K mg base 5 "rows_of" ["cells"] spRowsG) (h__law_rows_from : Has P w K mg base 1 "_law_rows_from" ["_law_parts", "_law_size"] spFrom) (h__law_same_rows : Has P w K mg base 1 "_law_same_rows" ["_law_found", "_law_rows"] spSame) :
    FnOk P w K mg base CX0 8 f fd ["_law_script"] (spLaw K) := by
  refine F.ok sc_law (fun vs H Q E h => ?_) (fun cdv A outer s H vs Q E hr h => ?_)
  · obtain ⟨a, ns, rfl, _⟩ := h
    rfl
  · obtain ⟨a, ns, rfl, hS, hn, k⟩ := h
    refine ⟨_, (@pss_cons _ _ _ _ _ (@ps_set _ _ 0 _ _ _ _ sc_law.nd rfl (Or.inr rfl) (@pe_slice _ _ _ _ _ _ _ _ _ _ sl_list (pv 0) po_none (@po_some _ _ _ pe_int)) (by rfl) (by first | exact .inl rfl | exact .inr rfl | assumption)) (@pss_cons _ _ _ _ _ (@ps_set _ _ 1 _ _ _ _ sc_law.nd rfl (Or.inl rfl) (pe_has h__law_some_cells hr rfl (@pa_cons _ _ _ _ _ (@pe_slice _ _ _ _ _ _ _ _ _ _ sl_list (pv 0) (@po_some _ _ _ pe_int) (@po_some _ _ _ (@pe_op _ _ _ _ _ _ _ _ op_add (@pe_op _ _ _ _ _ _ _ _ op_add pe_int pe_int) (@pe_op _ _ _ _ _ _ _ _ op_mod (pe_has h__law_at hr rfl (@pa_cons _ _ _ _ _ (pv 0) (@pa_con _ _ _ _ _ _ _ pe_int pa_nil) (by rfl))) pe_int)))) pa_nil (by rfl))) (by rfl) (by first | exact .inl rfl | exact .inr rfl | assumption)) (@pss_cons _ _ _ _ _ (@ps_set _ _ 2 _ _ _ _ sc_law.nd rfl (Or.inl rfl) (@pe_op _ _ _ _ _ _ _ _ op_mod (pe_has h__law_at hr rfl (@pa_cons _ _ _ _ _ (pv 0) (@pa_con _ _ _ _ _ _ _ pe_int pa_nil) (by rfl))) pe_int) (by rfl) (by first | exact .inl rfl | exact .inr rfl | assumption)) (@pss_cons _ _ _ _ _ (@ps_set _ _ 3 _ _ _ _ sc_law.nd rfl (Or.inl rfl) (@pe_op _ _ _ _ _ _ _ _ op_mod (@pe_op _ _ _ _ _ _ _ _ op_fdiv (pe_has h__law_at hr rfl (@pa_cons _ _ _ _ _ (pv 0) (@pa_con _ _ _ _ _ _ _ pe_int pa_nil) (by rfl))) pe_int) (@pe_op _ _ _ _ _ _ _ _ op_add (pe_callB call_len_seq0 (by rfl) T.b_len bt_len (@pa_cons _ _ _ _ _ (pv 1) pa_nil (by rfl))) pe_int)) (by rfl) (by first | exact .inl rfl | exact .inr rfl | assumption)) (@pss_cons _ _ _ _ _ (@ps_if _ _ _ _ _ _ _ _ (@pt_cmpR _ _ _ _ _ _ _ _ op_eq (pv 2) pe_int (nomark _)) (@pss_one _ _ _ (@ps_set _ _ 1 _ _ _ _ sc_law.nd rfl (Or.inl rfl) (@pe_slice _ _ _ _ _ _ _ _ _ _ sl_list (pv 1) po_none (@po_some _ _ _ (pv 3))) (by rfl) (by first | exact .inl rfl | exact .inr rfl | assumption))) pss_nil) (@pss_cons _ _ _ _ _ (@ps_if _ _ _ _ _ _ _ _ (@PW.pt _ _ _ (@pw_and _ _ _ _ _ _ _ (@pt_cmpR _ _ _ _ _ _ _ _ op_eq (pv 2) pe_int (nomark _)) (@pw_and1 _ _ _ _ (@pt_cmpR _ _ _ _ _ _ _ _ op_lt (pv 3) (pe_callB call_len_seq0 (by rfl) T.b_len bt_len (@pa_cons _ _ _ _ _ (pv 1) pa_nil (by rfl))) (nomark _))))) (@pss_one _ _ _ (ps_asg (@pe_ix _ _ _ _ _ _ _ ix_list0 (@pe_lst _ _ _ _ (@pa_con _ _ _ _ _ _ _ pe_int (@pa_con _ _ _ _ _ _ _ pe_int (@pa_con _ _ _ _ _ _ _ pe_int (@pa_un _ _ _ _ _ _ _ (@pe_un _ _ _ _ _ _ un_neg pe_int) (@pa_un _ _ _ _ _ _ _ (@pe_un _ _ _ _ _ _ un_neg pe_int) pa_nil)))))) (@pe_op _ _ _ _ _ _ _ _ op_mod (@pe_op _ _ _ _ _ _ _ _ op_fdiv (pe_has h__law_at hr rfl (@pa_cons _ _ _ _ _ (pv 0) (@pa_con _ _ _ _ _ _ _ pe_int pa_nil) (by rfl))) pe_int) pe_int) (fun _ _ => rfl)) (pg_sub (pv 1) (pv 3) set_list))) pss_nil) (@pss_cons _ _ _ _ _ (@ps_if _ _ _ _ _ _ _ _ (@pt_cmpR _ _ _ _ _ _ _ _ op_eq (pv 2) pe_int (nomark _)) (@pss_one _ _ _ (ps_setComp (j := 1) sc_law.nd rfl rfl rfl (x := "_law_k") (xs := ["_law_script"]) (caps := [0]) (osc := defScope s_law) ⟨rfl, rfl, by decide +kernel, by decide +kernel, rfl, by decide +kernel, by decide +kernel, by decide +kernel, (.cons ⟨rfl, by decide +kernel⟩ (.nil))⟩ (pi_range2 (by rfl) T.b_range (@pa_con _ _ _ _ _ _ _ pe_int (@pa_cons _ _ _ _ _ (@pe_op _ _ _ _ _ _ _ _ op_add pe_int (@pe_op _ _ _ _ _ _ _ _ op_mod (pv 3) pe_int)) pa_nil (by rfl)))) (fun _ _ _ => (@pe_op _ _ _ _ _ _ _ _ op_mod (pe_has h__law_at hr rfl (@pa_cons _ _ _ _ _ (pv 1) (@pa_cons _ _ _ _ _ (pv 0) pa_nil (by rfl)) (by rfl))) pe_int)) (fun _ _ _ => pifs_nil))) pss_nil) (@pss_cons _ _ _ _ _ (@ps_if _ _ _ _ _ _ _ _ (@pt_cmpR _ _ _ _ _ _ _ _ op_eq (pv 2) pe_int (nomark _)) (@pss_cons _ _ _ _ _ (@ps_set _ _ 4 _ _ _ _ sc_law.nd rfl (Or.inl rfl) (@pe_op _ _ _ _ _ _ _ _ op_fdiv (pe_has h__law_at hr rfl (@pa_cons _ _ _ _ _ (pv 0) (@pa_con _ _ _ _ _ _ _ pe_int pa_nil) (by rfl))) pe_int) (by rfl) (by first | exact .inl rfl | exact .inr rfl | assumption)) (@pss_one _ _ _ (@ps_set _ _ 1 _ _ _ _ sc_law.nd rfl (Or.inl rfl) (@pe_op _ _ _ _ _ _ _ _ op_cat (@pe_lst _ _ _ _ (@pa_cons _ _ _ _ _ (@pe_op _ _ _ _ _ _ _ _ op_add pe_int (@pe_op _ _ _ _ _ _ _ _ op_mul pe_int (@pe_op _ _ _ _ _ _ _ _ op_mod (@pe_op _ _ _ _ _ _ _ _ op_fdiv (pv 4) pe_int) pe_int))) (@pa_cons _ _ _ _ _ (@pe_op _ _ _ _ _ _ _ _ op_add pe_int (@pe_op _ _ _ _ _ _ _ _ op_mod (pv 4) pe_int)) pa_nil (by rfl)) (by rfl))) (@pe_op _ _ _ _ _ _ _ _ op_rep (@pe_lst _ _ _ _ (@pa_con _ _ _ _ _ _ _ pe_int pa_nil)) pe_int)) (by rfl) (by first | exact .inl rfl | exact .inr rfl | assumption)))) pss_nil) (@pss_cons _ _ _ _ _ (@ps_if _ _ _ _ _ _ _ _ (@pt_cmpR _ _ _ _ _ _ _ _ op_gt (pv 2) pe_int (nomark _)) (@pss_cons _ _ _ _ _ (@ps_set _ _ 5 _ _ _ _ sc_law.nd rfl (Or.inl rfl) (@pe_lst _ _ _ _ (@pa_un _ _ _ _ _ _ _ (@pe_un _ _ _ _ _ _ un_neg pe_int) (@pa_cons _ _ _ _ _ (@pe_op _ _ _ _ _ _ _ _ op_sub (@pe_op _ _ _ _ _ _ _ _ op_sub pe_int pe_int) (pv 3)) pa_nil (by rfl)))) (by rfl) (by first | exact .inl rfl | exact .inr rfl | assumption)) (@pss_cons _ _ _ _ _ (@ps_if _ _ _ _ _ _ _ _ (@PW.pt _ _ _ (@pw_and _ _ _ _ _ _ _ (@pt_cmpR _ _ _ _ _ _ _ _ op_eq (pv 2) pe_int (nomark _)) (@pw_and1 _ _ _ _ (@pt_cmpR _ _ _ _ _ _ _ _ op_eq (@pe_op _ _ _ _ _ _ _ _ op_mod (pe_has h__law_at hr rfl (@pa_cons _ _ _ _ _ (pv 0) (@pa_con _ _ _ _ _ _ _ pe_int pa_nil) (by rfl))) pe_int) pe_int (nomark _))))) (@pss_one _ _ _ (@ps_set _ _ 5 _ _ _ _ sc_law.nd rfl (Or.inl rfl) (@pe_lst _ _ _ _ (@pa_un _ _ _ _ _ _ _ (@pe_un _ _ _ _ _ _ un_neg pe_int) (@pa_cons _ _ _ _ _ (@pe_op _ _ _ _ _ _ _ _ op_sub (@pe_op _ _ _ _ _ _ _ _ op_sub pe_int pe_int) (pv 3)) pa_nil (by rfl)))) (by rfl) (by first | exact .inl rfl | exact .inr rfl | assumption))) pss_nil) (@pss_one _ _ _ (@ps_set _ _ 1 _ _ _ _ sc_law.nd rfl (Or.inl rfl) (@pe_op _ _ _ _ _ _ _ _ op_cat (@pe_op _ _ _ _ _ _ _ _ op_cat (@pe_op _ _ _ _ _ _ _ _ op_cat (@pe_op _ _ _ _ _ _ _ _ op_rep (@pe_lst _ _ _ _ (@pa_con _ _ _ _ _ _ _ pe_int pa_nil)) (pe_callB call_len_seq0 (by rfl) T.b_len bt_len (@pa_cons _ _ _ _ _ (pv 1) pa_nil (by rfl)))) (@pe_lst _ _ _ _ (@pa_con _ _ _ _ _ _ _ pe_int pa_nil))) (pv 5)) (@pe_lst _ _ _ _ (@pa_con _ _ _ _ _ _ _ pe_int pa_nil))) (by rfl) (by first | exact .inl rfl | exact .inr rfl | assumption))))) pss_nil) (@pss_cons _ _ _ _ _ (@ps_set _ _ 6 _ _ _ _ sc_law.nd rfl (Or.inl rfl) (pe_has h__law_cut_up hr rfl (@pa_cons _ _ _ _ _ (pv 1) pa_nil (by rfl))) (by rfl) (by first | exact .inl rfl | exact .inr rfl | assumption)) (@pss_cons _ _ _ _ _ (ps_for PassesOwn.never rfl (pi_range1 (by rfl) T.b_range (@pa_con _ _ _ _ _ _ _ pe_int pa_nil)) (pg_name (i := 7) sc_law.nd rfl (Or.inl rfl))         (@pss_cons _ _ _ _ _ (@ps_if _ _ _ _ _ _ _ _ (@pt_cmpR _ _ _ _ _ _ _ _ op_ne (pe_has h__law_refuses hr rfl (@pa_cons _ _ _ _ _ (pv 7) (@pa_cons _ _ _ _ _ (pe_callTy call_list_of0 (by rfl) T.b_list bt_list (@pa_cons _ _ _ _ _ (pv 1) pa_nil (by rfl))) pa_nil (by rfl)) (by rfl))) (pe_cmp (@pc_isN _ _ _ _ _ (pv 6))) (nomark _)) (@pss_one _ _ _ (@ps_ret _ _ _ _ pe_bl)) pss_nil) (@pss_one _ _ _ (@ps_if _ _ _ _ _ _ _ _ (@PW.pt _ _ _ (@pw_and _ _ _ _ _ _ _ (pt_cmp (@pc_isN _ _ _ _ _ (pv 6))) (@pw_and1 _ _ _ _ (@pt_not _ _ _ _ (pt_val (pe_has h__law_any_refusal hr rfl (@pa_cons _ _ _ _ _ (pv 7) (@pa_cons _ _ _ _ _ (pe_callTy call_list_of0 (by rfl) T.b_list bt_list (@pa_cons _ _ _ _ _ (pv 1) pa_nil (by rfl))) pa_nil (by rfl)) (by rfl)))))))) (@pss_one _ _ _ (@ps_ret _ _ _ _ pe_bl)) pss_nil)))) (@pss_cons _ _ _ _ _ (@ps_if _ _ _ _ _ _ _ _ (pt_cmp (@pc_isN _ _ _ _ _ (pv 6))) (@pss_one _ _ _ (@ps_ret _ _ _ _ pe_bl)) pss_nil) (@pss_one _ _ _ (@ps_ret _ _ _ _ (pe_has h__law_same_rows hr rfl (@pa_cons _ _ _ _ _ (pe_has h_rows_of hr rfl (@pa_cons _ _ _ _ _ (pe_callTy call_list_of0 (by rfl) T.b_list bt_list (@pa_cons _ _ _ _ _ (pv 1) pa_nil (by rfl))) pa_nil (by rfl))) (@pa_cons _ _ _ _ _ (pe_has h__law_rows_from hr rfl (@pa_cons _ _ _ _ _ (pv 6) (@pa_cons _ _ _ _ _ (pe_callB call_len_seq0 (by rfl) T.b_len bt_len (@pa_cons _ _ _ _ _ (pv 1) pa_nil (by rfl))) pa_nil (by rfl)) (by rfl))) pa_nil (by rfl)) (by rfl))))))))))))))))), ?_⟩
    refine ⟨_, rfl, _, rfl, a, _, rfl, hS, fun cc hcc => ?_⟩
    rw [cut_all hn]
    have hc0 : upd H cc (.lst (ns.map V.int)) cc = some (.lst (ns.map V.int)) := upd_same
    generalize upd H cc (.lst (ns.map V.int)) = H0 at hc0 ⊢
    refine ⟨_, rfl, _, rfl, _, _, rfl, rfl, _, rfl, cc, ns, 0, rfl, hc0, fun H1 s1 => ?_⟩
    obtain ⟨x0, hx0, hx1⟩ : ∃ x0 : Nat, ns.getD 0 0 % 9 = (x0 : Nat) ∧ x0 < 9 := ⟨(ns.getD 0 0 % 9).toNat, by have := Int.emod_nonneg (ns.getD 0 0) (show (9 : Int) ≠ 0 by decide); omega, by have := Int.emod_lt_of_pos (ns.getD 0 0) (show (0 : Int) < 9 by decide); have := Int.emod_nonneg (ns.getD 0 0) (show (9 : Int) ≠ 0 by decide); omega⟩
    obtain ⟨ms, hms, hml⟩ := cut_some ns (3 + x0)
    refine ⟨_, _, rfl, rfl, (by decide : (0 : Int) < 9), _, _, rfl, rfl, _, rfl, cc, _, rfl, SqL.of (s1 _ _ hc0), fun c2 hc2 => ?_⟩
    have e2 : cutV (ns.map V.int) (some (2 : Int)) (some (2 + 1 + ns.getD 0 0 % 9)) = ms.map V.int := by
      rw [hx0, show (2 + 1 + ((x0 : Nat) : Int)) = (((3 + x0 : Nat)) : Int) by omega]
      exact hms
    rw [e2]
    have sc2 : Same H0 (upd H1 c2 (.lst (ms.map V.int))) := s1.trans ((Same.refl H1).upd hc2)
    refine ⟨c2, ms, rfl, upd_same, by omega, fun l H2 cs hl s2 hl2 hlen hbd => ?_⟩
    have hc3 := (sc2.trans s2) _ _ hc0
    have nlc : l ≠ cc := fun z => by rw [z, sc2 _ _ hc0] at hl; cases hl
    refine ⟨_, rfl, cc, ns, 1, rfl, hc3, fun H3 s3 => ⟨_, _, rfl, rfl, (by decide : (0 : Int) < 8), ?_⟩⟩
    refine ⟨_, rfl, cc, ns, 1, rfl, s3 _ _ hc3, fun H4 s4 => ⟨_, _, rfl, rfl, ⟨by decide, by decide⟩, _, rfl, l, _, rfl, .inl (SqL.of (s4 _ _ (s3 _ _ hl2))), _, _, rfl, rfl, _, _, rfl, rfl, (by rw [List.length_map]; omega), ?_⟩⟩
    obtain ⟨way, hw0, hw1⟩ : ∃ way : Nat, ns.getD 1 0 % 8 = (way : Nat) ∧ way < 8 := ⟨(ns.getD 1 0 % 8).toNat, by have := Int.emod_nonneg (ns.getD 1 0) (show (8 : Int) ≠ 0 by decide); omega, by have := Int.emod_lt_of_pos (ns.getD 1 0) (show (0 : Int) < 8 by decide); have := Int.emod_nonneg (ns.getD 1 0) (show (8 : Int) ≠ 0 by decide); omega⟩
    obtain ⟨spot, hs0, hs1⟩ : ∃ spot : Nat, ns.getD 1 0 / 8 % ((((cs.map V.int).length : Nat) : Int) + 1) = (spot : Nat) ∧ spot ≤ 27 := by
      rw [List.length_map]
      have h1 := Int.emod_nonneg (ns.getD 1 0 / 8) (show (((cs.length : Nat) : Int) + 1) ≠ 0 by omega)
      have h2 := Int.emod_lt_of_pos (ns.getD 1 0 / 8) (show (0 : Int) < ((cs.length : Nat) : Int) + 1 by omega)
      exact ⟨(ns.getD 1 0 / 8 % (((cs.length : Nat) : Int) + 1)).toNat, by omega, by omega⟩
    dsimp only [gName]
    rw [hw0, hs0]
    have hl4 := s4 _ _ (s3 _ _ hl2)
    have hc4 := s4 _ _ (s3 _ _ hc3)
    -- cut off
    refine seq_cut (J9 cc ns way spot 30 (· ≠ cc)) (fun D' hJ => ?_) ?_
    · refine ⟨_, rfl, rfl, _, rfl, ite2 (fun _ => ?_) (fun _ => hJ _ _ ⟨l, cs, none, none, rfl, hc4, nlc, hl4, by omega, hbd⟩)⟩
      refine ⟨_, rfl, _, rfl, _, rfl, l, _, rfl, SqL.of hl4, fun l2 hl2' => ?_⟩
      rw [cut_to]
      exact hJ _ _ ⟨l2, _, none, none, rfl, (by rw [upd_ne (ne_of_none hc4 hl2')]; exact hc4), (fun z => by rw [z, hc4] at hl2'; cases hl2'), upd_same, by rw [List.length_take]; omega, hbd.take⟩
    clear hl4 hc4 nlc hbd hlen hl2 hc3 s4 s3 s2 hs0
    rintro σ H5 ⟨l, cs, v4, v5, rfl, hc5, nlc, hl5, hlen, hbd⟩
    try dsimp only
    -- one cell is another
    refine seq_cut (J9 cc ns way spot 30 (fun _ => True)) (fun D' hJ => ?_) ?_
    · refine ⟨_, rfl, rfl, _, rfl, ite2 (fun _ => ?_) (fun _ => iteF (hJ _ _ ⟨l, cs, v4, v5, rfl, hc5, trivial, hl5, hlen, hbd⟩))⟩
      refine ⟨_, rfl, _, rfl, l, _, rfl, .inl (SqL.of hl5), _, _, rfl, rfl, _, rfl, ite2 (fun h2 => ?_) (fun _ => hJ _ _ ⟨l, cs, v4, v5, rfl, hc5, trivial, hl5, hlen, hbd⟩)⟩
      have h2 := of_decide_eq_true h2
      rw [List.length_map] at h2
      refine ⟨_, rfl, _, rfl, s1000 (by show 5 ≤ 1000; decide), fun p hp => ?_⟩
      have s6 : Same H5 (upd H5 p (.lst ([0, 8, 16, -1, -9].map V.int))) := (Same.refl H5).upd hp
      refine ⟨_, rfl, cc, ns, 0, rfl, s6 _ _ hc5, fun H7 s7 => ?_⟩
      have r0 := Int.emod_nonneg (ns.getD 0 0 / 9) (show (5 : Int) ≠ 0 by decide)
      have r1 := Int.emod_lt_of_pos (ns.getD 0 0 / 9) (show (0 : Int) < 5 by decide)
      obtain ⟨y, hy, hv⟩ := at_in (xs := [0, 8, 16, -1, -9]) r0 r1
      have hy : -100 ≤ y ∧ y ≤ 100 := by
        simp only [List.mem_cons, List.not_mem_nil, or_false] at hy
        omega
      refine ⟨_, _, rfl, rfl, ⟨by decide, by decide⟩, _, _, rfl, rfl, (by decide : (0 : Int) < 5), p, _, _, _, rfl, rfl, SqL.of (s7 _ _ upd_same), hv, ?_⟩
      have hl7 := (s6.trans s7) _ _ hl5
      refine ⟨_, rfl, _, rfl, l, _, _, spot, rfl, rfl, hl7, ixN_nat (by rw [List.length_map]; omega), ?_⟩
      refine hJ _ _ ⟨l, cs.set spot y, v4, v5, rfl, (by rw [upd_ne (Ne.symm nlc)]; exact (s6.trans s7) _ _ hc5), trivial, (by rw [upd_same, List.map_set]), by rw [List.length_set]; exact hlen, hbd.set hy⟩
    clear hl5 hc5 nlc hbd hlen
    rintro σ H5 ⟨l, cs, v4, v5, rfl, hc5, _, hl5, hlen, hbd⟩
    try dsimp only
    -- any small numbers
    refine seq_cut (J9 cc ns way spot 30 (fun _ => True)) (fun D' hJ => ?_) ?_
    · refine ⟨_, rfl, rfl, _, rfl, ite2 (fun _ => ?_) (fun _ => hJ _ _ ⟨l, cs, v4, v5, rfl, hc5, trivial, hl5, hlen, hbd⟩)⟩
      obtain ⟨m, hm, hm6⟩ : ∃ m : Nat, ((spot : Nat) : Int) % 6 = (m : Nat) ∧ m < 6 := ⟨spot % 6, by omega, by omega⟩
      refine ⟨_, rfl, _, _, rfl, rfl, (by decide : (0 : Int) < 6), _, _, rfl, rfl, ?_⟩
      dsimp only
      rw [hm]
      refine ⟨2, 2 + ((m : Nat) : Int), rfl, ⟨by decide, by decide, by omega, by omega⟩, ?_⟩
      rw [show (2 + ((m : Nat) : Int) - 2).toNat = m by omega]
      refine comp_pure (n := m) (item := fun i => V.int (2 + (i : Nat))) (p := fun _ => true) (f := fun i => V.int (ns.getD (2 + i) 0 % 8)) (s1000 (by omega)) (fun i H2 _ h => h) (fun H2 _ => Nat.le_refl _) (fun i H2 y H3 _ hi hy => ⟨by rw [hy.2], hy.1⟩)
        (fun i H2 _ _ Q2 k2 => k2 H2 (Same.refl H2)) (fun i H2 hi _ s2 Q2 k2 => ?_) (fun lb H3 hlb s3 hlb2 => ?_)
      · refine ⟨_, rfl, _, rfl, cc, ns, 2 + i, (by rw [show (((2 + i : Nat)) : Int) = 2 + ((i : Nat) : Int) by omega]; rfl), s2 _ _ hc5, fun H4 s4 => ⟨_, _, rfl, rfl, (by decide : (0 : Int) < 8), k2 H4 s4⟩⟩
      · refine hJ _ _ ⟨lb, (List.range m).map fun i => ns.getD (2 + i) 0 % 8, v4, v5, rfl, s3 _ _ hc5, trivial, (by rw [hlb2, List.filter_eq_self.mpr (fun _ _ => rfl), List.map_map]; rfl), by rw [List.length_map, List.length_range]; omega, fun x hx => ?_⟩
        obtain ⟨i, _, rfl⟩ := List.mem_map.mp hx
        have := mod_in (ns.getD (2 + i) 0) (show (0 : Int) < 8 by decide) (by decide)
        omega
    clear hl5 hc5 hbd hlen
    rintro σ H5 ⟨l, cs, v4, v5, rfl, hc5, _, hl5, hlen, hbd⟩
    try dsimp only
    -- one jump over twelve tells
    refine seq_cut (J9 cc ns way spot 30 (fun _ => True)) (fun D' hJ => ?_) ?_
    · refine ⟨_, rfl, rfl, _, rfl, ite2 (fun _ => ?_) (fun _ => hJ _ _ ⟨l, cs, v4, v5, rfl, hc5, trivial, hl5, hlen, hbd⟩)⟩
      refine ⟨_, rfl, cc, ns, 0, rfl, hc5, fun H6 s6 => ⟨_, _, rfl, rfl, ⟨by decide, by decide⟩, ?_⟩⟩
      dsimp only
      generalize ns.getD 0 0 / 9 = near
      have m1 := mod_in (near / 4) (show (0 : Int) < 2 by decide) (by decide)
      have m2 := mod_in near (show (0 : Int) < 4 by decide) (by decide)
      refine gi_cat (xs := [4 + 2 * (near / 4 % 2), 6 + near % 4]) (ys := List.replicate 12 2) (gi_lst (fun Qa q => ?_) (by show 2 ≤ 900; decide)) (fun H' _ => gi_rep (n := 12) (gi_lst (xs := [2]) (fun Qa q => q) (by decide)) (fun H Q2 _ q => q) (by decide)) (by simp) _ fun l6 H7 s7 h7 => ?_
      · exact ⟨_, rfl, _, _, rfl, rfl, ⟨by decide, by decide⟩, _, _, rfl, rfl, (by decide : (0 : Int) < 2), _, _, rfl, rfl, .inl ⟨by decide, by decide⟩, _, _, rfl, rfl, _, rfl, _, _, rfl, rfl, (by decide : (0 : Int) < 4), _, _, rfl, rfl, q⟩
      · exact hJ _ _ ⟨l6, _, _, v5, rfl, (s6.trans s7) _ _ hc5, trivial, h7, by simp, (Bd.cons (by omega) (Bd.one (by omega))).app (Bd.rep (by decide))⟩
    clear hl5 hc5 hbd hlen
    rintro σ H5 ⟨l, cs, v4, v5, rfl, hc5, _, hl5, hlen, hbd⟩
    try dsimp only
    -- tells, a far jump back
    refine seq_cut (J9 cc ns way spot 40 (fun _ => True)) (fun D' hJ => ?_) ?_
    · refine ⟨_, rfl, _, _, rfl, rfl, _, rfl, ite2 (fun _ => ?_) (fun _ => hJ _ _ ⟨l, cs, v4, v5, rfl, hc5, trivial, hl5, by omega, hbd⟩)⟩
      refine ⟨_, rfl, _, _, rfl, rfl, _, rfl, _, _, rfl, rfl, s1000 (by show 2 ≤ 1000; decide), fun p hp => ?_⟩
      dsimp only [gName]
      have s6 : Same H5 (upd H5 p (.lst [V.int (-1), V.int (16 - 3 - ((spot : Nat) : Int))])) := (Same.refl H5).upd hp
      have h6 : upd H5 p (.lst [V.int (-1), V.int (16 - 3 - ((spot : Nat) : Int))]) p = some (.lst ([-1, 16 - 3 - ((spot : Nat) : Int)].map V.int)) := upd_same
      generalize upd H5 p (.lst [V.int (-1), V.int (16 - 3 - ((spot : Nat) : Int))]) = H6 at s6 h6 ⊢
      refine seq_cut (fun σ' H7 => ∃ (q : Addr) (ys : List Int), σ' = [some (.ref cc), some (.ref l), some (.int (way : Nat)), some (.int (spot : Nat)), v4, some (.ref q), none, none] ∧ Same H5 H7 ∧ H7 q = some (.lst (ys.map V.int)) ∧ ys.length = 2 ∧ Bd ys) (fun D2 hJ2 => ?_) ?_
      · have first : D2.nx [some (.ref cc), some (.ref l), some (.int (way : Nat)), some (.int (spot : Nat)), v4, some (.ref p), none, none] H6 := hJ2 _ _ ⟨p, [-1, 16 - 3 - ((spot : Nat) : Int)], rfl, s6, h6, rfl, Bd.cons (by decide) (Bd.one (by omega))⟩
        refine ⟨_, rfl, rfl, _, rfl, ite2 (fun _ => ?_) (fun _ => iteF first)⟩
        refine ⟨_, rfl, cc, ns, 0, rfl, s6 _ _ hc5, fun H7 s7 => ⟨_, _, rfl, rfl, (by decide : (0 : Int) < 2), rfl, _, rfl, ite2 (fun _ => ?_) (fun _ => ?_)⟩⟩
        · refine ⟨_, rfl, _, _, rfl, rfl, _, rfl, _, _, rfl, rfl, s1000 (by show 2 ≤ 1000; decide), fun q hq => ?_⟩
          exact hJ2 _ _ ⟨q, [-2, 32 - 3 - ((spot : Nat) : Int)], rfl, (s6.trans s7).trans ((Same.refl H7).upd hq), upd_same, rfl, Bd.cons (by decide) (Bd.one (by omega))⟩
        · exact hJ2 _ _ ⟨p, [-1, 16 - 3 - ((spot : Nat) : Int)], rfl, s6.trans s7, s7 _ _ h6, rfl, Bd.cons (by decide) (Bd.one (by omega))⟩
      rintro _ H7 ⟨q, ys, rfl, s7, h7, hy2, hyb⟩
      try dsimp only
      refine gi_cat (xs := (List.replicate cs.length 2 ++ [5]) ++ ys) (ys := [3]) (gi_cat (gi_cat (gi_rep (gi_lst (xs := [2]) (fun Qa q => q) (by decide)) (fun H' Q2 s' q => ⟨_, rfl, l, _, rfl, .inl (SqL.of (s' _ _ (s7 _ _ hl5))), by rw [List.length_map]; exact q⟩) (by omega)) (fun H' _ => gi_lst (xs := [5]) (fun Qa q => q) (by decide)) (by simp; omega)) (fun H' s' => gi_var rfl (s' _ _ h7)) (by simp; omega)) (fun H' _ => gi_lst (xs := [3]) (fun Qa q => q) (by decide)) (by simp; omega) _ fun l8 H8 s8 h8 => ?_
      exact hJ _ _ ⟨l8, _, v4, _, rfl, (s7.trans s8) _ _ hc5, trivial, h8, by simp; omega, (((Bd.rep (by decide)).app (Bd.one (by decide))).app hyb).app (Bd.one (by decide))⟩
    clear hl5 hc5 hbd hlen
    rintro σ H5 ⟨l, cs, v4, v5, rfl, hc5, _, hl5, hlen, hbd⟩
    try dsimp only
    have hsm := hbd.small (by omega)
    rcases good_or cs with ⟨m, g⟩ | hb
    · refine ⟨_, rfl, l, cs, rfl, hl5, hsm, fun m' g' lp H6 _ s6 hT => ?_, fun b => (good_not g b).elim⟩
      obtain rfl := good_uniq g g'
      have hl6 := s6 _ _ hl5
      refine ⟨_, rfl, by decide, by decide, ?_⟩
      rw [show ((3 : Int)).toNat = 3 from rfl]
      refine for_rng (fun i σ H7 => ∃ v7, σ = [some (.ref cc), some (.ref l), some (.int (way : Nat)), some (.int (spot : Nat)), v4, v5, some (.ref lp), v7] ∧ Same H6 H7) ⟨_, rfl, Same.refl H6⟩ ?_ ?_
      · rintro i σ H7 hi ⟨v7, rfl, s7⟩
        refine ⟨_, rfl, _, rfl, l, _, rfl, .inl (SqL.of (s7 _ _ hl6)), fun h hh => ?_⟩
        have s8 : Same H7 (upd H7 h (.lst (cs.map V.int))) := (Same.refl H7).upd hh
        refine ⟨h, cs, i, rfl, hi, upd_same, hsm, fun _ H9 s9 => ?_, fun b => (good_not g b).elim⟩
        refine ⟨_, rfl, rfl, _, rfl, iteF' (by rfl) ?_⟩
        refine ⟨_, rfl, _, rfl, iteF' (by rfl) (iteF ?_)⟩
        exact ⟨_, rfl, (s7.trans s8).trans s9⟩
      · rintro σ H7 ⟨v7, rfl, s7⟩
        refine ⟨_, rfl, _, rfl, iteF' (by rfl) ?_⟩
        have hl7 := s7 _ _ hl6
        have hC : ∀ (Hx : Hp) (h : Addr), Hx h = some (.lst (cs.map V.int)) → CellsAt Hx h (usOf cs m) (fcOf cs m) := fun Hx h e => by unfold CellsAt; rw [cells_all g]; exact e
        have cv := cv_us g hsm
        refine ⟨_, rfl, l, _, rfl, .inl (SqL.of hl7), fun h hh => ?_⟩
        have s8 : Same H7 (upd H7 h (.lst (cs.map V.int))) := (Same.refl H7).upd hh
        refine ⟨h, _, _, rfl, hC _ h upd_same, cv, fun lr H9 _ s9 hR => ?_⟩
        refine ⟨_, rfl, _, rfl, l, _, rfl, .inl (SqL.of ((s8.trans s9) _ _ hl7)), ?_⟩
        rw [List.length_map]
        refine ⟨lp, cs, m, rfl, hT.same ((s7.trans s8).trans s9), g, hsm, fun r HA sA hRA => ?_⟩
        refine ⟨lr, r, _, rfl, hR.same sA, hRA, ?_, fun HB sB => k HB⟩
        have b1 := plP_len (us := usOf cs m) (fc := fcOf cs m) (usOf cs m).length
        have b2 := mkC_len (us := usOf cs m) (fc := fcOf cs m) (usOf cs m).length
        have b3 := bp_le g.hm
        rw [us_len] at b1 b2
        unfold backR plA
        rw [List.length_map, List.length_append, us_len]
        omega
    · refine ⟨_, rfl, l, cs, rfl, hl5, hsm, fun m' g' => (good_not g' hb).elim, fun _ H6 s6 => ?_⟩
      have hl6 := s6 _ _ hl5
      refine ⟨_, rfl, by decide, by decide, ?_⟩
      rw [show ((3 : Int)).toNat = 3 from rfl]
      refine for_rng (fun i σ H7 => ∃ v7, σ = [some (.ref cc), some (.ref l), some (.int (way : Nat)), some (.int (spot : Nat)), v4, v5, some .non, v7] ∧ Same H6 H7) ⟨_, rfl, Same.refl H6⟩ ?_ ?_
      · rintro i σ H7 hi ⟨v7, rfl, s7⟩
        refine ⟨_, rfl, _, rfl, l, _, rfl, .inl (SqL.of (s7 _ _ hl6)), fun h hh => ?_⟩
        have s8 : Same H7 (upd H7 h (.lst (cs.map V.int))) := (Same.refl H7).upd hh
        refine ⟨h, cs, i, rfl, hi, upd_same, hsm, fun ⟨m, g⟩ => (good_not g hb).elim, fun _ H9 s9 => ?_⟩
        refine ⟨_, rfl, rfl, _, rfl, iteF' (by rfl) ?_⟩
        refine ⟨_, rfl, _, rfl, iteT' (by rfl) ?_⟩
        refine ⟨_, rfl, _, rfl, l, _, rfl, .inl (SqL.of (((s7.trans s8).trans s9) _ _ hl6)), fun h2 hh2 => ?_⟩
        have sA : Same H9 (upd H9 h2 (.lst (cs.map V.int))) := (Same.refl H9).upd hh2
        refine ⟨h2, cs, i, rfl, hi, upd_same, hsm, hb, fun HB sB => ⟨_, rfl, iteF ?_⟩⟩
        exact ⟨_, rfl, (((s7.trans s8).trans s9).trans sA).trans sB⟩
      · rintro σ H7 ⟨v7, rfl, s7⟩
        exact ⟨_, rfl, _, rfl, iteT' (by rfl) (k H7)⟩
end
end SC
namespace SC
open PySem L2
section
set_option linter.unusedVariables false
theorem all_mk {l : PySem.W.OpenLaw} {w : World} {K : PySem.W.Frag} {h : Heap} {mg : Str → Option Value} {fa : Addr} (X : K.In h) (G : h.Ns mainGlobals mg) (hfa : mg "law" = some (.ref fa))
    {t_LETTERS : Tok}
    {t_FIGURES : Tok}
    {t0_LONE_WORDS t1_LONE_WORDS : Tok} {a_LONE_WORDS : Addr} {n_LONE_WORDS : Nat} {d_LONE_WORDS : Option Addr} {s_LONE_WORDS : Array (Option Value)}
    {t0_NAMED_WORDS t1_NAMED_WORDS t2_NAMED_WORDS : Tok} {a_NAMED_WORDS : Addr} {n_NAMED_WORDS : Nat} {d_NAMED_WORDS : Option Addr} {s_NAMED_WORDS : Array (Option Value)}
    {t0_LEADING_WORDS t1_LEADING_WORDS : Tok} {a_LEADING_WORDS : Addr} {n_LEADING_WORDS : Nat} {d_LEADING_WORDS : Option Addr} {s_LEADING_WORDS : Array (Option Value)}
    {t_LEAST_NEAR_GAP : Tok}
    {t_MOST_NEAR_GAP : Tok}
    {t_FAR_UNIT : Tok}
    {a_WORDS : Addr} {n_WORDS : Nat} {es_WORDS : Array DictEntry}
    {a_SIZES : Addr} {n_SIZES : Nat} {es_SIZES : Array DictEntry}
    {t0_NEAR_FIRSTS t1_NEAR_FIRSTS : Tok} {a_NEAR_FIRSTS : Addr} {n_NEAR_FIRSTS : Nat} {d_NEAR_FIRSTS : Option Addr} {s_NEAR_FIRSTS : Array (Option Value)}
    {t0_FAR_FIRSTS t1_FAR_FIRSTS : Tok} {a_FAR_FIRSTS : Addr} {n_FAR_FIRSTS : Nat} {d_FAR_FIRSTS : Option Addr} {s_FAR_FIRSTS : Array (Option Value)}
    {c_CellError : Addr}
    {c_NoRow : Addr}
    {c_TwoMarks : Addr}
    {c_NoMark : Addr}
    {c_NoCells : Addr}
    {c_NoLine : Addr}
    {f_is_name : Addr} {od_is_name an_is_name : Option Addr} {sl_is_name : Array (Option Value)} {oc_is_name kV_is_name dc_is_name pm_is_name cd_is_name ct_is_name : Value}
    {f_is_row : Addr} {od_is_row an_is_row : Option Addr} {sl_is_row : Array (Option Value)} {oc_is_row kV_is_row dc_is_row pm_is_row cd_is_row ct_is_row : Value}
    {f_leads : Addr} {od_leads an_leads : Option Addr} {sl_leads : Array (Option Value)} {oc_leads kV_leads dc_leads pm_leads cd_leads ct_leads : Value}
    {f_refuse_other_tuples : Addr} {od_refuse_other_tuples an_refuse_other_tuples : Option Addr} {sl_refuse_other_tuples : Array (Option Value)} {oc_refuse_other_tuples kV_refuse_other_tuples dc_refuse_other_tuples pm_refuse_other_tuples cd_refuse_other_tuples ct_refuse_other_tuples : Value}
    {f_mark_places : Addr} {od_mark_places an_mark_places : Option Addr} {sl_mark_places : Array (Option Value)} {oc_mark_places kV_mark_places dc_mark_places pm_mark_places cd_mark_places ct_mark_places : Value}
    {f_refuse_unmarked_names : Addr} {od_refuse_unmarked_names an_refuse_unmarked_names : Option Addr} {sl_refuse_unmarked_names : Array (Option Value)} {oc_refuse_unmarked_names kV_refuse_unmarked_names dc_refuse_unmarked_names pm_refuse_unmarked_names cd_refuse_unmarked_names ct_refuse_unmarked_names : Value}
    {f_checked_marks : Addr} {od_checked_marks an_checked_marks : Option Addr} {sl_checked_marks : Array (Option Value)} {oc_checked_marks kV_checked_marks dc_checked_marks pm_checked_marks cd_checked_marks ct_checked_marks : Value}
    {f_is_near_gap : Addr} {od_is_near_gap an_is_near_gap : Option Addr} {sl_is_near_gap : Array (Option Value)} {oc_is_near_gap kV_is_near_gap dc_is_near_gap pm_is_near_gap cd_is_near_gap ct_is_near_gap : Value}
    {f_end_at : Addr} {od_end_at an_end_at : Option Addr} {sl_end_at : Array (Option Value)} {oc_end_at kV_end_at dc_end_at pm_end_at cd_end_at ct_end_at : Value}
    {f_ends_of : Addr} {od_ends_of an_ends_of : Option Addr} {sl_ends_of : Array (Option Value)} {oc_ends_of kV_ends_of dc_ends_of pm_ends_of cd_ends_of ct_ends_of : Value}
    {f_near_gap : Addr} {od_near_gap an_near_gap : Option Addr} {sl_near_gap : Array (Option Value)} {oc_near_gap kV_near_gap dc_near_gap pm_near_gap cd_near_gap ct_near_gap : Value}
    {f_far_gap : Addr} {od_far_gap an_far_gap : Option Addr} {sl_far_gap : Array (Option Value)} {oc_far_gap kV_far_gap dc_far_gap pm_far_gap cd_far_gap ct_far_gap : Value}
    {f_goals_of : Addr} {od_goals_of an_goals_of : Option Addr} {sl_goals_of : Array (Option Value)} {oc_goals_of kV_goals_of dc_goals_of pm_goals_of cd_goals_of ct_goals_of : Value}
    {f_refuse_other_goals : Addr} {od_refuse_other_goals an_refuse_other_goals : Option Addr} {sl_refuse_other_goals : Array (Option Value)} {oc_refuse_other_goals kV_refuse_other_goals dc_refuse_other_goals pm_refuse_other_goals cd_refuse_other_goals ct_refuse_other_goals : Value}
    {f_cell_name : Addr} {od_cell_name an_cell_name : Option Addr} {sl_cell_name : Array (Option Value)} {oc_cell_name kV_cell_name dc_cell_name pm_cell_name cd_cell_name ct_cell_name : Value}
    {f_row_at : Addr} {od_row_at an_row_at : Option Addr} {sl_row_at : Array (Option Value)} {oc_row_at kV_row_at dc_row_at pm_row_at cd_row_at ct_row_at : Value}
    {f_placed_rows : Addr} {od_placed_rows an_placed_rows : Option Addr} {sl_placed_rows : Array (Option Value)} {oc_placed_rows kV_placed_rows dc_placed_rows pm_placed_rows cd_placed_rows ct_placed_rows : Value}
    {f_rows_of : Addr} {od_rows_of an_rows_of : Option Addr} {sl_rows_of : Array (Option Value)} {oc_rows_of kV_rows_of dc_rows_of pm_rows_of cd_rows_of ct_rows_of : Value}
    {f_doing_places : Addr} {od_doing_places an_doing_places : Option Addr} {sl_doing_places : Array (Option Value)} {oc_doing_places kV_doing_places dc_doing_places pm_doing_places cd_doing_places ct_doing_places : Value}
    {f_place_behind : Addr} {od_place_behind an_place_behind : Option Addr} {sl_place_behind : Array (Option Value)} {oc_place_behind kV_place_behind dc_place_behind pm_place_behind cd_place_behind ct_place_behind : Value}
    {f_walked_rows : Addr} {od_walked_rows an_walked_rows : Option Addr} {sl_walked_rows : Array (Option Value)} {oc_walked_rows kV_walked_rows dc_walked_rows pm_walked_rows cd_walked_rows ct_walked_rows : Value}
    {f_walked_cells : Addr} {od_walked_cells an_walked_cells : Option Addr} {sl_walked_cells : Array (Option Value)} {oc_walked_cells kV_walked_cells dc_walked_cells pm_walked_cells cd_walked_cells ct_walked_cells : Value}
    {f__law_at : Addr} {od__law_at an__law_at : Option Addr} {sl__law_at : Array (Option Value)} {oc__law_at kV__law_at dc__law_at pm__law_at cd__law_at ct__law_at : Value}
    {f__law_cut_up : Addr} {od__law_cut_up an__law_cut_up : Option Addr} {sl__law_cut_up : Array (Option Value)} {oc__law_cut_up kV__law_cut_up dc__law_cut_up pm__law_cut_up cd__law_cut_up ct__law_cut_up : Value}
    {f__law_rows_from : Addr} {od__law_rows_from an__law_rows_from : Option Addr} {sl__law_rows_from : Array (Option Value)} {oc__law_rows_from kV__law_rows_from dc__law_rows_from pm__law_rows_from cd__law_rows_from ct__law_rows_from : Value}
    {f__law_same_rows : Addr} {od__law_same_rows an__law_same_rows : Option Addr} {sl__law_same_rows : Array (Option Value)} {oc__law_same_rows kV__law_same_rows dc__law_same_rows pm__law_same_rows cd__law_same_rows ct__law_same_rows : Value}
    {f__law_some_cells : Addr} {od__law_some_cells an__law_some_cells : Option Addr} {sl__law_some_cells : Array (Option Value)} {oc__law_some_cells kV__law_some_cells dc__law_some_cells pm__law_some_cells cd__law_some_cells ct__law_some_cells : Value}
    {f__law_refuses : Addr} {od__law_refuses an__law_refuses : Option Addr} {sl__law_refuses : Array (Option Value)} {oc__law_refuses kV__law_refuses dc__law_refuses pm__law_refuses cd__law_refuses ct__law_refuses : Value}
    {f__law_any_refusal : Addr} {od__law_any_refusal an__law_any_refusal : Option Addr} {sl__law_any_refusal : Array (Option Value)} {oc__law_any_refusal kV__law_any_refusal dc__law_any_refusal pm__law_any_refusal cd__law_any_refusal ct__law_any_refusal : Value}
    {f_law : Addr} {od_law an_law : Option Addr} {sl_law : Array (Option Value)} {oc_law kV_law dc_law pm_law cd_law ct_law : Value}
    (e_LETTERS : PySem.W.nsIn K mainGlobals "LETTERS" = some (some (.str LETT t_LETTERS)))
    (e_FIGURES : PySem.W.nsIn K mainGlobals "FIGURES" = some (some (.str FIGS t_FIGURES)))
    (e_LONE_WORDS : PySem.W.nsIn K mainGlobals "LONE_WORDS" = some (some (.ref a_LONE_WORDS)))
    (o_LONE_WORDS : K.lookup a_LONE_WORDS = some ⟨.type "tuple", d_LONE_WORDS, .seq #[.str "tell" t0_LONE_WORDS, .str "halt" t1_LONE_WORDS] n_LONE_WORDS, s_LONE_WORDS⟩)
    (e_NAMED_WORDS : PySem.W.nsIn K mainGlobals "NAMED_WORDS" = some (some (.ref a_NAMED_WORDS)))
    (o_NAMED_WORDS : K.lookup a_NAMED_WORDS = some ⟨.type "tuple", d_NAMED_WORDS, .seq #[.str "mark" t0_NAMED_WORDS, .str "jump" t1_NAMED_WORDS, .str "when" t2_NAMED_WORDS] n_NAMED_WORDS, s_NAMED_WORDS⟩)
    (e_LEADING_WORDS : PySem.W.nsIn K mainGlobals "LEADING_WORDS" = some (some (.ref a_LEADING_WORDS)))
    (o_LEADING_WORDS : K.lookup a_LEADING_WORDS = some ⟨.type "tuple", d_LEADING_WORDS, .seq #[.str "jump" t0_LEADING_WORDS, .str "when" t1_LEADING_WORDS] n_LEADING_WORDS, s_LEADING_WORDS⟩)
    (e_LEAST_NEAR_GAP : PySem.W.nsIn K mainGlobals "LEAST_NEAR_GAP" = some (some (.int (-8) t_LEAST_NEAR_GAP)))
    (e_MOST_NEAR_GAP : PySem.W.nsIn K mainGlobals "MOST_NEAR_GAP" = some (some (.int 7 t_MOST_NEAR_GAP)))
    (e_FAR_UNIT : PySem.W.nsIn K mainGlobals "FAR_UNIT" = some (some (.int 16 t_FAR_UNIT)))
    (e_WORDS : PySem.W.nsIn K mainGlobals "WORDS" = some (some (.ref a_WORDS)))
    (o_WORDS : K.lookup a_WORDS = some ⟨.type "dict", none, .dict es_WORDS n_WORDS, #[]⟩)
    (sm_WORDS : (a_WORDS == sysModules) = false)
    (kk_WORDS : ∀ P : Program, KeysOf (mixKind P w) es_WORDS)
    (vv_WORDS : ∀ P : Program, ∀ k : Int, RelO (lookI [(1, .str "grow"), (2, .str "tell"), (3, .str "halt"), (4, .str "jump"), (5, .str "jump"), (6, .str "when"), (7, .str "when")] k) (findBy (mixKind P w).is es_WORDS (Sum.inl k : Key)))
    (e_SIZES : PySem.W.nsIn K mainGlobals "SIZES" = some (some (.ref a_SIZES)))
    (o_SIZES : K.lookup a_SIZES = some ⟨.type "dict", none, .dict es_SIZES n_SIZES, #[]⟩)
    (sm_SIZES : (a_SIZES == sysModules) = false)
    (kk_SIZES : ∀ P : Program, KeysOf (mixKind P w) es_SIZES)
    (vv_SIZES : ∀ P : Program, ∀ k : Int, RelO (lookI [(1, .int 2), (2, .int 1), (3, .int 1), (4, .int 2), (5, .int 3), (6, .int 2), (7, .int 3)] k) (findBy (mixKind P w).is es_SIZES (Sum.inl k : Key)))
    (e_NEAR_FIRSTS : PySem.W.nsIn K mainGlobals "NEAR_FIRSTS" = some (some (.ref a_NEAR_FIRSTS)))
    (o_NEAR_FIRSTS : K.lookup a_NEAR_FIRSTS = some ⟨.type "tuple", d_NEAR_FIRSTS, .seq #[.int 4 t0_NEAR_FIRSTS, .int 6 t1_NEAR_FIRSTS] n_NEAR_FIRSTS, s_NEAR_FIRSTS⟩)
    (e_FAR_FIRSTS : PySem.W.nsIn K mainGlobals "FAR_FIRSTS" = some (some (.ref a_FAR_FIRSTS)))
    (o_FAR_FIRSTS : K.lookup a_FAR_FIRSTS = some ⟨.type "tuple", d_FAR_FIRSTS, .seq #[.int 5 t0_FAR_FIRSTS, .int 7 t1_FAR_FIRSTS] n_FAR_FIRSTS, s_FAR_FIRSTS⟩)
    (z_ValueError : PySem.W.nsIn K mainGlobals "ValueError" = some none)
    (z_len : PySem.W.nsIn K mainGlobals "len" = some none)
    (z_range : PySem.W.nsIn K mainGlobals "range" = some none)
    (z_enumerate : PySem.W.nsIn K mainGlobals "enumerate" = some none)
    (z_all : PySem.W.nsIn K mainGlobals "all" = some none)
    (z_isinstance : PySem.W.nsIn K mainGlobals "isinstance" = some none)
    (z_int : PySem.W.nsIn K mainGlobals "int" = some none)
    (z_str : PySem.W.nsIn K mainGlobals "str" = some none)
    (z_bool : PySem.W.nsIn K mainGlobals "bool" = some none)
    (z_list : PySem.W.nsIn K mainGlobals "list" = some none)
    (z_tuple : PySem.W.nsIn K mainGlobals "tuple" = some none)
    (q_CellError : PySem.W.nsIn K mainGlobals "CellError" = some (some (.ref c_CellError)))
    (x_CellError : PySem.W.excIn K c_CellError [.type "ValueError", .type "Exception", .type "BaseException", .type "object"] "ValueError.__new__" = true)
    (fa_CellError : PySem.W.findIn K (.ref c_CellError) "__class__" = some (some (.builtin "object.__class__")))
    (fb_CellError : PySem.W.findIn K (.ref c_CellError) "__getattribute__" = some (some (.builtin "BaseException.__getattribute__")))
    (fc_CellError : PySem.W.findIn K (.ref c_CellError) "__getattr__" = some none)
    (q_NoRow : PySem.W.nsIn K mainGlobals "NoRow" = some (some (.ref c_NoRow)))
    (x_NoRow : PySem.W.excIn K c_NoRow [.type "ValueError", .type "Exception", .type "BaseException", .type "object"] "ValueError.__new__" = true)
    (fa_NoRow : PySem.W.findIn K (.ref c_NoRow) "__class__" = some (some (.builtin "object.__class__")))
    (fb_NoRow : PySem.W.findIn K (.ref c_NoRow) "__getattribute__" = some (some (.builtin "BaseException.__getattribute__")))
    (fc_NoRow : PySem.W.findIn K (.ref c_NoRow) "__getattr__" = some none)
    (q_TwoMarks : PySem.W.nsIn K mainGlobals "TwoMarks" = some (some (.ref c_TwoMarks)))
    (x_TwoMarks : PySem.W.excIn K c_TwoMarks [.type "ValueError", .type "Exception", .type "BaseException", .type "object"] "ValueError.__new__" = true)
    (fa_TwoMarks : PySem.W.findIn K (.ref c_TwoMarks) "__class__" = some (some (.builtin "object.__class__")))
    (fb_TwoMarks : PySem.W.findIn K (.ref c_TwoMarks) "__getattribute__" = some (some (.builtin "BaseException.__getattribute__")))
    (fc_TwoMarks : PySem.W.findIn K (.ref c_TwoMarks) "__getattr__" = some none)
    (q_NoMark : PySem.W.nsIn K mainGlobals "NoMark" = some (some (.ref c_NoMark)))
    (x_NoMark : PySem.W.excIn K c_NoMark [.type "ValueError", .type "Exception", .type "BaseException", .type "object"] "ValueError.__new__" = true)
    (fa_NoMark : PySem.W.findIn K (.ref c_NoMark) "__class__" = some (some (.builtin "object.__class__")))
    (fb_NoMark : PySem.W.findIn K (.ref c_NoMark) "__getattribute__" = some (some (.builtin "BaseException.__getattribute__")))
    (fc_NoMark : PySem.W.findIn K (.ref c_NoMark) "__getattr__" = some none)
    (q_NoCells : PySem.W.nsIn K mainGlobals "NoCells" = some (some (.ref c_NoCells)))
    (x_NoCells : PySem.W.excIn K c_NoCells [.type "ValueError", .type "Exception", .type "BaseException", .type "object"] "ValueError.__new__" = true)
    (fa_NoCells : PySem.W.findIn K (.ref c_NoCells) "__class__" = some (some (.builtin "object.__class__")))
    (fb_NoCells : PySem.W.findIn K (.ref c_NoCells) "__getattribute__" = some (some (.builtin "BaseException.__getattribute__")))
    (fc_NoCells : PySem.W.findIn K (.ref c_NoCells) "__getattr__" = some none)
    (q_NoLine : PySem.W.nsIn K mainGlobals "NoLine" = some (some (.ref c_NoLine)))
    (x_NoLine : PySem.W.excIn K c_NoLine [.type "ValueError", .type "Exception", .type "BaseException", .type "object"] "ValueError.__new__" = true)
    (fa_NoLine : PySem.W.findIn K (.ref c_NoLine) "__class__" = some (some (.builtin "object.__class__")))
    (fb_NoLine : PySem.W.findIn K (.ref c_NoLine) "__getattribute__" = some (some (.builtin "BaseException.__getattribute__")))
    (fc_NoLine : PySem.W.findIn K (.ref c_NoLine) "__getattr__" = some none)
    (u_NoCells : PySem.W.mroIn K c_NoCells (.ref c_CellError) = some true)
    (v_NoCells : PySem.W.mroIn K c_NoCells (.type "ValueError") = some true)
    (i_NoCells_NoRow : PySem.W.mroIn K c_NoCells (.ref c_NoRow) = some false)
    (j_NoCells_NoRow : (c_NoCells == c_NoRow) = false)
    (i_NoCells_TwoMarks : PySem.W.mroIn K c_NoCells (.ref c_TwoMarks) = some false)
    (j_NoCells_TwoMarks : (c_NoCells == c_TwoMarks) = false)
    (i_NoCells_NoMark : PySem.W.mroIn K c_NoCells (.ref c_NoMark) = some false)
    (j_NoCells_NoMark : (c_NoCells == c_NoMark) = false)
    (i_NoCells_NoLine : PySem.W.mroIn K c_NoCells (.ref c_NoLine) = some false)
    (j_NoCells_NoLine : (c_NoCells == c_NoLine) = false)
    (a_is_name : PySem.W.nsIn K mainGlobals "is_name" = some (some (.ref f_is_name)))
    (l_is_name : K.lookup f_is_name = some ⟨oc_is_name, od_is_name, .func (PySem.W.fnOf "is_name" "is_name" (defArgs s_is_name) (defBody s_is_name) (defScope s_is_name) .none kV_is_name dc_is_name pm_is_name an_is_name cd_is_name ct_is_name), sl_is_name⟩)
    (c_is_name : PySem.W.codeIn K cd_is_name "is_name" = true)
    (k_is_name : PySem.W.keepIn K (.ref f_is_name) = true)
    (a_is_row : PySem.W.nsIn K mainGlobals "is_row" = some (some (.ref f_is_row)))
    (l_is_row : K.lookup f_is_row = some ⟨oc_is_row, od_is_row, .func (PySem.W.fnOf "is_row" "is_row" (defArgs s_is_row) (defBody s_is_row) (defScope s_is_row) .none kV_is_row dc_is_row pm_is_row an_is_row cd_is_row ct_is_row), sl_is_row⟩)
    (c_is_row : PySem.W.codeIn K cd_is_row "is_row" = true)
    (k_is_row : PySem.W.keepIn K (.ref f_is_row) = true)
    (a_leads : PySem.W.nsIn K mainGlobals "leads" = some (some (.ref f_leads)))
    (l_leads : K.lookup f_leads = some ⟨oc_leads, od_leads, .func (PySem.W.fnOf "leads" "leads" (defArgs s_leads) (defBody s_leads) (defScope s_leads) .none kV_leads dc_leads pm_leads an_leads cd_leads ct_leads), sl_leads⟩)
    (c_leads : PySem.W.codeIn K cd_leads "leads" = true)
    (k_leads : PySem.W.keepIn K (.ref f_leads) = true)
    (a_refuse_other_tuples : PySem.W.nsIn K mainGlobals "refuse_other_tuples" = some (some (.ref f_refuse_other_tuples)))
    (l_refuse_other_tuples : K.lookup f_refuse_other_tuples = some ⟨oc_refuse_other_tuples, od_refuse_other_tuples, .func (PySem.W.fnOf "refuse_other_tuples" "refuse_other_tuples" (defArgs s_refuse_other_tuples) (defBody s_refuse_other_tuples) (defScope s_refuse_other_tuples) .none kV_refuse_other_tuples dc_refuse_other_tuples pm_refuse_other_tuples an_refuse_other_tuples cd_refuse_other_tuples ct_refuse_other_tuples), sl_refuse_other_tuples⟩)
    (c_refuse_other_tuples : PySem.W.codeIn K cd_refuse_other_tuples "refuse_other_tuples" = true)
    (k_refuse_other_tuples : PySem.W.keepIn K (.ref f_refuse_other_tuples) = true)
    (a_mark_places : PySem.W.nsIn K mainGlobals "mark_places" = some (some (.ref f_mark_places)))
    (l_mark_places : K.lookup f_mark_places = some ⟨oc_mark_places, od_mark_places, .func (PySem.W.fnOf "mark_places" "mark_places" (defArgs s_mark_places) (defBody s_mark_places) (defScope s_mark_places) .none kV_mark_places dc_mark_places pm_mark_places an_mark_places cd_mark_places ct_mark_places), sl_mark_places⟩)
    (c_mark_places : PySem.W.codeIn K cd_mark_places "mark_places" = true)
    (k_mark_places : PySem.W.keepIn K (.ref f_mark_places) = true)
    (a_refuse_unmarked_names : PySem.W.nsIn K mainGlobals "refuse_unmarked_names" = some (some (.ref f_refuse_unmarked_names)))
    (l_refuse_unmarked_names : K.lookup f_refuse_unmarked_names = some ⟨oc_refuse_unmarked_names, od_refuse_unmarked_names, .func (PySem.W.fnOf "refuse_unmarked_names" "refuse_unmarked_names" (defArgs s_refuse_unmarked_names) (defBody s_refuse_unmarked_names) (defScope s_refuse_unmarked_names) .none kV_refuse_unmarked_names dc_refuse_unmarked_names pm_refuse_unmarked_names an_refuse_unmarked_names cd_refuse_unmarked_names ct_refuse_unmarked_names), sl_refuse_unmarked_names⟩)
    (c_refuse_unmarked_names : PySem.W.codeIn K cd_refuse_unmarked_names "refuse_unmarked_names" = true)
    (k_refuse_unmarked_names : PySem.W.keepIn K (.ref f_refuse_unmarked_names) = true)
    (a_checked_marks : PySem.W.nsIn K mainGlobals "checked_marks" = some (some (.ref f_checked_marks)))
    (l_checked_marks : K.lookup f_checked_marks = some ⟨oc_checked_marks, od_checked_marks, .func (PySem.W.fnOf "checked_marks" "checked_marks" (defArgs s_checked_marks) (defBody s_checked_marks) (defScope s_checked_marks) .none kV_checked_marks dc_checked_marks pm_checked_marks an_checked_marks cd_checked_marks ct_checked_marks), sl_checked_marks⟩)
    (c_checked_marks : PySem.W.codeIn K cd_checked_marks "checked_marks" = true)
    (k_checked_marks : PySem.W.keepIn K (.ref f_checked_marks) = true)
    (a_is_near_gap : PySem.W.nsIn K mainGlobals "is_near_gap" = some (some (.ref f_is_near_gap)))
    (l_is_near_gap : K.lookup f_is_near_gap = some ⟨oc_is_near_gap, od_is_near_gap, .func (PySem.W.fnOf "is_near_gap" "is_near_gap" (defArgs s_is_near_gap) (defBody s_is_near_gap) (defScope s_is_near_gap) .none kV_is_near_gap dc_is_near_gap pm_is_near_gap an_is_near_gap cd_is_near_gap ct_is_near_gap), sl_is_near_gap⟩)
    (c_is_near_gap : PySem.W.codeIn K cd_is_near_gap "is_near_gap" = true)
    (k_is_near_gap : PySem.W.keepIn K (.ref f_is_near_gap) = true)
    (a_end_at : PySem.W.nsIn K mainGlobals "end_at" = some (some (.ref f_end_at)))
    (l_end_at : K.lookup f_end_at = some ⟨oc_end_at, od_end_at, .func (PySem.W.fnOf "end_at" "end_at" (defArgs s_end_at) (defBody s_end_at) (defScope s_end_at) .none kV_end_at dc_end_at pm_end_at an_end_at cd_end_at ct_end_at), sl_end_at⟩)
    (c_end_at : PySem.W.codeIn K cd_end_at "end_at" = true)
    (k_end_at : PySem.W.keepIn K (.ref f_end_at) = true)
    (a_ends_of : PySem.W.nsIn K mainGlobals "ends_of" = some (some (.ref f_ends_of)))
    (l_ends_of : K.lookup f_ends_of = some ⟨oc_ends_of, od_ends_of, .func (PySem.W.fnOf "ends_of" "ends_of" (defArgs s_ends_of) (defBody s_ends_of) (defScope s_ends_of) .none kV_ends_of dc_ends_of pm_ends_of an_ends_of cd_ends_of ct_ends_of), sl_ends_of⟩)
    (c_ends_of : PySem.W.codeIn K cd_ends_of "ends_of" = true)
    (k_ends_of : PySem.W.keepIn K (.ref f_ends_of) = true)
    (a_near_gap : PySem.W.nsIn K mainGlobals "near_gap" = some (some (.ref f_near_gap)))
    (l_near_gap : K.lookup f_near_gap = some ⟨oc_near_gap, od_near_gap, .func (PySem.W.fnOf "near_gap" "near_gap" (defArgs s_near_gap) (defBody s_near_gap) (defScope s_near_gap) .none kV_near_gap dc_near_gap pm_near_gap an_near_gap cd_near_gap ct_near_gap), sl_near_gap⟩)
    (c_near_gap : PySem.W.codeIn K cd_near_gap "near_gap" = true)
    (k_near_gap : PySem.W.keepIn K (.ref f_near_gap) = true)
    (a_far_gap : PySem.W.nsIn K mainGlobals "far_gap" = some (some (.ref f_far_gap)))
    (l_far_gap : K.lookup f_far_gap = some ⟨oc_far_gap, od_far_gap, .func (PySem.W.fnOf "far_gap" "far_gap" (defArgs s_far_gap) (defBody s_far_gap) (defScope s_far_gap) .none kV_far_gap dc_far_gap pm_far_gap an_far_gap cd_far_gap ct_far_gap), sl_far_gap⟩)
    (c_far_gap : PySem.W.codeIn K cd_far_gap "far_gap" = true)
    (k_far_gap : PySem.W.keepIn K (.ref f_far_gap) = true)
    (a_goals_of : PySem.W.nsIn K mainGlobals "goals_of" = some (some (.ref f_goals_of)))
    (l_goals_of : K.lookup f_goals_of = some ⟨oc_goals_of, od_goals_of, .func (PySem.W.fnOf "goals_of" "goals_of" (defArgs s_goals_of) (defBody s_goals_of) (defScope s_goals_of) .none kV_goals_of dc_goals_of pm_goals_of an_goals_of cd_goals_of ct_goals_of), sl_goals_of⟩)
    (c_goals_of : PySem.W.codeIn K cd_goals_of "goals_of" = true)
    (k_goals_of : PySem.W.keepIn K (.ref f_goals_of) = true)
    (a_refuse_other_goals : PySem.W.nsIn K mainGlobals "refuse_other_goals" = some (some (.ref f_refuse_other_goals)))
    (l_refuse_other_goals : K.lookup f_refuse_other_goals = some ⟨oc_refuse_other_goals, od_refuse_other_goals, .func (PySem.W.fnOf "refuse_other_goals" "refuse_other_goals" (defArgs s_refuse_other_goals) (defBody s_refuse_other_goals) (defScope s_refuse_other_goals) .none kV_refuse_other_goals dc_refuse_other_goals pm_refuse_other_goals an_refuse_other_goals cd_refuse_other_goals ct_refuse_other_goals), sl_refuse_other_goals⟩)
    (c_refuse_other_goals : PySem.W.codeIn K cd_refuse_other_goals "refuse_other_goals" = true)
    (k_refuse_other_goals : PySem.W.keepIn K (.ref f_refuse_other_goals) = true)
    (a_cell_name : PySem.W.nsIn K mainGlobals "cell_name" = some (some (.ref f_cell_name)))
    (l_cell_name : K.lookup f_cell_name = some ⟨oc_cell_name, od_cell_name, .func (PySem.W.fnOf "cell_name" "cell_name" (defArgs s_cell_name) (defBody s_cell_name) (defScope s_cell_name) .none kV_cell_name dc_cell_name pm_cell_name an_cell_name cd_cell_name ct_cell_name), sl_cell_name⟩)
    (c_cell_name : PySem.W.codeIn K cd_cell_name "cell_name" = true)
    (k_cell_name : PySem.W.keepIn K (.ref f_cell_name) = true)
    (a_row_at : PySem.W.nsIn K mainGlobals "row_at" = some (some (.ref f_row_at)))
    (l_row_at : K.lookup f_row_at = some ⟨oc_row_at, od_row_at, .func (PySem.W.fnOf "row_at" "row_at" (defArgs s_row_at) (defBody s_row_at) (defScope s_row_at) .none kV_row_at dc_row_at pm_row_at an_row_at cd_row_at ct_row_at), sl_row_at⟩)
    (c_row_at : PySem.W.codeIn K cd_row_at "row_at" = true)
    (k_row_at : PySem.W.keepIn K (.ref f_row_at) = true)
    (a_placed_rows : PySem.W.nsIn K mainGlobals "placed_rows" = some (some (.ref f_placed_rows)))
    (l_placed_rows : K.lookup f_placed_rows = some ⟨oc_placed_rows, od_placed_rows, .func (PySem.W.fnOf "placed_rows" "placed_rows" (defArgs s_placed_rows) (defBody s_placed_rows) (defScope s_placed_rows) .none kV_placed_rows dc_placed_rows pm_placed_rows an_placed_rows cd_placed_rows ct_placed_rows), sl_placed_rows⟩)
    (c_placed_rows : PySem.W.codeIn K cd_placed_rows "placed_rows" = true)
    (k_placed_rows : PySem.W.keepIn K (.ref f_placed_rows) = true)
    (a_rows_of : PySem.W.nsIn K mainGlobals "rows_of" = some (some (.ref f_rows_of)))
    (l_rows_of : K.lookup f_rows_of = some ⟨oc_rows_of, od_rows_of, .func (PySem.W.fnOf "rows_of" "rows_of" (defArgs s_rows_of) (defBody s_rows_of) (defScope s_rows_of) .none kV_rows_of dc_rows_of pm_rows_of an_rows_of cd_rows_of ct_rows_of), sl_rows_of⟩)
    (c_rows_of : PySem.W.codeIn K cd_rows_of "rows_of" = true)
    (k_rows_of : PySem.W.keepIn K (.ref f_rows_of) = true)
    (a_doing_places : PySem.W.nsIn K mainGlobals "doing_places" = some (some (.ref f_doing_places)))
    (l_doing_places : K.lookup f_doing_places = some ⟨oc_doing_places, od_doing_places, .func (PySem.W.fnOf "doing_places" "doing_places" (defArgs s_doing_places) (defBody s_doing_places) (defScope s_doing_places) .none kV_doing_places dc_doing_places pm_doing_places an_doing_places cd_doing_places ct_doing_places), sl_doing_places⟩)
    (c_doing_places : PySem.W.codeIn K cd_doing_places "doing_places" = true)
    (k_doing_places : PySem.W.keepIn K (.ref f_doing_places) = true)
    (a_place_behind : PySem.W.nsIn K mainGlobals "place_behind" = some (some (.ref f_place_behind)))
    (l_place_behind : K.lookup f_place_behind = some ⟨oc_place_behind, od_place_behind, .func (PySem.W.fnOf "place_behind" "place_behind" (defArgs s_place_behind) (defBody s_place_behind) (defScope s_place_behind) .none kV_place_behind dc_place_behind pm_place_behind an_place_behind cd_place_behind ct_place_behind), sl_place_behind⟩)
    (c_place_behind : PySem.W.codeIn K cd_place_behind "place_behind" = true)
    (k_place_behind : PySem.W.keepIn K (.ref f_place_behind) = true)
    (a_walked_rows : PySem.W.nsIn K mainGlobals "walked_rows" = some (some (.ref f_walked_rows)))
    (l_walked_rows : K.lookup f_walked_rows = some ⟨oc_walked_rows, od_walked_rows, .func (PySem.W.fnOf "walked_rows" "walked_rows" (defArgs s_walked_rows) (defBody s_walked_rows) (defScope s_walked_rows) .none kV_walked_rows dc_walked_rows pm_walked_rows an_walked_rows cd_walked_rows ct_walked_rows), sl_walked_rows⟩)
    (c_walked_rows : PySem.W.codeIn K cd_walked_rows "walked_rows" = true)
    (k_walked_rows : PySem.W.keepIn K (.ref f_walked_rows) = true)
    (a_walked_cells : PySem.W.nsIn K mainGlobals "walked_cells" = some (some (.ref f_walked_cells)))
    (l_walked_cells : K.lookup f_walked_cells = some ⟨oc_walked_cells, od_walked_cells, .func (PySem.W.fnOf "walked_cells" "walked_cells" (defArgs s_walked_cells) (defBody s_walked_cells) (defScope s_walked_cells) .none kV_walked_cells dc_walked_cells pm_walked_cells an_walked_cells cd_walked_cells ct_walked_cells), sl_walked_cells⟩)
    (c_walked_cells : PySem.W.codeIn K cd_walked_cells "walked_cells" = true)
    (k_walked_cells : PySem.W.keepIn K (.ref f_walked_cells) = true)
    (a__law_at : PySem.W.nsIn K mainGlobals "_law_at" = some (some (.ref f__law_at)))
    (l__law_at : K.lookup f__law_at = some ⟨oc__law_at, od__law_at, .func (PySem.W.fnOf "_law_at" "_law_at" (defArgs s__law_at) (defBody s__law_at) (defScope s__law_at) .none kV__law_at dc__law_at pm__law_at an__law_at cd__law_at ct__law_at), sl__law_at⟩)
    (c__law_at : PySem.W.codeIn K cd__law_at "_law_at" = true)
    (k__law_at : PySem.W.keepIn K (.ref f__law_at) = true)
    (a__law_cut_up : PySem.W.nsIn K mainGlobals "_law_cut_up" = some (some (.ref f__law_cut_up)))
    (l__law_cut_up : K.lookup f__law_cut_up = some ⟨oc__law_cut_up, od__law_cut_up, .func (PySem.W.fnOf "_law_cut_up" "_law_cut_up" (defArgs s__law_cut_up) (defBody s__law_cut_up) (defScope s__law_cut_up) .none kV__law_cut_up dc__law_cut_up pm__law_cut_up an__law_cut_up cd__law_cut_up ct__law_cut_up), sl__law_cut_up⟩)
    (c__law_cut_up : PySem.W.codeIn K cd__law_cut_up "_law_cut_up" = true)
    (k__law_cut_up : PySem.W.keepIn K (.ref f__law_cut_up) = true)
    (a__law_rows_from : PySem.W.nsIn K mainGlobals "_law_rows_from" = some (some (.ref f__law_rows_from)))
    (l__law_rows_from : K.lookup f__law_rows_from = some ⟨oc__law_rows_from, od__law_rows_from, .func (PySem.W.fnOf "_law_rows_from" "_law_rows_from" (defArgs s__law_rows_from) (defBody s__law_rows_from) (defScope s__law_rows_from) .none kV__law_rows_from dc__law_rows_from pm__law_rows_from an__law_rows_from cd__law_rows_from ct__law_rows_from), sl__law_rows_from⟩)
    (c__law_rows_from : PySem.W.codeIn K cd__law_rows_from "_law_rows_from" = true)
    (k__law_rows_from : PySem.W.keepIn K (.ref f__law_rows_from) = true)
    (a__law_same_rows : PySem.W.nsIn K mainGlobals "_law_same_rows" = some (some (.ref f__law_same_rows)))
    (l__law_same_rows : K.lookup f__law_same_rows = some ⟨oc__law_same_rows, od__law_same_rows, .func (PySem.W.fnOf "_law_same_rows" "_law_same_rows" (defArgs s__law_same_rows) (defBody s__law_same_rows) (defScope s__law_same_rows) .none kV__law_same_rows dc__law_same_rows pm__law_same_rows an__law_same_rows cd__law_same_rows ct__law_same_rows), sl__law_same_rows⟩)
    (c__law_same_rows : PySem.W.codeIn K cd__law_same_rows "_law_same_rows" = true)
    (k__law_same_rows : PySem.W.keepIn K (.ref f__law_same_rows) = true)
    (a__law_some_cells : PySem.W.nsIn K mainGlobals "_law_some_cells" = some (some (.ref f__law_some_cells)))
    (l__law_some_cells : K.lookup f__law_some_cells = some ⟨oc__law_some_cells, od__law_some_cells, .func (PySem.W.fnOf "_law_some_cells" "_law_some_cells" (defArgs s__law_some_cells) (defBody s__law_some_cells) (defScope s__law_some_cells) .none kV__law_some_cells dc__law_some_cells pm__law_some_cells an__law_some_cells cd__law_some_cells ct__law_some_cells), sl__law_some_cells⟩)
    (c__law_some_cells : PySem.W.codeIn K cd__law_some_cells "_law_some_cells" = true)
    (k__law_some_cells : PySem.W.keepIn K (.ref f__law_some_cells) = true)
    (a__law_refuses : PySem.W.nsIn K mainGlobals "_law_refuses" = some (some (.ref f__law_refuses)))
    (l__law_refuses : K.lookup f__law_refuses = some ⟨oc__law_refuses, od__law_refuses, .func (PySem.W.fnOf "_law_refuses" "_law_refuses" (defArgs s__law_refuses) (defBody s__law_refuses) (defScope s__law_refuses) .none kV__law_refuses dc__law_refuses pm__law_refuses an__law_refuses cd__law_refuses ct__law_refuses), sl__law_refuses⟩)
    (c__law_refuses : PySem.W.codeIn K cd__law_refuses "_law_refuses" = true)
    (k__law_refuses : PySem.W.keepIn K (.ref f__law_refuses) = true)
    (a__law_any_refusal : PySem.W.nsIn K mainGlobals "_law_any_refusal" = some (some (.ref f__law_any_refusal)))
    (l__law_any_refusal : K.lookup f__law_any_refusal = some ⟨oc__law_any_refusal, od__law_any_refusal, .func (PySem.W.fnOf "_law_any_refusal" "_law_any_refusal" (defArgs s__law_any_refusal) (defBody s__law_any_refusal) (defScope s__law_any_refusal) .none kV__law_any_refusal dc__law_any_refusal pm__law_any_refusal an__law_any_refusal cd__law_any_refusal ct__law_any_refusal), sl__law_any_refusal⟩)
    (c__law_any_refusal : PySem.W.codeIn K cd__law_any_refusal "_law_any_refusal" = true)
    (k__law_any_refusal : PySem.W.keepIn K (.ref f__law_any_refusal) = true)
    (a_law : PySem.W.nsIn K mainGlobals "law" = some (some (.ref f_law)))
    (l_law : K.lookup f_law = some ⟨oc_law, od_law, .func (PySem.W.fnOf "law" "law" (defArgs s_law) (defBody s_law) (defScope s_law) .none kV_law dc_law pm_law an_law cd_law ct_law), sl_law⟩)
    (c_law : PySem.W.codeIn K cd_law "law" = true)
    (k_law : PySem.W.keepIn K (.ref f_law) = true)
    : ∃ fd : FuncData, (∀ (s : Shared) (v : Value), BindsTo s fd ⟨[v], []⟩ [("_law_script", v)]) ∧ ∀ base : Heap, K.In base → base.Ns mainGlobals mg → FnOk l.prog w K mg base CX0 8 fa fd ["_law_script"] (spLaw K) := by
  have e := hfa.symm.trans (PySem.W.mg_of X G a_law)
  cases e
  have T : Tx l.prog w K mg := ⟨⟨_, PySem.W.mg_of X G e_LETTERS⟩,
    ⟨_, PySem.W.mg_of X G e_FIGURES⟩,
    ⟨_, PySem.W.mg_of X G e_LONE_WORDS, fun H => .inr ⟨_, _, _, o_LONE_WORDS, rfl, rfl, (by show 2 ≤ sizeLine; decide), .cons ⟨_, rfl⟩ (.cons ⟨_, rfl⟩ (.nil))⟩⟩,
    ⟨_, PySem.W.mg_of X G e_NAMED_WORDS, fun H => .inr ⟨_, _, _, o_NAMED_WORDS, rfl, rfl, (by show 3 ≤ sizeLine; decide), .cons ⟨_, rfl⟩ (.cons ⟨_, rfl⟩ (.cons ⟨_, rfl⟩ (.nil)))⟩⟩,
    ⟨_, PySem.W.mg_of X G e_LEADING_WORDS, fun H => .inr ⟨_, _, _, o_LEADING_WORDS, rfl, rfl, (by show 2 ≤ sizeLine; decide), .cons ⟨_, rfl⟩ (.cons ⟨_, rfl⟩ (.nil))⟩⟩,
    ⟨_, PySem.W.mg_of X G e_LEAST_NEAR_GAP⟩,
    ⟨_, PySem.W.mg_of X G e_MOST_NEAR_GAP⟩,
    ⟨_, PySem.W.mg_of X G e_FAR_UNIT⟩,
    ⟨_, PySem.W.mg_of X G e_WORDS, sm_WORDS, _, _, o_WORDS, kk_WORDS _, vv_WORDS _⟩,
    ⟨_, PySem.W.mg_of X G e_SIZES, sm_SIZES, _, _, o_SIZES, kk_SIZES _, vv_SIZES _⟩,
    ⟨_, PySem.W.mg_of X G e_NEAR_FIRSTS, fun H => .inr ⟨_, _, _, o_NEAR_FIRSTS, rfl, rfl, (by show 2 ≤ sizeLine; decide), .cons ⟨_, rfl⟩ (.cons ⟨_, rfl⟩ (.nil))⟩⟩,
    ⟨_, PySem.W.mg_of X G e_FAR_FIRSTS, fun H => .inr ⟨_, _, _, o_FAR_FIRSTS, rfl, rfl, (by show 2 ≤ sizeLine; decide), .cons ⟨_, rfl⟩ (.cons ⟨_, rfl⟩ (.nil))⟩⟩,
    PySem.W.mg_none_of X G z_ValueError,
    PySem.W.mg_none_of X G z_len,
    PySem.W.mg_none_of X G z_range,
    PySem.W.mg_none_of X G z_enumerate,
    PySem.W.mg_none_of X G z_all,
    PySem.W.mg_none_of X G z_isinstance,
    PySem.W.mg_none_of X G z_int,
    PySem.W.mg_none_of X G z_str,
    PySem.W.mg_none_of X G z_bool,
    PySem.W.mg_none_of X G z_list,
    PySem.W.mg_none_of X G z_tuple⟩
  have C : Tc K mg ⟨c_CellError, c_NoRow, c_TwoMarks, c_NoMark, c_NoCells, c_NoLine⟩ := ⟨PySem.W.mg_of X G q_CellError, ⟨x_CellError, fa_CellError, fb_CellError, fc_CellError⟩,
    PySem.W.mg_of X G q_NoRow, ⟨x_NoRow, fa_NoRow, fb_NoRow, fc_NoRow⟩,
    PySem.W.mg_of X G q_TwoMarks, ⟨x_TwoMarks, fa_TwoMarks, fb_TwoMarks, fc_TwoMarks⟩,
    PySem.W.mg_of X G q_NoMark, ⟨x_NoMark, fa_NoMark, fb_NoMark, fc_NoMark⟩,
    PySem.W.mg_of X G q_NoCells, ⟨x_NoCells, fa_NoCells, fb_NoCells, fc_NoCells⟩,
    PySem.W.mg_of X G q_NoLine, ⟨x_NoLine, fa_NoLine, fb_NoLine, fc_NoLine⟩,
    L2.subIn_of u_NoCells, L2.kit_ty L2.meta_VE v_NoCells,
    L2.kit_of ⟨x_NoRow, fa_NoRow, fb_NoRow, fc_NoRow⟩ i_NoCells_NoRow j_NoCells_NoRow,
    L2.kit_of ⟨x_TwoMarks, fa_TwoMarks, fb_TwoMarks, fc_TwoMarks⟩ i_NoCells_TwoMarks j_NoCells_TwoMarks,
    L2.kit_of ⟨x_NoMark, fa_NoMark, fb_NoMark, fc_NoMark⟩ i_NoCells_NoMark j_NoCells_NoMark,
    L2.kit_self,
    L2.kit_of ⟨x_NoLine, fa_NoLine, fb_NoLine, fc_NoLine⟩ i_NoCells_NoLine j_NoCells_NoLine⟩
  have F_is_name := fun_mk (st := s_is_name) l_is_name c_is_name k_is_name
  have D_is_name : Def K mg "is_name" s_is_name ["text"] := ⟨_, _, F_is_name, F_is_name.binds (ps := ["text"]) fun _ _ _ _ _ _ us hl => (by obtain ⟨_, rfl⟩ := us1 hl; rfl), PySem.W.mg_of X G a_is_name⟩
  have F_is_row := fun_mk (st := s_is_row) l_is_row c_is_row k_is_row
  have D_is_row : Def K mg "is_row" s_is_row ["row"] := ⟨_, _, F_is_row, F_is_row.binds (ps := ["row"]) fun _ _ _ _ _ _ us hl => (by obtain ⟨_, rfl⟩ := us1 hl; rfl), PySem.W.mg_of X G a_is_row⟩
  have F_leads := fun_mk (st := s_leads) l_leads c_leads k_leads
  have D_leads : Def K mg "leads" s_leads ["row"] := ⟨_, _, F_leads, F_leads.binds (ps := ["row"]) fun _ _ _ _ _ _ us hl => (by obtain ⟨_, rfl⟩ := us1 hl; rfl), PySem.W.mg_of X G a_leads⟩
  have F_refuse_other_tuples := fun_mk (st := s_refuse_other_tuples) l_refuse_other_tuples c_refuse_other_tuples k_refuse_other_tuples
  have D_refuse_other_tuples : Def K mg "refuse_other_tuples" s_refuse_other_tuples ["rows"] := ⟨_, _, F_refuse_other_tuples, F_refuse_other_tuples.binds (ps := ["rows"]) fun _ _ _ _ _ _ us hl => (by obtain ⟨_, rfl⟩ := us1 hl; rfl), PySem.W.mg_of X G a_refuse_other_tuples⟩
  have F_mark_places := fun_mk (st := s_mark_places) l_mark_places c_mark_places k_mark_places
  have D_mark_places : Def K mg "mark_places" s_mark_places ["rows"] := ⟨_, _, F_mark_places, F_mark_places.binds (ps := ["rows"]) fun _ _ _ _ _ _ us hl => (by obtain ⟨_, rfl⟩ := us1 hl; rfl), PySem.W.mg_of X G a_mark_places⟩
  have F_refuse_unmarked_names := fun_mk (st := s_refuse_unmarked_names) l_refuse_unmarked_names c_refuse_unmarked_names k_refuse_unmarked_names
  have D_refuse_unmarked_names : Def K mg "refuse_unmarked_names" s_refuse_unmarked_names ["rows", "places"] := ⟨_, _, F_refuse_unmarked_names, F_refuse_unmarked_names.binds (ps := ["rows", "places"]) fun _ _ _ _ _ _ us hl => (by obtain ⟨_, _, rfl⟩ := us2 hl; rfl), PySem.W.mg_of X G a_refuse_unmarked_names⟩
  have F_checked_marks := fun_mk (st := s_checked_marks) l_checked_marks c_checked_marks k_checked_marks
  have D_checked_marks : Def K mg "checked_marks" s_checked_marks ["rows"] := ⟨_, _, F_checked_marks, F_checked_marks.binds (ps := ["rows"]) fun _ _ _ _ _ _ us hl => (by obtain ⟨_, rfl⟩ := us1 hl; rfl), PySem.W.mg_of X G a_checked_marks⟩
  have F_is_near_gap := fun_mk (st := s_is_near_gap) l_is_near_gap c_is_near_gap k_is_near_gap
  have D_is_near_gap : Def K mg "is_near_gap" s_is_near_gap ["gap"] := ⟨_, _, F_is_near_gap, F_is_near_gap.binds (ps := ["gap"]) fun _ _ _ _ _ _ us hl => (by obtain ⟨_, rfl⟩ := us1 hl; rfl), PySem.W.mg_of X G a_is_near_gap⟩
  have F_end_at := fun_mk (st := s_end_at) l_end_at c_end_at k_end_at
  have D_end_at : Def K mg "end_at" s_end_at ["cells", "cell"] := ⟨_, _, F_end_at, F_end_at.binds (ps := ["cells", "cell"]) fun _ _ _ _ _ _ us hl => (by obtain ⟨_, _, rfl⟩ := us2 hl; rfl), PySem.W.mg_of X G a_end_at⟩
  have F_ends_of := fun_mk (st := s_ends_of) l_ends_of c_ends_of k_ends_of
  have D_ends_of : Def K mg "ends_of" s_ends_of ["cells"] := ⟨_, _, F_ends_of, F_ends_of.binds (ps := ["cells"]) fun _ _ _ _ _ _ us hl => (by obtain ⟨_, rfl⟩ := us1 hl; rfl), PySem.W.mg_of X G a_ends_of⟩
  have F_near_gap := fun_mk (st := s_near_gap) l_near_gap c_near_gap k_near_gap
  have D_near_gap : Def K mg "near_gap" s_near_gap ["cells", "cell"] := ⟨_, _, F_near_gap, F_near_gap.binds (ps := ["cells", "cell"]) fun _ _ _ _ _ _ us hl => (by obtain ⟨_, _, rfl⟩ := us2 hl; rfl), PySem.W.mg_of X G a_near_gap⟩
  have F_far_gap := fun_mk (st := s_far_gap) l_far_gap c_far_gap k_far_gap
  have D_far_gap : Def K mg "far_gap" s_far_gap ["cells", "cell"] := ⟨_, _, F_far_gap, F_far_gap.binds (ps := ["cells", "cell"]) fun _ _ _ _ _ _ us hl => (by obtain ⟨_, _, rfl⟩ := us2 hl; rfl), PySem.W.mg_of X G a_far_gap⟩
  have F_goals_of := fun_mk (st := s_goals_of) l_goals_of c_goals_of k_goals_of
  have D_goals_of : Def K mg "goals_of" s_goals_of ["cells", "ends"] := ⟨_, _, F_goals_of, F_goals_of.binds (ps := ["cells", "ends"]) fun _ _ _ _ _ _ us hl => (by obtain ⟨_, _, rfl⟩ := us2 hl; rfl), PySem.W.mg_of X G a_goals_of⟩
  have F_refuse_other_goals := fun_mk (st := s_refuse_other_goals) l_refuse_other_goals c_refuse_other_goals k_refuse_other_goals
  have D_refuse_other_goals : Def K mg "refuse_other_goals" s_refuse_other_goals ["cells", "ends", "goals"] := ⟨_, _, F_refuse_other_goals, F_refuse_other_goals.binds (ps := ["cells", "ends", "goals"]) fun _ _ _ _ _ _ us hl => (by obtain ⟨_, _, _, rfl⟩ := us3 hl; rfl), PySem.W.mg_of X G a_refuse_other_goals⟩
  have F_cell_name := fun_mk (st := s_cell_name) l_cell_name c_cell_name k_cell_name
  have D_cell_name : Def K mg "cell_name" s_cell_name ["cell"] := ⟨_, _, F_cell_name, F_cell_name.binds (ps := ["cell"]) fun _ _ _ _ _ _ us hl => (by obtain ⟨_, rfl⟩ := us1 hl; rfl), PySem.W.mg_of X G a_cell_name⟩
  have F_row_at := fun_mk (st := s_row_at) l_row_at c_row_at k_row_at
  have D_row_at : Def K mg "row_at" s_row_at ["cells", "goals", "cell"] := ⟨_, _, F_row_at, F_row_at.binds (ps := ["cells", "goals", "cell"]) fun _ _ _ _ _ _ us hl => (by obtain ⟨_, _, _, rfl⟩ := us3 hl; rfl), PySem.W.mg_of X G a_row_at⟩
  have F_placed_rows := fun_mk (st := s_placed_rows) l_placed_rows c_placed_rows k_placed_rows
  have D_placed_rows : Def K mg "placed_rows" s_placed_rows ["cells"] := ⟨_, _, F_placed_rows, F_placed_rows.binds (ps := ["cells"]) fun _ _ _ _ _ _ us hl => (by obtain ⟨_, rfl⟩ := us1 hl; rfl), PySem.W.mg_of X G a_placed_rows⟩
  have F_rows_of := fun_mk (st := s_rows_of) l_rows_of c_rows_of k_rows_of
  have D_rows_of : Def K mg "rows_of" s_rows_of ["cells"] := ⟨_, _, F_rows_of, F_rows_of.binds (ps := ["cells"]) fun _ _ _ _ _ _ us hl => (by obtain ⟨_, rfl⟩ := us1 hl; rfl), PySem.W.mg_of X G a_rows_of⟩
  have F_doing_places := fun_mk (st := s_doing_places) l_doing_places c_doing_places k_doing_places
  have D_doing_places : Def K mg "doing_places" s_doing_places ["rows"] := ⟨_, _, F_doing_places, F_doing_places.binds (ps := ["rows"]) fun _ _ _ _ _ _ us hl => (by obtain ⟨_, rfl⟩ := us1 hl; rfl), PySem.W.mg_of X G a_doing_places⟩
  have F_place_behind := fun_mk (st := s_place_behind) l_place_behind c_place_behind k_place_behind
  have D_place_behind : Def K mg "place_behind" s_place_behind ["rows", "marks", "place", "number"] := ⟨_, _, F_place_behind, F_place_behind.binds (ps := ["rows", "marks", "place", "number"]) fun _ _ _ _ _ _ us hl => (by obtain ⟨_, _, _, _, rfl⟩ := us4 hl; rfl), PySem.W.mg_of X G a_place_behind⟩
  have F_walked_rows := fun_mk (st := s_walked_rows) l_walked_rows c_walked_rows k_walked_rows
  have D_walked_rows : Def K mg "walked_rows" s_walked_rows ["rows", "number", "steps"] := ⟨_, _, F_walked_rows, F_walked_rows.binds (ps := ["rows", "number", "steps"]) fun _ _ _ _ _ _ us hl => (by obtain ⟨_, _, _, rfl⟩ := us3 hl; rfl), PySem.W.mg_of X G a_walked_rows⟩
  have F_walked_cells := fun_mk (st := s_walked_cells) l_walked_cells c_walked_cells k_walked_cells
  have D_walked_cells : Def K mg "walked_cells" s_walked_cells ["cells", "number", "steps"] := ⟨_, _, F_walked_cells, F_walked_cells.binds (ps := ["cells", "number", "steps"]) fun _ _ _ _ _ _ us hl => (by obtain ⟨_, _, _, rfl⟩ := us3 hl; rfl), PySem.W.mg_of X G a_walked_cells⟩
  have F__law_at := fun_mk (st := s__law_at) l__law_at c__law_at k__law_at
  have D__law_at : Def K mg "_law_at" s__law_at ["_law_script", "_law_k"] := ⟨_, _, F__law_at, F__law_at.binds (ps := ["_law_script", "_law_k"]) fun _ _ _ _ _ _ us hl => (by obtain ⟨_, _, rfl⟩ := us2 hl; rfl), PySem.W.mg_of X G a__law_at⟩
  have F__law_cut_up := fun_mk (st := s__law_cut_up) l__law_cut_up c__law_cut_up k__law_cut_up
  have D__law_cut_up : Def K mg "_law_cut_up" s__law_cut_up ["_law_cells"] := ⟨_, _, F__law_cut_up, F__law_cut_up.binds (ps := ["_law_cells"]) fun _ _ _ _ _ _ us hl => (by obtain ⟨_, rfl⟩ := us1 hl; rfl), PySem.W.mg_of X G a__law_cut_up⟩
  have F__law_rows_from := fun_mk (st := s__law_rows_from) l__law_rows_from c__law_rows_from k__law_rows_from
  have D__law_rows_from : Def K mg "_law_rows_from" s__law_rows_from ["_law_parts", "_law_size"] := ⟨_, _, F__law_rows_from, F__law_rows_from.binds (ps := ["_law_parts", "_law_size"]) fun _ _ _ _ _ _ us hl => (by obtain ⟨_, _, rfl⟩ := us2 hl; rfl), PySem.W.mg_of X G a__law_rows_from⟩
  have F__law_same_rows := fun_mk (st := s__law_same_rows) l__law_same_rows c__law_same_rows k__law_same_rows
  have D__law_same_rows : Def K mg "_law_same_rows" s__law_same_rows ["_law_found", "_law_rows"] := ⟨_, _, F__law_same_rows, F__law_same_rows.binds (ps := ["_law_found", "_law_rows"]) fun _ _ _ _ _ _ us hl => (by obtain ⟨_, _, rfl⟩ := us2 hl; rfl), PySem.W.mg_of X G a__law_same_rows⟩
  have F__law_some_cells := fun_mk (st := s__law_some_cells) l__law_some_cells c__law_some_cells k__law_some_cells
  have D__law_some_cells : Def K mg "_law_some_cells" s__law_some_cells ["_law_cells"] := ⟨_, _, F__law_some_cells, F__law_some_cells.binds (ps := ["_law_cells"]) fun _ _ _ _ _ _ us hl => (by obtain ⟨_, rfl⟩ := us1 hl; rfl), PySem.W.mg_of X G a__law_some_cells⟩
  have F__law_refuses := fun_mk (st := s__law_refuses) l__law_refuses c__law_refuses k__law_refuses
  have D__law_refuses : Def K mg "_law_refuses" s__law_refuses ["_law_way", "_law_cells"] := ⟨_, _, F__law_refuses, F__law_refuses.binds (ps := ["_law_way", "_law_cells"]) fun _ _ _ _ _ _ us hl => (by obtain ⟨_, _, rfl⟩ := us2 hl; rfl), PySem.W.mg_of X G a__law_refuses⟩
  have F__law_any_refusal := fun_mk (st := s__law_any_refusal) l__law_any_refusal c__law_any_refusal k__law_any_refusal
  have D__law_any_refusal : Def K mg "_law_any_refusal" s__law_any_refusal ["_law_way", "_law_cells"] := ⟨_, _, F__law_any_refusal, F__law_any_refusal.binds (ps := ["_law_way", "_law_cells"]) fun _ _ _ _ _ _ us hl => (by obtain ⟨_, _, rfl⟩ := us2 hl; rfl), PySem.W.mg_of X G a__law_any_refusal⟩
  have F_law := fun_mk (st := s_law) l_law c_law k_law
  have D_law : Def K mg "law" s_law ["_law_script"] := ⟨_, _, F_law, F_law.binds (ps := ["_law_script"]) fun _ _ _ _ _ _ us hl => (by obtain ⟨_, rfl⟩ := us1 hl; rfl), PySem.W.mg_of X G a_law⟩
  refine ⟨PySem.W.fnOf "law" "law" (defArgs s_law) (defBody s_law) (defScope s_law) .none kV_law dc_law pm_law an_law cd_law ct_law, fun s v => .of_eq rfl, fun base _ _ => ?_⟩
  have h_is_name := ok_is_name (P := l.prog) (w := w) (base := base) D_is_name T 
  have h_is_row := ok_is_row (P := l.prog) (w := w) (base := base) D_is_row T (h_is_name := h_is_name)
  have h_leads := ok_leads (P := l.prog) (w := w) (base := base) D_leads T 
  have h_refuse_other_tuples := ok_refuse_other_tuples (P := l.prog) (w := w) (base := base) D_refuse_other_tuples T (h_is_row := h_is_row)
  have h_mark_places := ok_mark_places (P := l.prog) (w := w) (base := base) D_mark_places T 
  have h_refuse_unmarked_names := ok_refuse_unmarked_names (P := l.prog) (w := w) (base := base) D_refuse_unmarked_names T (h_leads := h_leads)
  have h_checked_marks := ok_checked_marks (P := l.prog) (w := w) (base := base) D_checked_marks T (h_refuse_other_tuples := h_refuse_other_tuples) (h_mark_places := h_mark_places) (h_refuse_unmarked_names := h_refuse_unmarked_names)
  have h_is_near_gap := ok_is_near_gap (P := l.prog) (w := w) (base := base) D_is_near_gap T 
  have h_end_at := ok_end_at (P := l.prog) (w := w) (base := base) D_end_at T 
  have n_end_at := no_end_at (P := l.prog) (w := w) (base := base) D_end_at T C 
  have h_ends_of := ok_ends_of (P := l.prog) (w := w) (base := base) D_ends_of T (h_end_at := h_end_at)
  have n_ends_of := no_ends_of (P := l.prog) (w := w) (base := base) D_ends_of T C (h_end_at := h_end_at) (n_end_at := n_end_at)
  have h_near_gap := ok_near_gap (P := l.prog) (w := w) (base := base) D_near_gap T (h_is_near_gap := h_is_near_gap)
  have n_near_gap := no_near_gap (P := l.prog) (w := w) (base := base) D_near_gap T C (h_is_near_gap := h_is_near_gap)
  have h_far_gap := ok_far_gap (P := l.prog) (w := w) (base := base) D_far_gap T 
  have n_far_gap := no_far_gap (P := l.prog) (w := w) (base := base) D_far_gap T C 
  have h_goals_of := ok_goals_of (P := l.prog) (w := w) (base := base) D_goals_of T (h_near_gap := h_near_gap) (h_far_gap := h_far_gap)
  have n_goals_of := no_goals_of (P := l.prog) (w := w) (base := base) D_goals_of T C (h_near_gap := h_near_gap) (h_far_gap := h_far_gap) (n_near_gap := n_near_gap) (n_far_gap := n_far_gap)
  have h_refuse_other_goals := ok_refuse_other_goals (P := l.prog) (w := w) (base := base) D_refuse_other_goals T 
  have n_refuse_other_goals := no_refuse_other_goals (P := l.prog) (w := w) (base := base) D_refuse_other_goals T C 
  have h_cell_name := ok_cell_name (P := l.prog) (w := w) (base := base) D_cell_name T 
  have h_row_at := ok_row_at (P := l.prog) (w := w) (base := base) D_row_at T (h_cell_name := h_cell_name)
  have h_placed_rows := ok_placed_rows (P := l.prog) (w := w) (base := base) D_placed_rows T (h_ends_of := h_ends_of) (h_goals_of := h_goals_of) (h_refuse_other_goals := h_refuse_other_goals) (h_cell_name := h_cell_name) (h_row_at := h_row_at)
  have n_placed_rows := no_placed_rows (P := l.prog) (w := w) (base := base) D_placed_rows T C (h_ends_of := h_ends_of) (h_goals_of := h_goals_of) (h_refuse_other_goals := h_refuse_other_goals) (h_cell_name := h_cell_name) (h_row_at := h_row_at) (n_ends_of := n_ends_of) (n_goals_of := n_goals_of) (n_refuse_other_goals := n_refuse_other_goals)
  have h_rows_of := ok_rows_of (P := l.prog) (w := w) (base := base) D_rows_of T (h_placed_rows := h_placed_rows)
  have n_rows_of := no_rows_of (P := l.prog) (w := w) (base := base) D_rows_of T C (h_placed_rows := h_placed_rows) (n_placed_rows := n_placed_rows)
  have h_doing_places := ok_doing_places (P := l.prog) (w := w) (base := base) D_doing_places T 
  have h_place_behind := ok_place_behind (P := l.prog) (w := w) (base := base) D_place_behind T 
  have h_walked_rows := ok_walked_rows (P := l.prog) (w := w) (base := base) D_walked_rows T (h_checked_marks := h_checked_marks) (h_doing_places := h_doing_places) (h_place_behind := h_place_behind)
  have h_walked_cells := ok_walked_cells (P := l.prog) (w := w) (base := base) D_walked_cells T (h_placed_rows := h_placed_rows) (h_walked_rows := h_walked_rows)
  have n_walked_cells := no_walked_cells (P := l.prog) (w := w) (base := base) D_walked_cells T C (h_placed_rows := h_placed_rows) (h_walked_rows := h_walked_rows) (n_placed_rows := n_placed_rows)
  have h__law_at := ok__law_at (P := l.prog) (w := w) (base := base) D__law_at T 
  have h__law_cut_up := ok__law_cut_up (P := l.prog) (w := w) (base := base) D__law_cut_up T 
  have h__law_rows_from := ok__law_rows_from (P := l.prog) (w := w) (base := base) D__law_rows_from T 
  have h__law_same_rows := ok__law_same_rows (P := l.prog) (w := w) (base := base) D__law_same_rows T 
  have h__law_some_cells := ok__law_some_cells (P := l.prog) (w := w) (base := base) D__law_some_cells T 
  have h__law_refuses := ok__law_refuses (P := l.prog) (w := w) (base := base) D__law_refuses T C (h_rows_of := h_rows_of) (h_walked_cells := h_walked_cells) (n_rows_of := n_rows_of) (n_walked_cells := n_walked_cells)
  have h__law_any_refusal := ok__law_any_refusal (P := l.prog) (w := w) (base := base) D__law_any_refusal T C (h_rows_of := h_rows_of) (h_walked_cells := h_walked_cells) (n_rows_of := n_rows_of) (n_walked_cells := n_walked_cells)
  exact ok_law F_law T (h_rows_of := h_rows_of) (h__law_at := h__law_at) (h__law_cut_up := h__law_cut_up) (h__law_rows_from := h__law_rows_from) (h__law_same_rows := h__law_same_rows) (h__law_some_cells := h__law_some_cells) (h__law_refuses := h__law_refuses) (h__law_any_refusal := h__law_any_refusal)
end
theorem walk {l : PySem.W.OpenLaw} {q : Program} {loose : List Str} {XP : (Str → Option Value) → Heap → Prop} {YP : World → Heap → Prop} {d : DefRec} {K : Params → PySem.W.Frag} (hn : l.most = some 63) (hdf : d.params.defaults = [])
    (hY : ∀ (w : World) (h : Heap), YP w h → (K w.params).In h)
    (F : ∀ (w : World) (mg : Str → Option Value) (fa : Addr) (h : Heap), (K w.params).In h → h.Ns mainGlobals mg → mg d.name = some (.ref fa) →
      ∃ fd : FuncData, (∀ (s : Shared) (u : Value), BindsTo s fd ⟨[u], []⟩ [("_law_script", u)]) ∧ ∀ base : Heap, (K w.params).In base → base.Ns mainGlobals mg → FnOk l.prog w (K w.params) mg base CX0 8 fa fd ["_law_script"] (spLaw (K w.params))) :
    PySem.W.WalkO q loose XP YP l.row.toRowW d [] (fun f vs => PySem.call f vs) :=
  L2.walk_of (n := 63) (k := 8) (x := "_law_script") (CX := fun _ => CX0) (sp := fun w => spLaw (K w.params)) hn (by decide) hdf ⟨rfl, by decide, by decide⟩ hY F (fun _ _ a ns hl _ hS => ⟨a, ns, rfl, hS, hl, fun _ => rfl⟩) fun _ _ _ _ _ z => z
end SC
open PySem PySem.W PyProof.Rows
set_option maxRecDepth 100000 in
set_option maxHeartbeats 0 in
theorem PySem.Challenge.cw_stepcells_k09_whole_cells_read_or_refuse_holds : PySem.Challenge.rw_stepcells_k09_whole_cells_read_or_refuse.Holds := by
  w_on; o_law; k_head; (case hw => w_witness2)
  k_fill
  refine SC.walk (l := PySem.Challenge.rw_stepcells_k09_whole_cells_read_or_refuse) rfl rfl (fun w h Y => PySem.W.kIn_of Y) ?F
  case F =>
    intro w mg fa h KX G hmg
    refine' SC.all_mk KX G hmg ?e_LETTERS ?e_FIGURES ?e_LONE_WORDS ?o_LONE_WORDS ?e_NAMED_WORDS ?o_NAMED_WORDS ?e_LEADING_WORDS ?o_LEADING_WORDS ?e_LEAST_NEAR_GAP ?e_MOST_NEAR_GAP ?e_FAR_UNIT ?e_WORDS ?o_WORDS ?sm_WORDS ?kk_WORDS ?vv_WORDS ?e_SIZES ?o_SIZES ?sm_SIZES ?kk_SIZES ?vv_SIZES ?e_NEAR_FIRSTS ?o_NEAR_FIRSTS ?e_FAR_FIRSTS ?o_FAR_FIRSTS ?z_ValueError ?z_len ?z_range ?z_enumerate ?z_all ?z_isinstance ?z_int ?z_str ?z_bool ?z_list ?z_tuple ?q_CellError ?x_CellError ?fa_CellError ?fb_CellError ?fc_CellError ?q_NoRow ?x_NoRow ?fa_NoRow ?fb_NoRow ?fc_NoRow ?q_TwoMarks ?x_TwoMarks ?fa_TwoMarks ?fb_TwoMarks ?fc_TwoMarks ?q_NoMark ?x_NoMark ?fa_NoMark ?fb_NoMark ?fc_NoMark ?q_NoCells ?x_NoCells ?fa_NoCells ?fb_NoCells ?fc_NoCells ?q_NoLine ?x_NoLine ?fa_NoLine ?fb_NoLine ?fc_NoLine ?u_NoCells ?v_NoCells ?i_NoCells_NoRow ?j_NoCells_NoRow ?i_NoCells_TwoMarks ?j_NoCells_TwoMarks ?i_NoCells_NoMark ?j_NoCells_NoMark ?i_NoCells_NoLine ?j_NoCells_NoLine ?a_is_name ?l_is_name ?c_is_name ?k_is_name ?a_is_row ?l_is_row ?c_is_row ?k_is_row ?a_leads ?l_leads ?c_leads ?k_leads ?a_refuse_other_tuples ?l_refuse_other_tuples ?c_refuse_other_tuples ?k_refuse_other_tuples ?a_mark_places ?l_mark_places ?c_mark_places ?k_mark_places ?a_refuse_unmarked_names ?l_refuse_unmarked_names ?c_refuse_unmarked_names ?k_refuse_unmarked_names ?a_checked_marks ?l_checked_marks ?c_checked_marks ?k_checked_marks ?a_is_near_gap ?l_is_near_gap ?c_is_near_gap ?k_is_near_gap ?a_end_at ?l_end_at ?c_end_at ?k_end_at ?a_ends_of ?l_ends_of ?c_ends_of ?k_ends_of ?a_near_gap ?l_near_gap ?c_near_gap ?k_near_gap ?a_far_gap ?l_far_gap ?c_far_gap ?k_far_gap ?a_goals_of ?l_goals_of ?c_goals_of ?k_goals_of ?a_refuse_other_goals ?l_refuse_other_goals ?c_refuse_other_goals ?k_refuse_other_goals ?a_cell_name ?l_cell_name ?c_cell_name ?k_cell_name ?a_row_at ?l_row_at ?c_row_at ?k_row_at ?a_placed_rows ?l_placed_rows ?c_placed_rows ?k_placed_rows ?a_rows_of ?l_rows_of ?c_rows_of ?k_rows_of ?a_doing_places ?l_doing_places ?c_doing_places ?k_doing_places ?a_place_behind ?l_place_behind ?c_place_behind ?k_place_behind ?a_walked_rows ?l_walked_rows ?c_walked_rows ?k_walked_rows ?a_walked_cells ?l_walked_cells ?c_walked_cells ?k_walked_cells ?a__law_at ?l__law_at ?c__law_at ?k__law_at ?a__law_cut_up ?l__law_cut_up ?c__law_cut_up ?k__law_cut_up ?a__law_rows_from ?l__law_rows_from ?c__law_rows_from ?k__law_rows_from ?a__law_same_rows ?l__law_same_rows ?c__law_same_rows ?k__law_same_rows ?a__law_some_cells ?l__law_some_cells ?c__law_some_cells ?k__law_some_cells ?a__law_refuses ?l__law_refuses ?c__law_refuses ?k__law_refuses ?a__law_any_refusal ?l__law_any_refusal ?c__law_any_refusal ?k__law_any_refusal ?a_law ?l_law ?c_law ?k_law
    (case e_LETTERS => k_is)
    (case e_FIGURES => k_is)
    (case e_LONE_WORDS => k_is)
    (case o_LONE_WORDS => k_is)
    (case e_NAMED_WORDS => k_is)
    (case o_NAMED_WORDS => k_is)
    (case e_LEADING_WORDS => k_is)
    (case o_LEADING_WORDS => k_is)
    (case e_LEAST_NEAR_GAP => k_is)
    (case e_MOST_NEAR_GAP => k_is)
    (case e_FAR_UNIT => k_is)
    (case e_WORDS => k_is)
    (case o_WORDS => k_is)
    (case sm_WORDS => first | rfl | decide)
    (case kk_WORDS => intro P e he; (simp only [List.mem_toArray, List.mem_cons, List.not_mem_nil, or_false] at he); (rcases he with rfl | rfl | rfl | rfl | rfl | rfl | rfl) <;> exact ⟨Sum.inl _, L2.mixKind_int P w _ _, rfl⟩)
    (case vv_WORDS => intro P; exact SC.tabI_of (.cons ⟨⟨_, rfl⟩, ⟨_, rfl⟩⟩ (.cons ⟨⟨_, rfl⟩, ⟨_, rfl⟩⟩ (.cons ⟨⟨_, rfl⟩, ⟨_, rfl⟩⟩ (.cons ⟨⟨_, rfl⟩, ⟨_, rfl⟩⟩ (.cons ⟨⟨_, rfl⟩, ⟨_, rfl⟩⟩ (.cons ⟨⟨_, rfl⟩, ⟨_, rfl⟩⟩ (.cons ⟨⟨_, rfl⟩, ⟨_, rfl⟩⟩ (.nil)))))))))
    (case e_SIZES => k_is)
    (case o_SIZES => k_is)
    (case sm_SIZES => first | rfl | decide)
    (case kk_SIZES => intro P e he; (simp only [List.mem_toArray, List.mem_cons, List.not_mem_nil, or_false] at he); (rcases he with rfl | rfl | rfl | rfl | rfl | rfl | rfl) <;> exact ⟨Sum.inl _, L2.mixKind_int P w _ _, rfl⟩)
    (case vv_SIZES => intro P; exact SC.tabI_of (.cons ⟨⟨_, rfl⟩, ⟨_, rfl⟩⟩ (.cons ⟨⟨_, rfl⟩, ⟨_, rfl⟩⟩ (.cons ⟨⟨_, rfl⟩, ⟨_, rfl⟩⟩ (.cons ⟨⟨_, rfl⟩, ⟨_, rfl⟩⟩ (.cons ⟨⟨_, rfl⟩, ⟨_, rfl⟩⟩ (.cons ⟨⟨_, rfl⟩, ⟨_, rfl⟩⟩ (.cons ⟨⟨_, rfl⟩, ⟨_, rfl⟩⟩ (.nil)))))))))
    (case e_NEAR_FIRSTS => k_is)
    (case o_NEAR_FIRSTS => k_is)
    (case e_FAR_FIRSTS => k_is)
    (case o_FAR_FIRSTS => k_is)
    (case z_ValueError => k_is)
    (case z_len => k_is)
    (case z_range => k_is)
    (case z_enumerate => k_is)
    (case z_all => k_is)
    (case z_isinstance => k_is)
    (case z_int => k_is)
    (case z_str => k_is)
    (case z_bool => k_is)
    (case z_list => k_is)
    (case z_tuple => k_is)
    (case q_CellError => k_is)
    (case x_CellError => k_exc)
    (case fa_CellError => k_is)
    (case fb_CellError => k_is)
    (case fc_CellError => k_is)
    (case q_NoRow => k_is)
    (case x_NoRow => k_exc)
    (case fa_NoRow => k_is)
    (case fb_NoRow => k_is)
    (case fc_NoRow => k_is)
    (case q_TwoMarks => k_is)
    (case x_TwoMarks => k_exc)
    (case fa_TwoMarks => k_is)
    (case fb_TwoMarks => k_is)
    (case fc_TwoMarks => k_is)
    (case q_NoMark => k_is)
    (case x_NoMark => k_exc)
    (case fa_NoMark => k_is)
    (case fb_NoMark => k_is)
    (case fc_NoMark => k_is)
    (case q_NoCells => k_is)
    (case x_NoCells => k_exc)
    (case fa_NoCells => k_is)
    (case fb_NoCells => k_is)
    (case fc_NoCells => k_is)
    (case q_NoLine => k_is)
    (case x_NoLine => k_exc)
    (case fa_NoLine => k_is)
    (case fb_NoLine => k_is)
    (case fc_NoLine => k_is)
    (case u_NoCells => k_is)
    (case v_NoCells => k_is)
    (case i_NoCells_NoRow => k_is)
    (case j_NoCells_NoRow => first | rfl | decide)
    (case i_NoCells_TwoMarks => k_is)
    (case j_NoCells_TwoMarks => first | rfl | decide)
    (case i_NoCells_NoMark => k_is)
    (case j_NoCells_NoMark => first | rfl | decide)
    (case i_NoCells_NoLine => k_is)
    (case j_NoCells_NoLine => first | rfl | decide)
    (case a_is_name => k_is)
    (case l_is_name => k_is)
    (case c_is_name => k_is)
    (case k_is_name => k_is)
    (case a_is_row => k_is)
    (case l_is_row => k_is)
    (case c_is_row => k_is)
    (case k_is_row => k_is)
    (case a_leads => k_is)
    (case l_leads => k_is)
    (case c_leads => k_is)
    (case k_leads => k_is)
    (case a_refuse_other_tuples => k_is)
    (case l_refuse_other_tuples => k_is)
    (case c_refuse_other_tuples => k_is)
    (case k_refuse_other_tuples => k_is)
    (case a_mark_places => k_is)
    (case l_mark_places => k_is)
    (case c_mark_places => k_is)
    (case k_mark_places => k_is)
    (case a_refuse_unmarked_names => k_is)
    (case l_refuse_unmarked_names => k_is)
    (case c_refuse_unmarked_names => k_is)
    (case k_refuse_unmarked_names => k_is)
    (case a_checked_marks => k_is)
    (case l_checked_marks => k_is)
    (case c_checked_marks => k_is)
    (case k_checked_marks => k_is)
    (case a_is_near_gap => k_is)
    (case l_is_near_gap => k_is)
    (case c_is_near_gap => k_is)
    (case k_is_near_gap => k_is)
    (case a_end_at => k_is)
    (case l_end_at => k_is)
    (case c_end_at => k_is)
    (case k_end_at => k_is)
    (case a_ends_of => k_is)
    (case l_ends_of => k_is)
    (case c_ends_of => k_is)
    (case k_ends_of => k_is)
    (case a_near_gap => k_is)
    (case l_near_gap => k_is)
    (case c_near_gap => k_is)
    (case k_near_gap => k_is)
    (case a_far_gap => k_is)
    (case l_far_gap => k_is)
    (case c_far_gap => k_is)
    (case k_far_gap => k_is)
    (case a_goals_of => k_is)
    (case l_goals_of => k_is)
    (case c_goals_of => k_is)
    (case k_goals_of => k_is)
    (case a_refuse_other_goals => k_is)
    (case l_refuse_other_goals => k_is)
    (case c_refuse_other_goals => k_is)
    (case k_refuse_other_goals => k_is)
    (case a_cell_name => k_is)
    (case l_cell_name => k_is)
    (case c_cell_name => k_is)
    (case k_cell_name => k_is)
    (case a_row_at => k_is)
    (case l_row_at => k_is)
    (case c_row_at => k_is)
    (case k_row_at => k_is)
    (case a_placed_rows => k_is)
    (case l_placed_rows => k_is)
    (case c_placed_rows => k_is)
    (case k_placed_rows => k_is)
    (case a_rows_of => k_is)
    (case l_rows_of => k_is)
    (case c_rows_of => k_is)
    (case k_rows_of => k_is)
    (case a_doing_places => k_is)
    (case l_doing_places => k_is)
    (case c_doing_places => k_is)
    (case k_doing_places => k_is)
    (case a_place_behind => k_is)
    (case l_place_behind => k_is)
    (case c_place_behind => k_is)
    (case k_place_behind => k_is)
    (case a_walked_rows => k_is)
    (case l_walked_rows => k_is)
    (case c_walked_rows => k_is)
    (case k_walked_rows => k_is)
    (case a_walked_cells => k_is)
    (case l_walked_cells => k_is)
    (case c_walked_cells => k_is)
    (case k_walked_cells => k_is)
    (case a__law_at => k_is)
    (case l__law_at => k_is)
    (case c__law_at => k_is)
    (case k__law_at => k_is)
    (case a__law_cut_up => k_is)
    (case l__law_cut_up => k_is)
    (case c__law_cut_up => k_is)
    (case k__law_cut_up => k_is)
    (case a__law_rows_from => k_is)
    (case l__law_rows_from => k_is)
    (case c__law_rows_from => k_is)
    (case k__law_rows_from => k_is)
    (case a__law_same_rows => k_is)
    (case l__law_same_rows => k_is)
    (case c__law_same_rows => k_is)
    (case k__law_same_rows => k_is)
    (case a__law_some_cells => k_is)
    (case l__law_some_cells => k_is)
    (case c__law_some_cells => k_is)
    (case k__law_some_cells => k_is)
    (case a__law_refuses => k_is)
    (case l__law_refuses => k_is)
    (case c__law_refuses => k_is)
    (case k__law_refuses => k_is)
    (case a__law_any_refusal => k_is)
    (case l__law_any_refusal => k_is)
    (case c__law_any_refusal => k_is)
    (case k__law_any_refusal => k_is)
    (case a_law => k_is)
    (case l_law => k_is)
    (case c_law => k_is)
    (case k_law => k_is)
#print axioms PySem.Challenge.cw_stepcells_k09_whole_cells_read_or_refuse_holds


