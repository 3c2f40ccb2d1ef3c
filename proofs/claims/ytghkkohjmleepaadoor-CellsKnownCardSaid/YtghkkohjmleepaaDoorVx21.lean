/-
  Says: Tables of what is known of calls.
-/
import Derived.Test.YtghkkohjmleepaaDoorVx20
/-! Tables of what is known of calls. -/
set_option linter.unusedVariables false
set_option linter.unusedSimpArgs false
namespace Go.Vx
open Go.RowKit

def eq1 : Value → Value → Bool
  | .int k a, .int k' b => Nat.beq (kindN k) (kindN k') && eqI a b
  | .bool a, .bool b => a == b
  | _, _ => false
def eqL1 : List Value → List Value → Bool
  | [], [] => true
  | x :: l, y :: m => eq1 x y && eqL1 l m
  | _, _ => false
def eqv (x y : Value) : Bool := match x with
  | .agg a => (match y with
    | .agg b => eqL1 a.toList b.toList
    | _ => false)
  | .int k a => eq1 (.int k a) y
  | .bool a => eq1 (.bool a) y
  | _ => false
def eqA : List Value → List Value → Bool
  | [], [] => true
  | x :: l, y :: m => eqv x y && eqA l m
  | _, _ => false
def eqw (x y : Value) : Bool := match x with
  | .tuple a => (match y with
    | .tuple b => eqA a.toList b.toList
    | _ => false)
  | z => eqv z y
def findV (args : List Value) : List (List Value × Value) → Option Value
  | [] => none
  | e :: l => match eqA e.1 args with
    | true => some e.2
    | false => findV args l
def findF (f : Nat) (args : List Value) : List (Nat × List (List Value × Value)) → Option Value
  | [] => none
  | p :: l => match Nat.beq p.1 f with
    | true => match findV args p.2 with
      | some v => some v
      | none => findF f args l
    | false => findF f args l

theorem eq1_eq {x y : Value} (h : eq1 x y = true) : x = y := by
  cases x <;> cases y <;> simp only [eq1] at h <;> first | (cases h; done) | skip
  case int.int =>
    simp only [Bool.and_eq_true] at h
    obtain ⟨h1, h2⟩ := h
    rw [eqI_eq] at h2
    rw [kindN_inj h1, eq_of_beq h2]
  case bool.bool => rw [eq_of_beq h]
theorem eqL1_eq : ∀ {l m : List Value}, eqL1 l m = true → l = m
  | [], [], _ => rfl
  | [], _ :: _, h => by cases h
  | _ :: _, [], h => by cases h
  | x :: l, y :: m, h => by
    simp only [eqL1, Bool.and_eq_true] at h
    rw [eq1_eq h.1, eqL1_eq h.2]
theorem eqv_eq {x y : Value} (h : eqv x y = true) : x = y := by
  unfold eqv at h
  split at h
  · rename_i a
    split at h
    · rename_i b
      have := eqL1_eq h
      obtain ⟨a⟩ := a
      obtain ⟨b⟩ := b
      simp only at this
      rw [this]
    · cases h
  · exact eq1_eq h
  · exact eq1_eq h
  · cases h
theorem eqA_eq : ∀ {l m : List Value}, eqA l m = true → l = m
  | [], [], _ => rfl
  | [], _ :: _, h => by cases h
  | _ :: _, [], h => by cases h
  | x :: l, y :: m, h => by
    simp only [eqA, Bool.and_eq_true] at h
    rw [eqv_eq h.1, eqA_eq h.2]
theorem eqw_eq {x y : Value} (h : eqw x y = true) : x = y := by
  unfold eqw at h
  split at h
  · rename_i a
    split at h
    · rename_i b
      have := eqA_eq h
      obtain ⟨a⟩ := a
      obtain ⟨b⟩ := b
      simp only at this
      rw [this]
    · cases h
  · exact eqv_eq h
theorem findV_mem {args : List Value} {v : Value} : ∀ {l : List (List Value × Value)}, findV args l = some v → (args, v) ∈ l
  | [], h => by cases h
  | e :: l, h => by
    simp only [findV] at h
    split at h
    · rename_i he
      cases h
      rw [← eqA_eq he]
      exact List.mem_cons_self
    · exact List.mem_cons_of_mem _ (findV_mem h)
theorem findF_mem {f : Nat} {args : List Value} {v : Value} : ∀ {l : List (Nat × List (List Value × Value))}, findF f args l = some v → ∃ t, (f, t) ∈ l ∧ (args, v) ∈ t
  | [], h => by cases h
  | p :: l, h => by
    simp only [findF] at h
    split at h
    · rename_i he
      have := Nat.eq_of_beq_eq_true he
      subst this
      split at h
      · rename_i v' hv
        cases h
        exact ⟨p.2, List.mem_cons_self, findV_mem hv⟩
      · obtain ⟨t, h1, h2⟩ := findF_mem h
        exact ⟨t, List.mem_cons_of_mem _ h1, h2⟩
    · obtain ⟨t, h1, h2⟩ := findF_mem h
      exact ⟨t, List.mem_cons_of_mem _ h1, h2⟩

section
variable {P : Program} {G : VW}
/-- An entry holds. -/
def Entry (P : Program) (G : VW) (f : FuncId) (e : List Value × Value) : Prop := Known P G f e.1 e.2 ∧ e.1.all flat = true ∧ flat e.2 = true
/-- Tables hold. -/
def Holds (P : Program) (G : VW) : List (Nat × List (List Value × Value)) → Prop
  | [] => True
  | p :: l => (∀ e ∈ p.2, Entry P G p.1 e) ∧ Holds P G l
theorem Holds.all : ∀ {l : List (Nat × List (List Value × Value))}, Holds P G l → ∀ p ∈ l, ∀ e ∈ p.2, Entry P G p.1 e
  | p :: l, h, q, hq => by
    rcases List.mem_cons.1 hq with rfl | hq
    · exact h.1
    · exact Holds.all h.2 q hq
theorem orc_of (hT : Tabs P G) {tabs : List (Nat × List (List Value × Value))} (h : ∀ p ∈ tabs, ∀ e ∈ p.2, Entry P G p.1 e) : OrcOk P G fun f args => findF f args tabs := by
  intro f args v hf V
  obtain ⟨t, h1, h2⟩ := findF_mem hf
  obtain ⟨k1, k2, k3⟩ := h _ h1 _ h2
  exact k1.call hT k2 k3 V

def isVal (v : Value) : R → Bool
  | .val u _ => eqw v u
  | _ => false
noncomputable def entryOk (P : Program) (Q : Orc) (V : VW) (f : FuncId) (e : List Value × Value) : Bool :=
  e.1.all flat && (flat e.2 && ((fnOf P f).isSome && isVal e.2 (run P Q 1000000 (.call f e.1 V))))
theorem entry_of (hT : Tabs P G) (hG1 : G.size = P.globals.size) (hG2 : G.floor = P.globals.size) {Q : Orc} (hQ : OrcOk P G Q) {f : FuncId} {e : List Value × Value} (h : entryOk P Q G f e = true) : Entry P G f e := by
  unfold entryOk at h
  simp only [Bool.and_eq_true] at h
  obtain ⟨h1, h2, h3, h4⟩ := h
  refine ⟨?_, h1, h2⟩
  cases hfn : fnOf P f with
  | none => rw [hfn] at h3; cases h3
  | some x =>
    obtain ⟨g1, g2, _⟩ := fnOf_spec hfn
    cases hr : run P Q 1000000 (.call f e.1 G) with
    | val u V' =>
      rw [hr] at h4
      have hu := eqw_eq (show eqw e.2 u = true from h4)
      have hG : G = ⟨G.heap, P.globals.size, P.globals.size⟩ := by
        obtain ⟨a, b, c⟩ := G
        simp only at hG1 hG2
        subst hG1 hG2
        rfl
      rw [hG] at hr
      have hr' : run P Q 1000000 (.call f e.1 ⟨G.heap, P.globals.size, P.globals.size⟩) = .val e.2 V' := by rw [hu]; exact hr
      exact known_of hT hQ hr' h1 h2 ⟨_, _, g1, g2⟩
    | fall y s => rw [hr] at h4; cases h4
    | bad m n => rw [hr] at h4; cases h4
theorem entries_of (hT : Tabs P G) (hG1 : G.size = P.globals.size) (hG2 : G.floor = P.globals.size) {Q : Orc} (hQ : OrcOk P G Q) {f : FuncId} {l : List (List Value × Value)} (h : l.all (entryOk P Q G f) = true) : ∀ e ∈ l, Entry P G f e :=
  fun e he => entry_of hT hG1 hG2 hQ (List.all_eq_true.1 h e he)
end
end Go.Vx
