/-
  Says: what lies behind an edge; what small functions answer.
-/
import Derived.Test.YtaacmbmnlhoghaaDoorKC2
import Derived.KernelRfl
set_option maxRecDepth 1000000
set_option linter.unusedVariables false
set_option linter.unusedSimpArgs false
namespace Go.Proofs.YtaacmbmnlhoghaaDoor
open Go Go.Vx
attribute [local instance] anyKeeps

attribute [local instance] anySyms

/-! What lies behind an edge of a cell of a sheet. -/
def nbE0 (W H x y id : Nat) : Nat → Option Nat
  | 0 => match y with
    | 0 => none
    | _ => some (Nat.sub (Nat.add id 2) (Nat.mul 4 W))
  | 1 => match Nat.beq (Nat.succ x) W with
    | true => none
    | false => some (Nat.add id 6)
  | 2 => match Nat.beq (Nat.succ y) H with
    | true => none
    | false => some (Nat.sub (Nat.add id (Nat.mul 4 W)) 2)
  | _ => match x with
    | 0 => none
    | _ => some (Nat.sub id 6)
def nb (W H id e : Nat) : Option Nat := match e with
  | 0 => nbE0 W H (Nat.mod (Nat.div id 4) W) (Nat.div (Nat.div id 4) W) id (Nat.mod id 4)
  | 1 => match Nat.beq (Nat.mod id 2) 0 with
    | true => some (Nat.succ id)
    | false => some (Nat.sub id 1)
  | _ => some (Nat.sub (Nat.add id 3) (Nat.mul 2 (Nat.mod id 4)))
def pair (v : Value) (n : Nat) : Value := vp [v, vi n]
def nbV (W H id e : Nat) : Value := match nb W H id e with
  | some n => pair (vi n) 0
  | none => pair (vi 0) 7
def nmV (W H id e : Nat) : Value := match nb W H id e with
  | some n => pair (va [vi (Nat.min id n), vu e]) 0
  | none => pair (va [vi 0, vu 0]) 7
def rfV (W H id e : Nat) : Value := match nb W H id e with
  | some n => vi n
  | none => vn 0
/-- The arguments with a number, and those of the reference. -/
def keyN (W H j : Nat) : List Value := [va [vi W, vi H], vi (Nat.div j 3), vu (Nat.mod j 3)]
def keyR (W H j : Nat) : List Value := [va [vi W, vi H], vi (Nat.div j 3), vi (Nat.mod j 3)]
def inB (W H id e : Nat) : Bool := (Nat.ble 1 W && (Nat.ble W 5 && (Nat.ble 1 H && Nat.ble H 5))) && (Nat.blt id (Nat.mul 4 (Nat.mul W H)) && Nat.blt e 3)
theorem flat_nbV (W H id e : Nat) : flat (nbV W H id e) = true := by unfold nbV; split <;> rfl
theorem flat_nmV (W H id e : Nat) : flat (nmV W H id e) = true := by unfold nmV; split <;> rfl
theorem flat_rfV (W H id e : Nat) : flat (rfV W H id e) = true := by unfold rfV; split <;> rfl
noncomputable def C0 (f : FuncId) (args : List Value) : Option Value := orAns (fnAns 11 A11) (orAns (fnAns 12 A12) (orAns (fnAns 13 A13) (orAns (fnAns 33 A33) (fnAns 34 A34)))) f args
theorem C0_ok (t : Nat → TypeId) [Syms] : AnsOk Tryd.prog (tabG t) C0 := (a11 t).or ((a12 t).or ((a13 t).or ((a33 t).or (a34 t))))
noncomputable def QC0 (t : Nat → TypeId) : Orc := valOrc (fun _ => false) (tabG t) C0
theorem QC0_ok (t : Nat → TypeId) [Syms] : OrcOk Tryd.prog (tabG t) (QC0 t) := valOrc_ok (base_G t) (C0_ok t)
/-- All 25 sheets. -/
theorem cls {p : Nat → Nat → Prop} (h : p 1 1 ∧ p 1 2 ∧ p 1 3 ∧ p 1 4 ∧ p 1 5 ∧ p 2 1 ∧ p 2 2 ∧ p 2 3 ∧ p 2 4 ∧ p 2 5 ∧ p 3 1 ∧ p 3 2 ∧ p 3 3 ∧ p 3 4 ∧ p 3 5 ∧ p 4 1 ∧ p 4 2 ∧ p 4 3 ∧ p 4 4 ∧ p 4 5 ∧ p 5 1 ∧ p 5 2 ∧ p 5 3 ∧ p 5 4 ∧ p 5 5) {W H : Nat} (h1 : 1 ≤ W) (h2 : W ≤ 5) (h3 : 1 ≤ H) (h4 : H ≤ 5) : p W H := by
  obtain ⟨c0, c1, c2, c3, c4, c5, c6, c7, c8, c9, c10, c11, c12, c13, c14, c15, c16, c17, c18, c19, c20, c21, c22, c23, c24⟩ := h
  have hW : W = 1 ∨ W = 2 ∨ W = 3 ∨ W = 4 ∨ W = 5 := by omega
  have hH : H = 1 ∨ H = 2 ∨ H = 3 ∨ H = 4 ∨ H = 5 := by omega
  rcases hW with rfl | rfl | rfl | rfl | rfl <;> rcases hH with rfl | rfl | rfl | rfl | rfl <;> assumption

end Go.Proofs.YtaacmbmnlhoghaaDoor
