/-
  Says: where the corners of a cell go (no program).
-/
import Derived.Test.YtgkiliijefkcaaaDoorCm0
set_option linter.unusedVariables false
set_option linter.unusedSimpArgs false
namespace Go.Proofs.YtgkiliijefkcaaaDoor
open Go Go.RowKit

theorem imc_00 (X Y x y : Int) : mvx 0 (1 + 2 * x) (1 + 2 * y) + 2 * X = 1 + 2 * imX 0 X x y ∧ mvy 0 (1 + 2 * x) (1 + 2 * y) + 2 * Y = 1 + 2 * imY 0 Y x y ∧ mvx 0 (2 * x) (2 * y) + 2 * X = 2 * imX 0 X x y ∧ mvy 0 (2 * x) (2 * y) + 2 * Y = 2 * imY 0 Y x y ∧ mvx 0 (2 + 2 * x) (2 * y) + 2 * X = 2 + 2 * imX 0 X x y ∧ mvy 0 (2 + 2 * x) (2 * y) + 2 * Y = 2 * imY 0 Y x y := by
  simp only [imX, imY, mvx0, mvy0, ngx0, ngy0]; refine ⟨?_, ?_, ?_, ?_, ?_, ?_⟩ <;> omega
theorem imc_01 (X Y x y : Int) : mvx 0 (1 + 2 * x) (1 + 2 * y) + 2 * X = 1 + 2 * imX 0 X x y ∧ mvy 0 (1 + 2 * x) (1 + 2 * y) + 2 * Y = 1 + 2 * imY 0 Y x y ∧ mvx 0 (2 + 2 * x) (2 + 2 * y) + 2 * X = 2 + 2 * imX 0 X x y ∧ mvy 0 (2 + 2 * x) (2 + 2 * y) + 2 * Y = 2 + 2 * imY 0 Y x y ∧ mvx 0 (2 + 2 * x) (2 * y) + 2 * X = 2 + 2 * imX 0 X x y ∧ mvy 0 (2 + 2 * x) (2 * y) + 2 * Y = 2 * imY 0 Y x y := by
  simp only [imX, imY, mvx0, mvy0, ngx0, ngy0]; refine ⟨?_, ?_, ?_, ?_, ?_, ?_⟩ <;> omega
theorem imc_02 (X Y x y : Int) : mvx 0 (1 + 2 * x) (1 + 2 * y) + 2 * X = 1 + 2 * imX 0 X x y ∧ mvy 0 (1 + 2 * x) (1 + 2 * y) + 2 * Y = 1 + 2 * imY 0 Y x y ∧ mvx 0 (2 + 2 * x) (2 + 2 * y) + 2 * X = 2 + 2 * imX 0 X x y ∧ mvy 0 (2 + 2 * x) (2 + 2 * y) + 2 * Y = 2 + 2 * imY 0 Y x y ∧ mvx 0 (2 * x) (2 + 2 * y) + 2 * X = 2 * imX 0 X x y ∧ mvy 0 (2 * x) (2 + 2 * y) + 2 * Y = 2 + 2 * imY 0 Y x y := by
  simp only [imX, imY, mvx0, mvy0, ngx0, ngy0]; refine ⟨?_, ?_, ?_, ?_, ?_, ?_⟩ <;> omega
theorem imc_03 (X Y x y : Int) : mvx 0 (1 + 2 * x) (1 + 2 * y) + 2 * X = 1 + 2 * imX 0 X x y ∧ mvy 0 (1 + 2 * x) (1 + 2 * y) + 2 * Y = 1 + 2 * imY 0 Y x y ∧ mvx 0 (2 * x) (2 * y) + 2 * X = 2 * imX 0 X x y ∧ mvy 0 (2 * x) (2 * y) + 2 * Y = 2 * imY 0 Y x y ∧ mvx 0 (2 * x) (2 + 2 * y) + 2 * X = 2 * imX 0 X x y ∧ mvy 0 (2 * x) (2 + 2 * y) + 2 * Y = 2 + 2 * imY 0 Y x y := by
  simp only [imX, imY, mvx0, mvy0, ngx0, ngy0]; refine ⟨?_, ?_, ?_, ?_, ?_, ?_⟩ <;> omega
theorem imc_10 (X Y x y : Int) : mvx 1 (1 + 2 * x) (1 + 2 * y) + 2 * X = 1 + 2 * imX 1 X x y ∧ mvy 1 (1 + 2 * x) (1 + 2 * y) + 2 * Y = 1 + 2 * imY 1 Y x y ∧ mvx 1 (2 * x) (2 * y) + 2 * X = 2 + 2 * imX 1 X x y ∧ mvy 1 (2 * x) (2 * y) + 2 * Y = 2 * imY 1 Y x y ∧ mvx 1 (2 + 2 * x) (2 * y) + 2 * X = 2 + 2 * imX 1 X x y ∧ mvy 1 (2 + 2 * x) (2 * y) + 2 * Y = 2 + 2 * imY 1 Y x y := by
  simp only [imX, imY, mvx1, mvy1, ngx1, ngy1]; refine ⟨?_, ?_, ?_, ?_, ?_, ?_⟩ <;> omega
theorem imc_11 (X Y x y : Int) : mvx 1 (1 + 2 * x) (1 + 2 * y) + 2 * X = 1 + 2 * imX 1 X x y ∧ mvy 1 (1 + 2 * x) (1 + 2 * y) + 2 * Y = 1 + 2 * imY 1 Y x y ∧ mvx 1 (2 + 2 * x) (2 + 2 * y) + 2 * X = 2 * imX 1 X x y ∧ mvy 1 (2 + 2 * x) (2 + 2 * y) + 2 * Y = 2 + 2 * imY 1 Y x y ∧ mvx 1 (2 + 2 * x) (2 * y) + 2 * X = 2 + 2 * imX 1 X x y ∧ mvy 1 (2 + 2 * x) (2 * y) + 2 * Y = 2 + 2 * imY 1 Y x y := by
  simp only [imX, imY, mvx1, mvy1, ngx1, ngy1]; refine ⟨?_, ?_, ?_, ?_, ?_, ?_⟩ <;> omega
theorem imc_12 (X Y x y : Int) : mvx 1 (1 + 2 * x) (1 + 2 * y) + 2 * X = 1 + 2 * imX 1 X x y ∧ mvy 1 (1 + 2 * x) (1 + 2 * y) + 2 * Y = 1 + 2 * imY 1 Y x y ∧ mvx 1 (2 + 2 * x) (2 + 2 * y) + 2 * X = 2 * imX 1 X x y ∧ mvy 1 (2 + 2 * x) (2 + 2 * y) + 2 * Y = 2 + 2 * imY 1 Y x y ∧ mvx 1 (2 * x) (2 + 2 * y) + 2 * X = 2 * imX 1 X x y ∧ mvy 1 (2 * x) (2 + 2 * y) + 2 * Y = 2 * imY 1 Y x y := by
  simp only [imX, imY, mvx1, mvy1, ngx1, ngy1]; refine ⟨?_, ?_, ?_, ?_, ?_, ?_⟩ <;> omega
theorem imc_13 (X Y x y : Int) : mvx 1 (1 + 2 * x) (1 + 2 * y) + 2 * X = 1 + 2 * imX 1 X x y ∧ mvy 1 (1 + 2 * x) (1 + 2 * y) + 2 * Y = 1 + 2 * imY 1 Y x y ∧ mvx 1 (2 * x) (2 * y) + 2 * X = 2 + 2 * imX 1 X x y ∧ mvy 1 (2 * x) (2 * y) + 2 * Y = 2 * imY 1 Y x y ∧ mvx 1 (2 * x) (2 + 2 * y) + 2 * X = 2 * imX 1 X x y ∧ mvy 1 (2 * x) (2 + 2 * y) + 2 * Y = 2 * imY 1 Y x y := by
  simp only [imX, imY, mvx1, mvy1, ngx1, ngy1]; refine ⟨?_, ?_, ?_, ?_, ?_, ?_⟩ <;> omega
theorem imc_20 (X Y x y : Int) : mvx 2 (1 + 2 * x) (1 + 2 * y) + 2 * X = 1 + 2 * imX 2 X x y ∧ mvy 2 (1 + 2 * x) (1 + 2 * y) + 2 * Y = 1 + 2 * imY 2 Y x y ∧ mvx 2 (2 * x) (2 * y) + 2 * X = 2 + 2 * imX 2 X x y ∧ mvy 2 (2 * x) (2 * y) + 2 * Y = 2 + 2 * imY 2 Y x y ∧ mvx 2 (2 + 2 * x) (2 * y) + 2 * X = 2 * imX 2 X x y ∧ mvy 2 (2 + 2 * x) (2 * y) + 2 * Y = 2 + 2 * imY 2 Y x y := by
  simp only [imX, imY, mvx2, mvy2, ngx2, ngy2]; refine ⟨?_, ?_, ?_, ?_, ?_, ?_⟩ <;> omega
theorem imc_21 (X Y x y : Int) : mvx 2 (1 + 2 * x) (1 + 2 * y) + 2 * X = 1 + 2 * imX 2 X x y ∧ mvy 2 (1 + 2 * x) (1 + 2 * y) + 2 * Y = 1 + 2 * imY 2 Y x y ∧ mvx 2 (2 + 2 * x) (2 + 2 * y) + 2 * X = 2 * imX 2 X x y ∧ mvy 2 (2 + 2 * x) (2 + 2 * y) + 2 * Y = 2 * imY 2 Y x y ∧ mvx 2 (2 + 2 * x) (2 * y) + 2 * X = 2 * imX 2 X x y ∧ mvy 2 (2 + 2 * x) (2 * y) + 2 * Y = 2 + 2 * imY 2 Y x y := by
  simp only [imX, imY, mvx2, mvy2, ngx2, ngy2]; refine ⟨?_, ?_, ?_, ?_, ?_, ?_⟩ <;> omega
theorem imc_22 (X Y x y : Int) : mvx 2 (1 + 2 * x) (1 + 2 * y) + 2 * X = 1 + 2 * imX 2 X x y ∧ mvy 2 (1 + 2 * x) (1 + 2 * y) + 2 * Y = 1 + 2 * imY 2 Y x y ∧ mvx 2 (2 + 2 * x) (2 + 2 * y) + 2 * X = 2 * imX 2 X x y ∧ mvy 2 (2 + 2 * x) (2 + 2 * y) + 2 * Y = 2 * imY 2 Y x y ∧ mvx 2 (2 * x) (2 + 2 * y) + 2 * X = 2 + 2 * imX 2 X x y ∧ mvy 2 (2 * x) (2 + 2 * y) + 2 * Y = 2 * imY 2 Y x y := by
  simp only [imX, imY, mvx2, mvy2, ngx2, ngy2]; refine ⟨?_, ?_, ?_, ?_, ?_, ?_⟩ <;> omega
theorem imc_23 (X Y x y : Int) : mvx 2 (1 + 2 * x) (1 + 2 * y) + 2 * X = 1 + 2 * imX 2 X x y ∧ mvy 2 (1 + 2 * x) (1 + 2 * y) + 2 * Y = 1 + 2 * imY 2 Y x y ∧ mvx 2 (2 * x) (2 * y) + 2 * X = 2 + 2 * imX 2 X x y ∧ mvy 2 (2 * x) (2 * y) + 2 * Y = 2 + 2 * imY 2 Y x y ∧ mvx 2 (2 * x) (2 + 2 * y) + 2 * X = 2 + 2 * imX 2 X x y ∧ mvy 2 (2 * x) (2 + 2 * y) + 2 * Y = 2 * imY 2 Y x y := by
  simp only [imX, imY, mvx2, mvy2, ngx2, ngy2]; refine ⟨?_, ?_, ?_, ?_, ?_, ?_⟩ <;> omega
theorem imc_30 (X Y x y : Int) : mvx 3 (1 + 2 * x) (1 + 2 * y) + 2 * X = 1 + 2 * imX 3 X x y ∧ mvy 3 (1 + 2 * x) (1 + 2 * y) + 2 * Y = 1 + 2 * imY 3 Y x y ∧ mvx 3 (2 * x) (2 * y) + 2 * X = 2 * imX 3 X x y ∧ mvy 3 (2 * x) (2 * y) + 2 * Y = 2 + 2 * imY 3 Y x y ∧ mvx 3 (2 + 2 * x) (2 * y) + 2 * X = 2 * imX 3 X x y ∧ mvy 3 (2 + 2 * x) (2 * y) + 2 * Y = 2 * imY 3 Y x y := by
  simp only [imX, imY, mvx3, mvy3, ngx3, ngy3]; refine ⟨?_, ?_, ?_, ?_, ?_, ?_⟩ <;> omega
theorem imc_31 (X Y x y : Int) : mvx 3 (1 + 2 * x) (1 + 2 * y) + 2 * X = 1 + 2 * imX 3 X x y ∧ mvy 3 (1 + 2 * x) (1 + 2 * y) + 2 * Y = 1 + 2 * imY 3 Y x y ∧ mvx 3 (2 + 2 * x) (2 + 2 * y) + 2 * X = 2 + 2 * imX 3 X x y ∧ mvy 3 (2 + 2 * x) (2 + 2 * y) + 2 * Y = 2 * imY 3 Y x y ∧ mvx 3 (2 + 2 * x) (2 * y) + 2 * X = 2 * imX 3 X x y ∧ mvy 3 (2 + 2 * x) (2 * y) + 2 * Y = 2 * imY 3 Y x y := by
  simp only [imX, imY, mvx3, mvy3, ngx3, ngy3]; refine ⟨?_, ?_, ?_, ?_, ?_, ?_⟩ <;> omega
theorem imc_32 (X Y x y : Int) : mvx 3 (1 + 2 * x) (1 + 2 * y) + 2 * X = 1 + 2 * imX 3 X x y ∧ mvy 3 (1 + 2 * x) (1 + 2 * y) + 2 * Y = 1 + 2 * imY 3 Y x y ∧ mvx 3 (2 + 2 * x) (2 + 2 * y) + 2 * X = 2 + 2 * imX 3 X x y ∧ mvy 3 (2 + 2 * x) (2 + 2 * y) + 2 * Y = 2 * imY 3 Y x y ∧ mvx 3 (2 * x) (2 + 2 * y) + 2 * X = 2 + 2 * imX 3 X x y ∧ mvy 3 (2 * x) (2 + 2 * y) + 2 * Y = 2 + 2 * imY 3 Y x y := by
  simp only [imX, imY, mvx3, mvy3, ngx3, ngy3]; refine ⟨?_, ?_, ?_, ?_, ?_, ?_⟩ <;> omega
theorem imc_33 (X Y x y : Int) : mvx 3 (1 + 2 * x) (1 + 2 * y) + 2 * X = 1 + 2 * imX 3 X x y ∧ mvy 3 (1 + 2 * x) (1 + 2 * y) + 2 * Y = 1 + 2 * imY 3 Y x y ∧ mvx 3 (2 * x) (2 * y) + 2 * X = 2 * imX 3 X x y ∧ mvy 3 (2 * x) (2 * y) + 2 * Y = 2 + 2 * imY 3 Y x y ∧ mvx 3 (2 * x) (2 + 2 * y) + 2 * X = 2 + 2 * imX 3 X x y ∧ mvy 3 (2 * x) (2 + 2 * y) + 2 * Y = 2 + 2 * imY 3 Y x y := by
  simp only [imX, imY, mvx3, mvy3, ngx3, ngy3]; refine ⟨?_, ?_, ?_, ?_, ?_, ?_⟩ <;> omega
theorem imc_40 (X Y x y : Int) : mvx 4 (1 + 2 * x) (1 + 2 * y) + 2 * X = 1 + 2 * imX 4 X x y ∧ mvy 4 (1 + 2 * x) (1 + 2 * y) + 2 * Y = 1 + 2 * imY 4 Y x y ∧ mvx 4 (2 * x) (2 * y) + 2 * X = 2 + 2 * imX 4 X x y ∧ mvy 4 (2 * x) (2 * y) + 2 * Y = 2 * imY 4 Y x y ∧ mvx 4 (2 + 2 * x) (2 * y) + 2 * X = 2 * imX 4 X x y ∧ mvy 4 (2 + 2 * x) (2 * y) + 2 * Y = 2 * imY 4 Y x y := by
  simp only [imX, imY, mvx4, mvy4, ngx4, ngy4]; refine ⟨?_, ?_, ?_, ?_, ?_, ?_⟩ <;> omega
theorem imc_41 (X Y x y : Int) : mvx 4 (1 + 2 * x) (1 + 2 * y) + 2 * X = 1 + 2 * imX 4 X x y ∧ mvy 4 (1 + 2 * x) (1 + 2 * y) + 2 * Y = 1 + 2 * imY 4 Y x y ∧ mvx 4 (2 + 2 * x) (2 + 2 * y) + 2 * X = 2 * imX 4 X x y ∧ mvy 4 (2 + 2 * x) (2 + 2 * y) + 2 * Y = 2 + 2 * imY 4 Y x y ∧ mvx 4 (2 + 2 * x) (2 * y) + 2 * X = 2 * imX 4 X x y ∧ mvy 4 (2 + 2 * x) (2 * y) + 2 * Y = 2 * imY 4 Y x y := by
  simp only [imX, imY, mvx4, mvy4, ngx4, ngy4]; refine ⟨?_, ?_, ?_, ?_, ?_, ?_⟩ <;> omega
theorem imc_42 (X Y x y : Int) : mvx 4 (1 + 2 * x) (1 + 2 * y) + 2 * X = 1 + 2 * imX 4 X x y ∧ mvy 4 (1 + 2 * x) (1 + 2 * y) + 2 * Y = 1 + 2 * imY 4 Y x y ∧ mvx 4 (2 + 2 * x) (2 + 2 * y) + 2 * X = 2 * imX 4 X x y ∧ mvy 4 (2 + 2 * x) (2 + 2 * y) + 2 * Y = 2 + 2 * imY 4 Y x y ∧ mvx 4 (2 * x) (2 + 2 * y) + 2 * X = 2 + 2 * imX 4 X x y ∧ mvy 4 (2 * x) (2 + 2 * y) + 2 * Y = 2 + 2 * imY 4 Y x y := by
  simp only [imX, imY, mvx4, mvy4, ngx4, ngy4]; refine ⟨?_, ?_, ?_, ?_, ?_, ?_⟩ <;> omega
theorem imc_43 (X Y x y : Int) : mvx 4 (1 + 2 * x) (1 + 2 * y) + 2 * X = 1 + 2 * imX 4 X x y ∧ mvy 4 (1 + 2 * x) (1 + 2 * y) + 2 * Y = 1 + 2 * imY 4 Y x y ∧ mvx 4 (2 * x) (2 * y) + 2 * X = 2 + 2 * imX 4 X x y ∧ mvy 4 (2 * x) (2 * y) + 2 * Y = 2 * imY 4 Y x y ∧ mvx 4 (2 * x) (2 + 2 * y) + 2 * X = 2 + 2 * imX 4 X x y ∧ mvy 4 (2 * x) (2 + 2 * y) + 2 * Y = 2 + 2 * imY 4 Y x y := by
  simp only [imX, imY, mvx4, mvy4, ngx4, ngy4]; refine ⟨?_, ?_, ?_, ?_, ?_, ?_⟩ <;> omega
theorem imc_50 (X Y x y : Int) : mvx 5 (1 + 2 * x) (1 + 2 * y) + 2 * X = 1 + 2 * imX 5 X x y ∧ mvy 5 (1 + 2 * x) (1 + 2 * y) + 2 * Y = 1 + 2 * imY 5 Y x y ∧ mvx 5 (2 * x) (2 * y) + 2 * X = 2 + 2 * imX 5 X x y ∧ mvy 5 (2 * x) (2 * y) + 2 * Y = 2 + 2 * imY 5 Y x y ∧ mvx 5 (2 + 2 * x) (2 * y) + 2 * X = 2 + 2 * imX 5 X x y ∧ mvy 5 (2 + 2 * x) (2 * y) + 2 * Y = 2 * imY 5 Y x y := by
  simp only [imX, imY, mvx5, mvy5, ngx5, ngy5]; refine ⟨?_, ?_, ?_, ?_, ?_, ?_⟩ <;> omega
theorem imc_51 (X Y x y : Int) : mvx 5 (1 + 2 * x) (1 + 2 * y) + 2 * X = 1 + 2 * imX 5 X x y ∧ mvy 5 (1 + 2 * x) (1 + 2 * y) + 2 * Y = 1 + 2 * imY 5 Y x y ∧ mvx 5 (2 + 2 * x) (2 + 2 * y) + 2 * X = 2 * imX 5 X x y ∧ mvy 5 (2 + 2 * x) (2 + 2 * y) + 2 * Y = 2 * imY 5 Y x y ∧ mvx 5 (2 + 2 * x) (2 * y) + 2 * X = 2 + 2 * imX 5 X x y ∧ mvy 5 (2 + 2 * x) (2 * y) + 2 * Y = 2 * imY 5 Y x y := by
  simp only [imX, imY, mvx5, mvy5, ngx5, ngy5]; refine ⟨?_, ?_, ?_, ?_, ?_, ?_⟩ <;> omega
theorem imc_52 (X Y x y : Int) : mvx 5 (1 + 2 * x) (1 + 2 * y) + 2 * X = 1 + 2 * imX 5 X x y ∧ mvy 5 (1 + 2 * x) (1 + 2 * y) + 2 * Y = 1 + 2 * imY 5 Y x y ∧ mvx 5 (2 + 2 * x) (2 + 2 * y) + 2 * X = 2 * imX 5 X x y ∧ mvy 5 (2 + 2 * x) (2 + 2 * y) + 2 * Y = 2 * imY 5 Y x y ∧ mvx 5 (2 * x) (2 + 2 * y) + 2 * X = 2 * imX 5 X x y ∧ mvy 5 (2 * x) (2 + 2 * y) + 2 * Y = 2 + 2 * imY 5 Y x y := by
  simp only [imX, imY, mvx5, mvy5, ngx5, ngy5]; refine ⟨?_, ?_, ?_, ?_, ?_, ?_⟩ <;> omega
theorem imc_53 (X Y x y : Int) : mvx 5 (1 + 2 * x) (1 + 2 * y) + 2 * X = 1 + 2 * imX 5 X x y ∧ mvy 5 (1 + 2 * x) (1 + 2 * y) + 2 * Y = 1 + 2 * imY 5 Y x y ∧ mvx 5 (2 * x) (2 * y) + 2 * X = 2 + 2 * imX 5 X x y ∧ mvy 5 (2 * x) (2 * y) + 2 * Y = 2 + 2 * imY 5 Y x y ∧ mvx 5 (2 * x) (2 + 2 * y) + 2 * X = 2 * imX 5 X x y ∧ mvy 5 (2 * x) (2 + 2 * y) + 2 * Y = 2 + 2 * imY 5 Y x y := by
  simp only [imX, imY, mvx5, mvy5, ngx5, ngy5]; refine ⟨?_, ?_, ?_, ?_, ?_, ?_⟩ <;> omega
theorem imc_60 (X Y x y : Int) : mvx 6 (1 + 2 * x) (1 + 2 * y) + 2 * X = 1 + 2 * imX 6 X x y ∧ mvy 6 (1 + 2 * x) (1 + 2 * y) + 2 * Y = 1 + 2 * imY 6 Y x y ∧ mvx 6 (2 * x) (2 * y) + 2 * X = 2 * imX 6 X x y ∧ mvy 6 (2 * x) (2 * y) + 2 * Y = 2 + 2 * imY 6 Y x y ∧ mvx 6 (2 + 2 * x) (2 * y) + 2 * X = 2 + 2 * imX 6 X x y ∧ mvy 6 (2 + 2 * x) (2 * y) + 2 * Y = 2 + 2 * imY 6 Y x y := by
  simp only [imX, imY, mvx6, mvy6, ngx6, ngy6]; refine ⟨?_, ?_, ?_, ?_, ?_, ?_⟩ <;> omega
theorem imc_61 (X Y x y : Int) : mvx 6 (1 + 2 * x) (1 + 2 * y) + 2 * X = 1 + 2 * imX 6 X x y ∧ mvy 6 (1 + 2 * x) (1 + 2 * y) + 2 * Y = 1 + 2 * imY 6 Y x y ∧ mvx 6 (2 + 2 * x) (2 + 2 * y) + 2 * X = 2 + 2 * imX 6 X x y ∧ mvy 6 (2 + 2 * x) (2 + 2 * y) + 2 * Y = 2 * imY 6 Y x y ∧ mvx 6 (2 + 2 * x) (2 * y) + 2 * X = 2 + 2 * imX 6 X x y ∧ mvy 6 (2 + 2 * x) (2 * y) + 2 * Y = 2 + 2 * imY 6 Y x y := by
  simp only [imX, imY, mvx6, mvy6, ngx6, ngy6]; refine ⟨?_, ?_, ?_, ?_, ?_, ?_⟩ <;> omega
theorem imc_62 (X Y x y : Int) : mvx 6 (1 + 2 * x) (1 + 2 * y) + 2 * X = 1 + 2 * imX 6 X x y ∧ mvy 6 (1 + 2 * x) (1 + 2 * y) + 2 * Y = 1 + 2 * imY 6 Y x y ∧ mvx 6 (2 + 2 * x) (2 + 2 * y) + 2 * X = 2 + 2 * imX 6 X x y ∧ mvy 6 (2 + 2 * x) (2 + 2 * y) + 2 * Y = 2 * imY 6 Y x y ∧ mvx 6 (2 * x) (2 + 2 * y) + 2 * X = 2 * imX 6 X x y ∧ mvy 6 (2 * x) (2 + 2 * y) + 2 * Y = 2 * imY 6 Y x y := by
  simp only [imX, imY, mvx6, mvy6, ngx6, ngy6]; refine ⟨?_, ?_, ?_, ?_, ?_, ?_⟩ <;> omega
theorem imc_63 (X Y x y : Int) : mvx 6 (1 + 2 * x) (1 + 2 * y) + 2 * X = 1 + 2 * imX 6 X x y ∧ mvy 6 (1 + 2 * x) (1 + 2 * y) + 2 * Y = 1 + 2 * imY 6 Y x y ∧ mvx 6 (2 * x) (2 * y) + 2 * X = 2 * imX 6 X x y ∧ mvy 6 (2 * x) (2 * y) + 2 * Y = 2 + 2 * imY 6 Y x y ∧ mvx 6 (2 * x) (2 + 2 * y) + 2 * X = 2 * imX 6 X x y ∧ mvy 6 (2 * x) (2 + 2 * y) + 2 * Y = 2 * imY 6 Y x y := by
  simp only [imX, imY, mvx6, mvy6, ngx6, ngy6]; refine ⟨?_, ?_, ?_, ?_, ?_, ?_⟩ <;> omega
theorem imc_70 (X Y x y : Int) : mvx 7 (1 + 2 * x) (1 + 2 * y) + 2 * X = 1 + 2 * imX 7 X x y ∧ mvy 7 (1 + 2 * x) (1 + 2 * y) + 2 * Y = 1 + 2 * imY 7 Y x y ∧ mvx 7 (2 * x) (2 * y) + 2 * X = 2 * imX 7 X x y ∧ mvy 7 (2 * x) (2 * y) + 2 * Y = 2 * imY 7 Y x y ∧ mvx 7 (2 + 2 * x) (2 * y) + 2 * X = 2 * imX 7 X x y ∧ mvy 7 (2 + 2 * x) (2 * y) + 2 * Y = 2 + 2 * imY 7 Y x y := by
  simp only [imX, imY, mvx7, mvy7, ngx7, ngy7]; refine ⟨?_, ?_, ?_, ?_, ?_, ?_⟩ <;> omega
theorem imc_71 (X Y x y : Int) : mvx 7 (1 + 2 * x) (1 + 2 * y) + 2 * X = 1 + 2 * imX 7 X x y ∧ mvy 7 (1 + 2 * x) (1 + 2 * y) + 2 * Y = 1 + 2 * imY 7 Y x y ∧ mvx 7 (2 + 2 * x) (2 + 2 * y) + 2 * X = 2 + 2 * imX 7 X x y ∧ mvy 7 (2 + 2 * x) (2 + 2 * y) + 2 * Y = 2 + 2 * imY 7 Y x y ∧ mvx 7 (2 + 2 * x) (2 * y) + 2 * X = 2 * imX 7 X x y ∧ mvy 7 (2 + 2 * x) (2 * y) + 2 * Y = 2 + 2 * imY 7 Y x y := by
  simp only [imX, imY, mvx7, mvy7, ngx7, ngy7]; refine ⟨?_, ?_, ?_, ?_, ?_, ?_⟩ <;> omega
theorem imc_72 (X Y x y : Int) : mvx 7 (1 + 2 * x) (1 + 2 * y) + 2 * X = 1 + 2 * imX 7 X x y ∧ mvy 7 (1 + 2 * x) (1 + 2 * y) + 2 * Y = 1 + 2 * imY 7 Y x y ∧ mvx 7 (2 + 2 * x) (2 + 2 * y) + 2 * X = 2 + 2 * imX 7 X x y ∧ mvy 7 (2 + 2 * x) (2 + 2 * y) + 2 * Y = 2 + 2 * imY 7 Y x y ∧ mvx 7 (2 * x) (2 + 2 * y) + 2 * X = 2 + 2 * imX 7 X x y ∧ mvy 7 (2 * x) (2 + 2 * y) + 2 * Y = 2 * imY 7 Y x y := by
  simp only [imX, imY, mvx7, mvy7, ngx7, ngy7]; refine ⟨?_, ?_, ?_, ?_, ?_, ?_⟩ <;> omega
theorem imc_73 (X Y x y : Int) : mvx 7 (1 + 2 * x) (1 + 2 * y) + 2 * X = 1 + 2 * imX 7 X x y ∧ mvy 7 (1 + 2 * x) (1 + 2 * y) + 2 * Y = 1 + 2 * imY 7 Y x y ∧ mvx 7 (2 * x) (2 * y) + 2 * X = 2 * imX 7 X x y ∧ mvy 7 (2 * x) (2 * y) + 2 * Y = 2 * imY 7 Y x y ∧ mvx 7 (2 * x) (2 + 2 * y) + 2 * X = 2 + 2 * imX 7 X x y ∧ mvy 7 (2 * x) (2 + 2 * y) + 2 * Y = 2 * imY 7 Y x y := by
  simp only [imX, imY, mvx7, mvy7, ngx7, ngy7]; refine ⟨?_, ?_, ?_, ?_, ?_, ?_⟩ <;> omega

theorem imX_range (t X x y n : Int) (a1 : 0 ≤ t) (a2 : t ≤ 7) (b1 : -16384 ≤ X) (b2 : X ≤ 16384) (x1 : -n ≤ x) (x2 : x ≤ n) (y1 : -n ≤ y) (y2 : y ≤ n) : -n - 16385 ≤ imX t X x y ∧ imX t X x y ≤ n + 16384 := by
  have := mvx_range n t x y a1 a2 x1 x2 y1 y2
  have := ngx_range t
  unfold imX; omega
theorem imY_range (t Y x y n : Int) (a1 : 0 ≤ t) (a2 : t ≤ 7) (b1 : -16384 ≤ Y) (b2 : Y ≤ 16384) (x1 : -n ≤ x) (x2 : x ≤ n) (y1 : -n ≤ y) (y2 : y ≤ n) : -n - 16385 ≤ imY t Y x y ∧ imY t Y x y ≤ n + 16384 := by
  have := mvy_range n t x y a1 a2 x1 x2 y1 y2
  have := ngy_range t
  unfold imY; omega
theorem im0_range (t x y n : Int) (a1 : 0 ≤ t) (a2 : t ≤ 7) (x1 : -n ≤ x) (x2 : x ≤ n) (y1 : -n ≤ y) (y2 : y ≤ n) : -n - 1 ≤ imX t 0 x y ∧ imX t 0 x y ≤ n ∧ -n - 1 ≤ imY t 0 x y ∧ imY t 0 x y ≤ n := by
  have := mvx_range n t x y a1 a2 x1 x2 y1 y2
  have := mvy_range n t x y a1 a2 x1 x2 y1 y2
  have := ngx_range t
  have := ngy_range t
  unfold imX imY; omega

end Go.Proofs.YtgkiliijefkcaaaDoor
