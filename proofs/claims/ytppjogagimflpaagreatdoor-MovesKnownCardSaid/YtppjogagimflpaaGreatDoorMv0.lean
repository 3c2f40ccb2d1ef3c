/-
  Says: the eight turns of the plane: where they take points, their products and inverses (no program).
-/
import Derived.Test.YtppjogagimflpaaGreatDoorLater
set_option linter.unusedVariables false
set_option linter.unusedSimpArgs false
namespace Go.Proofs.YtppjogagimflpaaGreatDoor
open Go Go.RowKit

/-- Where a turn takes a point. -/
def mvx (t x y : Int) : Int := if t = 1 then -y else if t = 2 then -x else if t = 3 then y else if t = 4 then -x else if t = 5 then -y else if t = 6 then x else if t = 7 then y else x
def mvy (t x y : Int) : Int := if t = 1 then x else if t = 2 then -y else if t = 3 then -x else if t = 4 then y else if t = 5 then -x else if t = 6 then -y else if t = 7 then x else y
/-- The turn that is one turn and then another one. -/
def mulT (s t : Int) : Int := if t < 4 then (if s < 4 then (t + s) % 4 else 4 + (t + s - 4) % 4) else (if s < 4 then 4 + (t - 4 - s) % 4 else (t - s) % 4)
/-- The turn back. -/
def invT (t : Int) : Int := if t < 4 then (4 - t) % 4 else t
theorem mvx0 (x y : Int) : mvx 0 x y = x := rfl
theorem mvy0 (x y : Int) : mvy 0 x y = y := rfl
theorem invT0 : invT 0 = 0 := rfl
theorem mulT00 : mulT 0 0 = 0 := rfl
theorem mulT01 : mulT 0 1 = 1 := rfl
theorem mulT02 : mulT 0 2 = 2 := rfl
theorem mulT03 : mulT 0 3 = 3 := rfl
theorem mulT04 : mulT 0 4 = 4 := rfl
theorem mulT05 : mulT 0 5 = 5 := rfl
theorem mulT06 : mulT 0 6 = 6 := rfl
theorem mulT07 : mulT 0 7 = 7 := rfl
theorem mvx1 (x y : Int) : mvx 1 x y = -y := rfl
theorem mvy1 (x y : Int) : mvy 1 x y = x := rfl
theorem invT1 : invT 1 = 3 := rfl
theorem mulT10 : mulT 1 0 = 1 := rfl
theorem mulT11 : mulT 1 1 = 2 := rfl
theorem mulT12 : mulT 1 2 = 3 := rfl
theorem mulT13 : mulT 1 3 = 0 := rfl
theorem mulT14 : mulT 1 4 = 7 := rfl
theorem mulT15 : mulT 1 5 = 4 := rfl
theorem mulT16 : mulT 1 6 = 5 := rfl
theorem mulT17 : mulT 1 7 = 6 := rfl
theorem mvx2 (x y : Int) : mvx 2 x y = -x := rfl
theorem mvy2 (x y : Int) : mvy 2 x y = -y := rfl
theorem invT2 : invT 2 = 2 := rfl
theorem mulT20 : mulT 2 0 = 2 := rfl
theorem mulT21 : mulT 2 1 = 3 := rfl
theorem mulT22 : mulT 2 2 = 0 := rfl
theorem mulT23 : mulT 2 3 = 1 := rfl
theorem mulT24 : mulT 2 4 = 6 := rfl
theorem mulT25 : mulT 2 5 = 7 := rfl
theorem mulT26 : mulT 2 6 = 4 := rfl
theorem mulT27 : mulT 2 7 = 5 := rfl
theorem mvx3 (x y : Int) : mvx 3 x y = y := rfl
theorem mvy3 (x y : Int) : mvy 3 x y = -x := rfl
theorem invT3 : invT 3 = 1 := rfl
theorem mulT30 : mulT 3 0 = 3 := rfl
theorem mulT31 : mulT 3 1 = 0 := rfl
theorem mulT32 : mulT 3 2 = 1 := rfl
theorem mulT33 : mulT 3 3 = 2 := rfl
theorem mulT34 : mulT 3 4 = 5 := rfl
theorem mulT35 : mulT 3 5 = 6 := rfl
theorem mulT36 : mulT 3 6 = 7 := rfl
theorem mulT37 : mulT 3 7 = 4 := rfl
theorem mvx4 (x y : Int) : mvx 4 x y = -x := rfl
theorem mvy4 (x y : Int) : mvy 4 x y = y := rfl
theorem invT4 : invT 4 = 4 := rfl
theorem mulT40 : mulT 4 0 = 4 := rfl
theorem mulT41 : mulT 4 1 = 5 := rfl
theorem mulT42 : mulT 4 2 = 6 := rfl
theorem mulT43 : mulT 4 3 = 7 := rfl
theorem mulT44 : mulT 4 4 = 0 := rfl
theorem mulT45 : mulT 4 5 = 1 := rfl
theorem mulT46 : mulT 4 6 = 2 := rfl
theorem mulT47 : mulT 4 7 = 3 := rfl
theorem mvx5 (x y : Int) : mvx 5 x y = -y := rfl
theorem mvy5 (x y : Int) : mvy 5 x y = -x := rfl
theorem invT5 : invT 5 = 5 := rfl
theorem mulT50 : mulT 5 0 = 5 := rfl
theorem mulT51 : mulT 5 1 = 6 := rfl
theorem mulT52 : mulT 5 2 = 7 := rfl
theorem mulT53 : mulT 5 3 = 4 := rfl
theorem mulT54 : mulT 5 4 = 3 := rfl
theorem mulT55 : mulT 5 5 = 0 := rfl
theorem mulT56 : mulT 5 6 = 1 := rfl
theorem mulT57 : mulT 5 7 = 2 := rfl
theorem mvx6 (x y : Int) : mvx 6 x y = x := rfl
theorem mvy6 (x y : Int) : mvy 6 x y = -y := rfl
theorem invT6 : invT 6 = 6 := rfl
theorem mulT60 : mulT 6 0 = 6 := rfl
theorem mulT61 : mulT 6 1 = 7 := rfl
theorem mulT62 : mulT 6 2 = 4 := rfl
theorem mulT63 : mulT 6 3 = 5 := rfl
theorem mulT64 : mulT 6 4 = 2 := rfl
theorem mulT65 : mulT 6 5 = 3 := rfl
theorem mulT66 : mulT 6 6 = 0 := rfl
theorem mulT67 : mulT 6 7 = 1 := rfl
theorem mvx7 (x y : Int) : mvx 7 x y = y := rfl
theorem mvy7 (x y : Int) : mvy 7 x y = x := rfl
theorem invT7 : invT 7 = 7 := rfl
theorem mulT70 : mulT 7 0 = 7 := rfl
theorem mulT71 : mulT 7 1 = 4 := rfl
theorem mulT72 : mulT 7 2 = 5 := rfl
theorem mulT73 : mulT 7 3 = 6 := rfl
theorem mulT74 : mulT 7 4 = 1 := rfl
theorem mulT75 : mulT 7 5 = 2 := rfl
theorem mulT76 : mulT 7 6 = 3 := rfl
theorem mulT77 : mulT 7 7 = 0 := rfl

theorem mulT_range (s t : Int) (a1 : 0 ≤ s) (a2 : s ≤ 7) (b1 : 0 ≤ t) (b2 : t ≤ 7) : 0 ≤ mulT s t ∧ mulT s t ≤ 7 := by
  unfold mulT
  split <;> split <;> omega
theorem invT_range (t : Int) (b1 : 0 ≤ t) (b2 : t ≤ 7) : 0 ≤ invT t ∧ invT t ≤ 7 := by
  unfold invT
  split <;> omega
theorem mvx_comp (s t x y : Int) (a1 : 0 ≤ s) (a2 : s ≤ 7) (b1 : 0 ≤ t) (b2 : t ≤ 7) : mvx t (mvx s x y) (mvy s x y) = mvx (mulT s t) x y := by
  obtain rfl | rfl | rfl | rfl | rfl | rfl | rfl | rfl : s = 0 ∨ s = 1 ∨ s = 2 ∨ s = 3 ∨ s = 4 ∨ s = 5 ∨ s = 6 ∨ s = 7 := by omega
  · obtain rfl | rfl | rfl | rfl | rfl | rfl | rfl | rfl : t = 0 ∨ t = 1 ∨ t = 2 ∨ t = 3 ∨ t = 4 ∨ t = 5 ∨ t = 6 ∨ t = 7 := by omega
    · simp only [mulT00, mvx0, mvy0, mvx0, mvx0]; try omega
    · simp only [mulT01, mvx0, mvy0, mvx1, mvx1]; try omega
    · simp only [mulT02, mvx0, mvy0, mvx2, mvx2]; try omega
    · simp only [mulT03, mvx0, mvy0, mvx3, mvx3]; try omega
    · simp only [mulT04, mvx0, mvy0, mvx4, mvx4]; try omega
    · simp only [mulT05, mvx0, mvy0, mvx5, mvx5]; try omega
    · simp only [mulT06, mvx0, mvy0, mvx6, mvx6]; try omega
    · simp only [mulT07, mvx0, mvy0, mvx7, mvx7]; try omega
  · obtain rfl | rfl | rfl | rfl | rfl | rfl | rfl | rfl : t = 0 ∨ t = 1 ∨ t = 2 ∨ t = 3 ∨ t = 4 ∨ t = 5 ∨ t = 6 ∨ t = 7 := by omega
    · simp only [mulT10, mvx1, mvy1, mvx0, mvx1]; try omega
    · simp only [mulT11, mvx1, mvy1, mvx1, mvx2]; try omega
    · simp only [mulT12, mvx1, mvy1, mvx2, mvx3]; try omega
    · simp only [mulT13, mvx1, mvy1, mvx3, mvx0]; try omega
    · simp only [mulT14, mvx1, mvy1, mvx4, mvx7]; try omega
    · simp only [mulT15, mvx1, mvy1, mvx5, mvx4]; try omega
    · simp only [mulT16, mvx1, mvy1, mvx6, mvx5]; try omega
    · simp only [mulT17, mvx1, mvy1, mvx7, mvx6]; try omega
  · obtain rfl | rfl | rfl | rfl | rfl | rfl | rfl | rfl : t = 0 ∨ t = 1 ∨ t = 2 ∨ t = 3 ∨ t = 4 ∨ t = 5 ∨ t = 6 ∨ t = 7 := by omega
    · simp only [mulT20, mvx2, mvy2, mvx0, mvx2]; try omega
    · simp only [mulT21, mvx2, mvy2, mvx1, mvx3]; try omega
    · simp only [mulT22, mvx2, mvy2, mvx2, mvx0]; try omega
    · simp only [mulT23, mvx2, mvy2, mvx3, mvx1]; try omega
    · simp only [mulT24, mvx2, mvy2, mvx4, mvx6]; try omega
    · simp only [mulT25, mvx2, mvy2, mvx5, mvx7]; try omega
    · simp only [mulT26, mvx2, mvy2, mvx6, mvx4]; try omega
    · simp only [mulT27, mvx2, mvy2, mvx7, mvx5]; try omega
  · obtain rfl | rfl | rfl | rfl | rfl | rfl | rfl | rfl : t = 0 ∨ t = 1 ∨ t = 2 ∨ t = 3 ∨ t = 4 ∨ t = 5 ∨ t = 6 ∨ t = 7 := by omega
    · simp only [mulT30, mvx3, mvy3, mvx0, mvx3]; try omega
    · simp only [mulT31, mvx3, mvy3, mvx1, mvx0]; try omega
    · simp only [mulT32, mvx3, mvy3, mvx2, mvx1]; try omega
    · simp only [mulT33, mvx3, mvy3, mvx3, mvx2]; try omega
    · simp only [mulT34, mvx3, mvy3, mvx4, mvx5]; try omega
    · simp only [mulT35, mvx3, mvy3, mvx5, mvx6]; try omega
    · simp only [mulT36, mvx3, mvy3, mvx6, mvx7]; try omega
    · simp only [mulT37, mvx3, mvy3, mvx7, mvx4]; try omega
  · obtain rfl | rfl | rfl | rfl | rfl | rfl | rfl | rfl : t = 0 ∨ t = 1 ∨ t = 2 ∨ t = 3 ∨ t = 4 ∨ t = 5 ∨ t = 6 ∨ t = 7 := by omega
    · simp only [mulT40, mvx4, mvy4, mvx0, mvx4]; try omega
    · simp only [mulT41, mvx4, mvy4, mvx1, mvx5]; try omega
    · simp only [mulT42, mvx4, mvy4, mvx2, mvx6]; try omega
    · simp only [mulT43, mvx4, mvy4, mvx3, mvx7]; try omega
    · simp only [mulT44, mvx4, mvy4, mvx4, mvx0]; try omega
    · simp only [mulT45, mvx4, mvy4, mvx5, mvx1]; try omega
    · simp only [mulT46, mvx4, mvy4, mvx6, mvx2]; try omega
    · simp only [mulT47, mvx4, mvy4, mvx7, mvx3]; try omega
  · obtain rfl | rfl | rfl | rfl | rfl | rfl | rfl | rfl : t = 0 ∨ t = 1 ∨ t = 2 ∨ t = 3 ∨ t = 4 ∨ t = 5 ∨ t = 6 ∨ t = 7 := by omega
    · simp only [mulT50, mvx5, mvy5, mvx0, mvx5]; try omega
    · simp only [mulT51, mvx5, mvy5, mvx1, mvx6]; try omega
    · simp only [mulT52, mvx5, mvy5, mvx2, mvx7]; try omega
    · simp only [mulT53, mvx5, mvy5, mvx3, mvx4]; try omega
    · simp only [mulT54, mvx5, mvy5, mvx4, mvx3]; try omega
    · simp only [mulT55, mvx5, mvy5, mvx5, mvx0]; try omega
    · simp only [mulT56, mvx5, mvy5, mvx6, mvx1]; try omega
    · simp only [mulT57, mvx5, mvy5, mvx7, mvx2]; try omega
  · obtain rfl | rfl | rfl | rfl | rfl | rfl | rfl | rfl : t = 0 ∨ t = 1 ∨ t = 2 ∨ t = 3 ∨ t = 4 ∨ t = 5 ∨ t = 6 ∨ t = 7 := by omega
    · simp only [mulT60, mvx6, mvy6, mvx0, mvx6]; try omega
    · simp only [mulT61, mvx6, mvy6, mvx1, mvx7]; try omega
    · simp only [mulT62, mvx6, mvy6, mvx2, mvx4]; try omega
    · simp only [mulT63, mvx6, mvy6, mvx3, mvx5]; try omega
    · simp only [mulT64, mvx6, mvy6, mvx4, mvx2]; try omega
    · simp only [mulT65, mvx6, mvy6, mvx5, mvx3]; try omega
    · simp only [mulT66, mvx6, mvy6, mvx6, mvx0]; try omega
    · simp only [mulT67, mvx6, mvy6, mvx7, mvx1]; try omega
  · obtain rfl | rfl | rfl | rfl | rfl | rfl | rfl | rfl : t = 0 ∨ t = 1 ∨ t = 2 ∨ t = 3 ∨ t = 4 ∨ t = 5 ∨ t = 6 ∨ t = 7 := by omega
    · simp only [mulT70, mvx7, mvy7, mvx0, mvx7]; try omega
    · simp only [mulT71, mvx7, mvy7, mvx1, mvx4]; try omega
    · simp only [mulT72, mvx7, mvy7, mvx2, mvx5]; try omega
    · simp only [mulT73, mvx7, mvy7, mvx3, mvx6]; try omega
    · simp only [mulT74, mvx7, mvy7, mvx4, mvx1]; try omega
    · simp only [mulT75, mvx7, mvy7, mvx5, mvx2]; try omega
    · simp only [mulT76, mvx7, mvy7, mvx6, mvx3]; try omega
    · simp only [mulT77, mvx7, mvy7, mvx7, mvx0]; try omega
theorem mvx_add (t x y X Y : Int) (b1 : 0 ≤ t) (b2 : t ≤ 7) : mvx t (x + X) (y + Y) = mvx t x y + mvx t X Y := by
  obtain rfl | rfl | rfl | rfl | rfl | rfl | rfl | rfl : t = 0 ∨ t = 1 ∨ t = 2 ∨ t = 3 ∨ t = 4 ∨ t = 5 ∨ t = 6 ∨ t = 7 := by omega
  · simp only [mvx0]; try omega
  · simp only [mvx1]; try omega
  · simp only [mvx2]; try omega
  · simp only [mvx3]; try omega
  · simp only [mvx4]; try omega
  · simp only [mvx5]; try omega
  · simp only [mvx6]; try omega
  · simp only [mvx7]; try omega
theorem mvx_neg (t x y : Int) (b1 : 0 ≤ t) (b2 : t ≤ 7) : mvx t (-x) (-y) = -mvx t x y := by
  obtain rfl | rfl | rfl | rfl | rfl | rfl | rfl | rfl : t = 0 ∨ t = 1 ∨ t = 2 ∨ t = 3 ∨ t = 4 ∨ t = 5 ∨ t = 6 ∨ t = 7 := by omega
  · simp only [mvx0]; try omega
  · simp only [mvx1]; try omega
  · simp only [mvx2]; try omega
  · simp only [mvx3]; try omega
  · simp only [mvx4]; try omega
  · simp only [mvx5]; try omega
  · simp only [mvx6]; try omega
  · simp only [mvx7]; try omega
theorem mvx_two (t x y : Int) (b1 : 0 ≤ t) (b2 : t ≤ 7) : mvx t (2 * x) (2 * y) = 2 * mvx t x y := by
  obtain rfl | rfl | rfl | rfl | rfl | rfl | rfl | rfl : t = 0 ∨ t = 1 ∨ t = 2 ∨ t = 3 ∨ t = 4 ∨ t = 5 ∨ t = 6 ∨ t = 7 := by omega
  · simp only [mvx0]; try omega
  · simp only [mvx1]; try omega
  · simp only [mvx2]; try omega
  · simp only [mvx3]; try omega
  · simp only [mvx4]; try omega
  · simp only [mvx5]; try omega
  · simp only [mvx6]; try omega
  · simp only [mvx7]; try omega
theorem mvx_zero (t : Int) (b1 : 0 ≤ t) (b2 : t ≤ 7) : mvx t 0 0 = 0 := by
  obtain rfl | rfl | rfl | rfl | rfl | rfl | rfl | rfl : t = 0 ∨ t = 1 ∨ t = 2 ∨ t = 3 ∨ t = 4 ∨ t = 5 ∨ t = 6 ∨ t = 7 := by omega
  · rfl
  · rfl
  · rfl
  · rfl
  · rfl
  · rfl
  · rfl
  · rfl
theorem mvx_range (n t x y : Int) (b1 : 0 ≤ t) (b2 : t ≤ 7) (x1 : -n ≤ x) (x2 : x ≤ n) (y1 : -n ≤ y) (y2 : y ≤ n) : -n ≤ mvx t x y ∧ mvx t x y ≤ n := by
  obtain rfl | rfl | rfl | rfl | rfl | rfl | rfl | rfl : t = 0 ∨ t = 1 ∨ t = 2 ∨ t = 3 ∨ t = 4 ∨ t = 5 ∨ t = 6 ∨ t = 7 := by omega
  · simp only [mvx0]; omega
  · simp only [mvx1]; omega
  · simp only [mvx2]; omega
  · simp only [mvx3]; omega
  · simp only [mvx4]; omega
  · simp only [mvx5]; omega
  · simp only [mvx6]; omega
  · simp only [mvx7]; omega
theorem mvx_id (x y : Int) : mvx 0 x y = x := rfl
theorem mvy_comp (s t x y : Int) (a1 : 0 ≤ s) (a2 : s ≤ 7) (b1 : 0 ≤ t) (b2 : t ≤ 7) : mvy t (mvx s x y) (mvy s x y) = mvy (mulT s t) x y := by
  obtain rfl | rfl | rfl | rfl | rfl | rfl | rfl | rfl : s = 0 ∨ s = 1 ∨ s = 2 ∨ s = 3 ∨ s = 4 ∨ s = 5 ∨ s = 6 ∨ s = 7 := by omega
  · obtain rfl | rfl | rfl | rfl | rfl | rfl | rfl | rfl : t = 0 ∨ t = 1 ∨ t = 2 ∨ t = 3 ∨ t = 4 ∨ t = 5 ∨ t = 6 ∨ t = 7 := by omega
    · simp only [mulT00, mvx0, mvy0, mvy0, mvy0]; try omega
    · simp only [mulT01, mvx0, mvy0, mvy1, mvy1]; try omega
    · simp only [mulT02, mvx0, mvy0, mvy2, mvy2]; try omega
    · simp only [mulT03, mvx0, mvy0, mvy3, mvy3]; try omega
    · simp only [mulT04, mvx0, mvy0, mvy4, mvy4]; try omega
    · simp only [mulT05, mvx0, mvy0, mvy5, mvy5]; try omega
    · simp only [mulT06, mvx0, mvy0, mvy6, mvy6]; try omega
    · simp only [mulT07, mvx0, mvy0, mvy7, mvy7]; try omega
  · obtain rfl | rfl | rfl | rfl | rfl | rfl | rfl | rfl : t = 0 ∨ t = 1 ∨ t = 2 ∨ t = 3 ∨ t = 4 ∨ t = 5 ∨ t = 6 ∨ t = 7 := by omega
    · simp only [mulT10, mvx1, mvy1, mvy0, mvy1]; try omega
    · simp only [mulT11, mvx1, mvy1, mvy1, mvy2]; try omega
    · simp only [mulT12, mvx1, mvy1, mvy2, mvy3]; try omega
    · simp only [mulT13, mvx1, mvy1, mvy3, mvy0]; try omega
    · simp only [mulT14, mvx1, mvy1, mvy4, mvy7]; try omega
    · simp only [mulT15, mvx1, mvy1, mvy5, mvy4]; try omega
    · simp only [mulT16, mvx1, mvy1, mvy6, mvy5]; try omega
    · simp only [mulT17, mvx1, mvy1, mvy7, mvy6]; try omega
  · obtain rfl | rfl | rfl | rfl | rfl | rfl | rfl | rfl : t = 0 ∨ t = 1 ∨ t = 2 ∨ t = 3 ∨ t = 4 ∨ t = 5 ∨ t = 6 ∨ t = 7 := by omega
    · simp only [mulT20, mvx2, mvy2, mvy0, mvy2]; try omega
    · simp only [mulT21, mvx2, mvy2, mvy1, mvy3]; try omega
    · simp only [mulT22, mvx2, mvy2, mvy2, mvy0]; try omega
    · simp only [mulT23, mvx2, mvy2, mvy3, mvy1]; try omega
    · simp only [mulT24, mvx2, mvy2, mvy4, mvy6]; try omega
    · simp only [mulT25, mvx2, mvy2, mvy5, mvy7]; try omega
    · simp only [mulT26, mvx2, mvy2, mvy6, mvy4]; try omega
    · simp only [mulT27, mvx2, mvy2, mvy7, mvy5]; try omega
  · obtain rfl | rfl | rfl | rfl | rfl | rfl | rfl | rfl : t = 0 ∨ t = 1 ∨ t = 2 ∨ t = 3 ∨ t = 4 ∨ t = 5 ∨ t = 6 ∨ t = 7 := by omega
    · simp only [mulT30, mvx3, mvy3, mvy0, mvy3]; try omega
    · simp only [mulT31, mvx3, mvy3, mvy1, mvy0]; try omega
    · simp only [mulT32, mvx3, mvy3, mvy2, mvy1]; try omega
    · simp only [mulT33, mvx3, mvy3, mvy3, mvy2]; try omega
    · simp only [mulT34, mvx3, mvy3, mvy4, mvy5]; try omega
    · simp only [mulT35, mvx3, mvy3, mvy5, mvy6]; try omega
    · simp only [mulT36, mvx3, mvy3, mvy6, mvy7]; try omega
    · simp only [mulT37, mvx3, mvy3, mvy7, mvy4]; try omega
  · obtain rfl | rfl | rfl | rfl | rfl | rfl | rfl | rfl : t = 0 ∨ t = 1 ∨ t = 2 ∨ t = 3 ∨ t = 4 ∨ t = 5 ∨ t = 6 ∨ t = 7 := by omega
    · simp only [mulT40, mvx4, mvy4, mvy0, mvy4]; try omega
    · simp only [mulT41, mvx4, mvy4, mvy1, mvy5]; try omega
    · simp only [mulT42, mvx4, mvy4, mvy2, mvy6]; try omega
    · simp only [mulT43, mvx4, mvy4, mvy3, mvy7]; try omega
    · simp only [mulT44, mvx4, mvy4, mvy4, mvy0]; try omega
    · simp only [mulT45, mvx4, mvy4, mvy5, mvy1]; try omega
    · simp only [mulT46, mvx4, mvy4, mvy6, mvy2]; try omega
    · simp only [mulT47, mvx4, mvy4, mvy7, mvy3]; try omega
  · obtain rfl | rfl | rfl | rfl | rfl | rfl | rfl | rfl : t = 0 ∨ t = 1 ∨ t = 2 ∨ t = 3 ∨ t = 4 ∨ t = 5 ∨ t = 6 ∨ t = 7 := by omega
    · simp only [mulT50, mvx5, mvy5, mvy0, mvy5]; try omega
    · simp only [mulT51, mvx5, mvy5, mvy1, mvy6]; try omega
    · simp only [mulT52, mvx5, mvy5, mvy2, mvy7]; try omega
    · simp only [mulT53, mvx5, mvy5, mvy3, mvy4]; try omega
    · simp only [mulT54, mvx5, mvy5, mvy4, mvy3]; try omega
    · simp only [mulT55, mvx5, mvy5, mvy5, mvy0]; try omega
    · simp only [mulT56, mvx5, mvy5, mvy6, mvy1]; try omega
    · simp only [mulT57, mvx5, mvy5, mvy7, mvy2]; try omega
  · obtain rfl | rfl | rfl | rfl | rfl | rfl | rfl | rfl : t = 0 ∨ t = 1 ∨ t = 2 ∨ t = 3 ∨ t = 4 ∨ t = 5 ∨ t = 6 ∨ t = 7 := by omega
    · simp only [mulT60, mvx6, mvy6, mvy0, mvy6]; try omega
    · simp only [mulT61, mvx6, mvy6, mvy1, mvy7]; try omega
    · simp only [mulT62, mvx6, mvy6, mvy2, mvy4]; try omega
    · simp only [mulT63, mvx6, mvy6, mvy3, mvy5]; try omega
    · simp only [mulT64, mvx6, mvy6, mvy4, mvy2]; try omega
    · simp only [mulT65, mvx6, mvy6, mvy5, mvy3]; try omega
    · simp only [mulT66, mvx6, mvy6, mvy6, mvy0]; try omega
    · simp only [mulT67, mvx6, mvy6, mvy7, mvy1]; try omega
  · obtain rfl | rfl | rfl | rfl | rfl | rfl | rfl | rfl : t = 0 ∨ t = 1 ∨ t = 2 ∨ t = 3 ∨ t = 4 ∨ t = 5 ∨ t = 6 ∨ t = 7 := by omega
    · simp only [mulT70, mvx7, mvy7, mvy0, mvy7]; try omega
    · simp only [mulT71, mvx7, mvy7, mvy1, mvy4]; try omega
    · simp only [mulT72, mvx7, mvy7, mvy2, mvy5]; try omega
    · simp only [mulT73, mvx7, mvy7, mvy3, mvy6]; try omega
    · simp only [mulT74, mvx7, mvy7, mvy4, mvy1]; try omega
    · simp only [mulT75, mvx7, mvy7, mvy5, mvy2]; try omega
    · simp only [mulT76, mvx7, mvy7, mvy6, mvy3]; try omega
    · simp only [mulT77, mvx7, mvy7, mvy7, mvy0]; try omega
theorem mvy_add (t x y X Y : Int) (b1 : 0 ≤ t) (b2 : t ≤ 7) : mvy t (x + X) (y + Y) = mvy t x y + mvy t X Y := by
  obtain rfl | rfl | rfl | rfl | rfl | rfl | rfl | rfl : t = 0 ∨ t = 1 ∨ t = 2 ∨ t = 3 ∨ t = 4 ∨ t = 5 ∨ t = 6 ∨ t = 7 := by omega
  · simp only [mvy0]; try omega
  · simp only [mvy1]; try omega
  · simp only [mvy2]; try omega
  · simp only [mvy3]; try omega
  · simp only [mvy4]; try omega
  · simp only [mvy5]; try omega
  · simp only [mvy6]; try omega
  · simp only [mvy7]; try omega
theorem mvy_neg (t x y : Int) (b1 : 0 ≤ t) (b2 : t ≤ 7) : mvy t (-x) (-y) = -mvy t x y := by
  obtain rfl | rfl | rfl | rfl | rfl | rfl | rfl | rfl : t = 0 ∨ t = 1 ∨ t = 2 ∨ t = 3 ∨ t = 4 ∨ t = 5 ∨ t = 6 ∨ t = 7 := by omega
  · simp only [mvy0]; try omega
  · simp only [mvy1]; try omega
  · simp only [mvy2]; try omega
  · simp only [mvy3]; try omega
  · simp only [mvy4]; try omega
  · simp only [mvy5]; try omega
  · simp only [mvy6]; try omega
  · simp only [mvy7]; try omega
theorem mvy_two (t x y : Int) (b1 : 0 ≤ t) (b2 : t ≤ 7) : mvy t (2 * x) (2 * y) = 2 * mvy t x y := by
  obtain rfl | rfl | rfl | rfl | rfl | rfl | rfl | rfl : t = 0 ∨ t = 1 ∨ t = 2 ∨ t = 3 ∨ t = 4 ∨ t = 5 ∨ t = 6 ∨ t = 7 := by omega
  · simp only [mvy0]; try omega
  · simp only [mvy1]; try omega
  · simp only [mvy2]; try omega
  · simp only [mvy3]; try omega
  · simp only [mvy4]; try omega
  · simp only [mvy5]; try omega
  · simp only [mvy6]; try omega
  · simp only [mvy7]; try omega
theorem mvy_zero (t : Int) (b1 : 0 ≤ t) (b2 : t ≤ 7) : mvy t 0 0 = 0 := by
  obtain rfl | rfl | rfl | rfl | rfl | rfl | rfl | rfl : t = 0 ∨ t = 1 ∨ t = 2 ∨ t = 3 ∨ t = 4 ∨ t = 5 ∨ t = 6 ∨ t = 7 := by omega
  · rfl
  · rfl
  · rfl
  · rfl
  · rfl
  · rfl
  · rfl
  · rfl
theorem mvy_range (n t x y : Int) (b1 : 0 ≤ t) (b2 : t ≤ 7) (x1 : -n ≤ x) (x2 : x ≤ n) (y1 : -n ≤ y) (y2 : y ≤ n) : -n ≤ mvy t x y ∧ mvy t x y ≤ n := by
  obtain rfl | rfl | rfl | rfl | rfl | rfl | rfl | rfl : t = 0 ∨ t = 1 ∨ t = 2 ∨ t = 3 ∨ t = 4 ∨ t = 5 ∨ t = 6 ∨ t = 7 := by omega
  · simp only [mvy0]; omega
  · simp only [mvy1]; omega
  · simp only [mvy2]; omega
  · simp only [mvy3]; omega
  · simp only [mvy4]; omega
  · simp only [mvy5]; omega
  · simp only [mvy6]; omega
  · simp only [mvy7]; omega
theorem mvy_id (x y : Int) : mvy 0 x y = y := rfl
theorem mv_par (t x y : Int) (b1 : 0 ≤ t) (b2 : t ≤ 7) : (mvx t x y + mvy t x y) % 2 = (x + y) % 2 := by
  obtain rfl | rfl | rfl | rfl | rfl | rfl | rfl | rfl : t = 0 ∨ t = 1 ∨ t = 2 ∨ t = 3 ∨ t = 4 ∨ t = 5 ∨ t = 6 ∨ t = 7 := by omega
  · simp only [mvx0, mvy0]; try omega
  · simp only [mvx1, mvy1]; try omega
  · simp only [mvx2, mvy2]; try omega
  · simp only [mvx3, mvy3]; try omega
  · simp only [mvx4, mvy4]; try omega
  · simp only [mvx5, mvy5]; try omega
  · simp only [mvx6, mvy6]; try omega
  · simp only [mvx7, mvy7]; try omega
theorem mulT_inv (t : Int) (b1 : 0 ≤ t) (b2 : t ≤ 7) : mulT t (invT t) = 0 ∧ mulT (invT t) t = 0 ∧ invT (invT t) = t := by
  obtain rfl | rfl | rfl | rfl | rfl | rfl | rfl | rfl : t = 0 ∨ t = 1 ∨ t = 2 ∨ t = 3 ∨ t = 4 ∨ t = 5 ∨ t = 6 ∨ t = 7 := by omega
  · decide
  · decide
  · decide
  · decide
  · decide
  · decide
  · decide
  · decide
theorem mulT_zero (t : Int) (b1 : 0 ≤ t) (b2 : t ≤ 7) : mulT t 0 = t ∧ mulT 0 t = t := by
  obtain rfl | rfl | rfl | rfl | rfl | rfl | rfl | rfl : t = 0 ∨ t = 1 ∨ t = 2 ∨ t = 3 ∨ t = 4 ∨ t = 5 ∨ t = 6 ∨ t = 7 := by omega
  · decide
  · decide
  · decide
  · decide
  · decide
  · decide
  · decide
  · decide
theorem mv_inj (s t : Int) (a1 : 0 ≤ s) (a2 : s ≤ 7) (b1 : 0 ≤ t) (b2 : t ≤ 7) (h1 : mvx s 2 0 = mvx t 2 0) (h2 : mvy s 2 0 = mvy t 2 0) (h3 : mvx s 0 2 = mvx t 0 2) (h4 : mvy s 0 2 = mvy t 0 2) : s = t := by
  obtain rfl | rfl | rfl | rfl | rfl | rfl | rfl | rfl : s = 0 ∨ s = 1 ∨ s = 2 ∨ s = 3 ∨ s = 4 ∨ s = 5 ∨ s = 6 ∨ s = 7 := by omega
  · obtain rfl | rfl | rfl | rfl | rfl | rfl | rfl | rfl : t = 0 ∨ t = 1 ∨ t = 2 ∨ t = 3 ∨ t = 4 ∨ t = 5 ∨ t = 6 ∨ t = 7 := by omega
    · first | rfl | (exfalso; revert h1 h2 h3 h4; decide)
    · first | rfl | (exfalso; revert h1 h2 h3 h4; decide)
    · first | rfl | (exfalso; revert h1 h2 h3 h4; decide)
    · first | rfl | (exfalso; revert h1 h2 h3 h4; decide)
    · first | rfl | (exfalso; revert h1 h2 h3 h4; decide)
    · first | rfl | (exfalso; revert h1 h2 h3 h4; decide)
    · first | rfl | (exfalso; revert h1 h2 h3 h4; decide)
    · first | rfl | (exfalso; revert h1 h2 h3 h4; decide)
  · obtain rfl | rfl | rfl | rfl | rfl | rfl | rfl | rfl : t = 0 ∨ t = 1 ∨ t = 2 ∨ t = 3 ∨ t = 4 ∨ t = 5 ∨ t = 6 ∨ t = 7 := by omega
    · first | rfl | (exfalso; revert h1 h2 h3 h4; decide)
    · first | rfl | (exfalso; revert h1 h2 h3 h4; decide)
    · first | rfl | (exfalso; revert h1 h2 h3 h4; decide)
    · first | rfl | (exfalso; revert h1 h2 h3 h4; decide)
    · first | rfl | (exfalso; revert h1 h2 h3 h4; decide)
    · first | rfl | (exfalso; revert h1 h2 h3 h4; decide)
    · first | rfl | (exfalso; revert h1 h2 h3 h4; decide)
    · first | rfl | (exfalso; revert h1 h2 h3 h4; decide)
  · obtain rfl | rfl | rfl | rfl | rfl | rfl | rfl | rfl : t = 0 ∨ t = 1 ∨ t = 2 ∨ t = 3 ∨ t = 4 ∨ t = 5 ∨ t = 6 ∨ t = 7 := by omega
    · first | rfl | (exfalso; revert h1 h2 h3 h4; decide)
    · first | rfl | (exfalso; revert h1 h2 h3 h4; decide)
    · first | rfl | (exfalso; revert h1 h2 h3 h4; decide)
    · first | rfl | (exfalso; revert h1 h2 h3 h4; decide)
    · first | rfl | (exfalso; revert h1 h2 h3 h4; decide)
    · first | rfl | (exfalso; revert h1 h2 h3 h4; decide)
    · first | rfl | (exfalso; revert h1 h2 h3 h4; decide)
    · first | rfl | (exfalso; revert h1 h2 h3 h4; decide)
  · obtain rfl | rfl | rfl | rfl | rfl | rfl | rfl | rfl : t = 0 ∨ t = 1 ∨ t = 2 ∨ t = 3 ∨ t = 4 ∨ t = 5 ∨ t = 6 ∨ t = 7 := by omega
    · first | rfl | (exfalso; revert h1 h2 h3 h4; decide)
    · first | rfl | (exfalso; revert h1 h2 h3 h4; decide)
    · first | rfl | (exfalso; revert h1 h2 h3 h4; decide)
    · first | rfl | (exfalso; revert h1 h2 h3 h4; decide)
    · first | rfl | (exfalso; revert h1 h2 h3 h4; decide)
    · first | rfl | (exfalso; revert h1 h2 h3 h4; decide)
    · first | rfl | (exfalso; revert h1 h2 h3 h4; decide)
    · first | rfl | (exfalso; revert h1 h2 h3 h4; decide)
  · obtain rfl | rfl | rfl | rfl | rfl | rfl | rfl | rfl : t = 0 ∨ t = 1 ∨ t = 2 ∨ t = 3 ∨ t = 4 ∨ t = 5 ∨ t = 6 ∨ t = 7 := by omega
    · first | rfl | (exfalso; revert h1 h2 h3 h4; decide)
    · first | rfl | (exfalso; revert h1 h2 h3 h4; decide)
    · first | rfl | (exfalso; revert h1 h2 h3 h4; decide)
    · first | rfl | (exfalso; revert h1 h2 h3 h4; decide)
    · first | rfl | (exfalso; revert h1 h2 h3 h4; decide)
    · first | rfl | (exfalso; revert h1 h2 h3 h4; decide)
    · first | rfl | (exfalso; revert h1 h2 h3 h4; decide)
    · first | rfl | (exfalso; revert h1 h2 h3 h4; decide)
  · obtain rfl | rfl | rfl | rfl | rfl | rfl | rfl | rfl : t = 0 ∨ t = 1 ∨ t = 2 ∨ t = 3 ∨ t = 4 ∨ t = 5 ∨ t = 6 ∨ t = 7 := by omega
    · first | rfl | (exfalso; revert h1 h2 h3 h4; decide)
    · first | rfl | (exfalso; revert h1 h2 h3 h4; decide)
    · first | rfl | (exfalso; revert h1 h2 h3 h4; decide)
    · first | rfl | (exfalso; revert h1 h2 h3 h4; decide)
    · first | rfl | (exfalso; revert h1 h2 h3 h4; decide)
    · first | rfl | (exfalso; revert h1 h2 h3 h4; decide)
    · first | rfl | (exfalso; revert h1 h2 h3 h4; decide)
    · first | rfl | (exfalso; revert h1 h2 h3 h4; decide)
  · obtain rfl | rfl | rfl | rfl | rfl | rfl | rfl | rfl : t = 0 ∨ t = 1 ∨ t = 2 ∨ t = 3 ∨ t = 4 ∨ t = 5 ∨ t = 6 ∨ t = 7 := by omega
    · first | rfl | (exfalso; revert h1 h2 h3 h4; decide)
    · first | rfl | (exfalso; revert h1 h2 h3 h4; decide)
    · first | rfl | (exfalso; revert h1 h2 h3 h4; decide)
    · first | rfl | (exfalso; revert h1 h2 h3 h4; decide)
    · first | rfl | (exfalso; revert h1 h2 h3 h4; decide)
    · first | rfl | (exfalso; revert h1 h2 h3 h4; decide)
    · first | rfl | (exfalso; revert h1 h2 h3 h4; decide)
    · first | rfl | (exfalso; revert h1 h2 h3 h4; decide)
  · obtain rfl | rfl | rfl | rfl | rfl | rfl | rfl | rfl : t = 0 ∨ t = 1 ∨ t = 2 ∨ t = 3 ∨ t = 4 ∨ t = 5 ∨ t = 6 ∨ t = 7 := by omega
    · first | rfl | (exfalso; revert h1 h2 h3 h4; decide)
    · first | rfl | (exfalso; revert h1 h2 h3 h4; decide)
    · first | rfl | (exfalso; revert h1 h2 h3 h4; decide)
    · first | rfl | (exfalso; revert h1 h2 h3 h4; decide)
    · first | rfl | (exfalso; revert h1 h2 h3 h4; decide)
    · first | rfl | (exfalso; revert h1 h2 h3 h4; decide)
    · first | rfl | (exfalso; revert h1 h2 h3 h4; decide)
    · first | rfl | (exfalso; revert h1 h2 h3 h4; decide)

end Go.Proofs.YtppjogagimflpaaGreatDoor
