/-
  Says: reflections as moves, and what moves one after another do with cells (no program).
-/
import Derived.Test.YtgkiliijefkcaaaDoorCm0
set_option linter.unusedVariables false
set_option linter.unusedSimpArgs false
namespace Go.Proofs.YtgkiliijefkcaaaDoor
open Go Go.RowKit

/-- The reflection in a line, as a move. -/
def rfT (k : Int) : Int := if k = 1 then 4 else if k = 2 then 6 else if k = 3 then 5 else 7
def rfX (k c : Int) : Int := if k = 1 then 2 * c else if k = 2 then 0 else if k = 3 then c else -c
def rfY (k c : Int) : Int := if k = 1 then 0 else if k = 2 then 2 * c else c
theorem rfT1 : rfT 1 = 4 := rfl
theorem rfX1 (c : Int) : rfX 1 c = 2 * c := rfl
theorem rfY1 (c : Int) : rfY 1 c = 0 := rfl
theorem rfT2 : rfT 2 = 6 := rfl
theorem rfX2 (c : Int) : rfX 2 c = 0 := rfl
theorem rfY2 (c : Int) : rfY 2 c = 2 * c := rfl
theorem rfT3 : rfT 3 = 5 := rfl
theorem rfX3 (c : Int) : rfX 3 c = c := rfl
theorem rfY3 (c : Int) : rfY 3 c = c := rfl
theorem rfT4 : rfT 4 = 7 := rfl
theorem rfX4 (c : Int) : rfX 4 c = -c := rfl
theorem rfY4 (c : Int) : rfY 4 c = c := rfl
theorem rf_nb (x y q e : Int) (q1 : 0 ≤ q) (q2 : q ≤ 3) (e1 : 0 ≤ e) (e2 : e ≤ 2) : imX (rfT (lnK q e)) (rfX (lnK q e) (lnC q e x y)) x y = nbX q e x ∧ imY (rfT (lnK q e)) (rfY (lnK q e) (lnC q e x y)) x y = nbY q e y ∧ imQ (rfT (lnK q e)) q = nbQ q e := by
  obtain rfl | rfl | rfl | rfl : q = 0 ∨ q = 1 ∨ q = 2 ∨ q = 3 := by omega
  · obtain rfl | rfl | rfl : e = 0 ∨ e = 1 ∨ e = 2 := by omega
    · refine ⟨?_, ?_, ?_⟩ <;> simp only [lnK00, lnC00, rfT2, rfX2, rfY2, imX, imY, mvx6, mvy6, ngx6, ngy6, imQ60, nbX00, nbY00, nbQ00] <;> omega
    · refine ⟨?_, ?_, ?_⟩ <;> simp only [lnK01, lnC01, rfT3, rfX3, rfY3, imX, imY, mvx5, mvy5, ngx5, ngy5, imQ50, nbX01, nbY01, nbQ01] <;> omega
    · refine ⟨?_, ?_, ?_⟩ <;> simp only [lnK02, lnC02, rfT4, rfX4, rfY4, imX, imY, mvx7, mvy7, ngx7, ngy7, imQ70, nbX02, nbY02, nbQ02] <;> omega
  · obtain rfl | rfl | rfl : e = 0 ∨ e = 1 ∨ e = 2 := by omega
    · refine ⟨?_, ?_, ?_⟩ <;> simp only [lnK10, lnC10, rfT1, rfX1, rfY1, imX, imY, mvx4, mvy4, ngx4, ngy4, imQ41, nbX10, nbY10, nbQ10] <;> omega
    · refine ⟨?_, ?_, ?_⟩ <;> simp only [lnK11, lnC11, rfT3, rfX3, rfY3, imX, imY, mvx5, mvy5, ngx5, ngy5, imQ51, nbX11, nbY11, nbQ11] <;> omega
    · refine ⟨?_, ?_, ?_⟩ <;> simp only [lnK12, lnC12, rfT4, rfX4, rfY4, imX, imY, mvx7, mvy7, ngx7, ngy7, imQ71, nbX12, nbY12, nbQ12] <;> omega
  · obtain rfl | rfl | rfl : e = 0 ∨ e = 1 ∨ e = 2 := by omega
    · refine ⟨?_, ?_, ?_⟩ <;> simp only [lnK20, lnC20, rfT2, rfX2, rfY2, imX, imY, mvx6, mvy6, ngx6, ngy6, imQ62, nbX20, nbY20, nbQ20] <;> omega
    · refine ⟨?_, ?_, ?_⟩ <;> simp only [lnK21, lnC21, rfT3, rfX3, rfY3, imX, imY, mvx5, mvy5, ngx5, ngy5, imQ52, nbX21, nbY21, nbQ21] <;> omega
    · refine ⟨?_, ?_, ?_⟩ <;> simp only [lnK22, lnC22, rfT4, rfX4, rfY4, imX, imY, mvx7, mvy7, ngx7, ngy7, imQ72, nbX22, nbY22, nbQ22] <;> omega
  · obtain rfl | rfl | rfl : e = 0 ∨ e = 1 ∨ e = 2 := by omega
    · refine ⟨?_, ?_, ?_⟩ <;> simp only [lnK30, lnC30, rfT1, rfX1, rfY1, imX, imY, mvx4, mvy4, ngx4, ngy4, imQ43, nbX30, nbY30, nbQ30] <;> omega
    · refine ⟨?_, ?_, ?_⟩ <;> simp only [lnK31, lnC31, rfT3, rfX3, rfY3, imX, imY, mvx5, mvy5, ngx5, ngy5, imQ53, nbX31, nbY31, nbQ31] <;> omega
    · refine ⟨?_, ?_, ?_⟩ <;> simp only [lnK32, lnC32, rfT4, rfX4, rfY4, imX, imY, mvx7, mvy7, ngx7, ngy7, imQ73, nbX32, nbY32, nbQ32] <;> omega
theorem im_comp (s t X Y U V x y : Int) (a1 : 0 ≤ s) (a2 : s ≤ 7) (b1 : 0 ≤ t) (b2 : t ≤ 7) : imX t U (imX s X x y) (imY s Y x y) = imX (mulT s t) (mvx t X Y + U) x y ∧ imY t V (imX s X x y) (imY s Y x y) = imY (mulT s t) (mvy t X Y + V) x y := by
  obtain rfl | rfl | rfl | rfl | rfl | rfl | rfl | rfl : s = 0 ∨ s = 1 ∨ s = 2 ∨ s = 3 ∨ s = 4 ∨ s = 5 ∨ s = 6 ∨ s = 7 := by omega
  · obtain rfl | rfl | rfl | rfl | rfl | rfl | rfl | rfl : t = 0 ∨ t = 1 ∨ t = 2 ∨ t = 3 ∨ t = 4 ∨ t = 5 ∨ t = 6 ∨ t = 7 := by omega
    · refine ⟨?_, ?_⟩ <;> simp only [mulT00, imX, imY, mvx0, mvy0, mvx0, mvy0, mvx0, mvy0, ngx0, ngy0, ngx0, ngy0, ngx0, ngy0] <;> omega
    · refine ⟨?_, ?_⟩ <;> simp only [mulT01, imX, imY, mvx0, mvy0, mvx1, mvy1, mvx1, mvy1, ngx0, ngy0, ngx1, ngy1, ngx1, ngy1] <;> omega
    · refine ⟨?_, ?_⟩ <;> simp only [mulT02, imX, imY, mvx0, mvy0, mvx2, mvy2, mvx2, mvy2, ngx0, ngy0, ngx2, ngy2, ngx2, ngy2] <;> omega
    · refine ⟨?_, ?_⟩ <;> simp only [mulT03, imX, imY, mvx0, mvy0, mvx3, mvy3, mvx3, mvy3, ngx0, ngy0, ngx3, ngy3, ngx3, ngy3] <;> omega
    · refine ⟨?_, ?_⟩ <;> simp only [mulT04, imX, imY, mvx0, mvy0, mvx4, mvy4, mvx4, mvy4, ngx0, ngy0, ngx4, ngy4, ngx4, ngy4] <;> omega
    · refine ⟨?_, ?_⟩ <;> simp only [mulT05, imX, imY, mvx0, mvy0, mvx5, mvy5, mvx5, mvy5, ngx0, ngy0, ngx5, ngy5, ngx5, ngy5] <;> omega
    · refine ⟨?_, ?_⟩ <;> simp only [mulT06, imX, imY, mvx0, mvy0, mvx6, mvy6, mvx6, mvy6, ngx0, ngy0, ngx6, ngy6, ngx6, ngy6] <;> omega
    · refine ⟨?_, ?_⟩ <;> simp only [mulT07, imX, imY, mvx0, mvy0, mvx7, mvy7, mvx7, mvy7, ngx0, ngy0, ngx7, ngy7, ngx7, ngy7] <;> omega
  · obtain rfl | rfl | rfl | rfl | rfl | rfl | rfl | rfl : t = 0 ∨ t = 1 ∨ t = 2 ∨ t = 3 ∨ t = 4 ∨ t = 5 ∨ t = 6 ∨ t = 7 := by omega
    · refine ⟨?_, ?_⟩ <;> simp only [mulT10, imX, imY, mvx1, mvy1, mvx0, mvy0, mvx1, mvy1, ngx1, ngy1, ngx0, ngy0, ngx1, ngy1] <;> omega
    · refine ⟨?_, ?_⟩ <;> simp only [mulT11, imX, imY, mvx1, mvy1, mvx1, mvy1, mvx2, mvy2, ngx1, ngy1, ngx1, ngy1, ngx2, ngy2] <;> omega
    · refine ⟨?_, ?_⟩ <;> simp only [mulT12, imX, imY, mvx1, mvy1, mvx2, mvy2, mvx3, mvy3, ngx1, ngy1, ngx2, ngy2, ngx3, ngy3] <;> omega
    · refine ⟨?_, ?_⟩ <;> simp only [mulT13, imX, imY, mvx1, mvy1, mvx3, mvy3, mvx0, mvy0, ngx1, ngy1, ngx3, ngy3, ngx0, ngy0] <;> omega
    · refine ⟨?_, ?_⟩ <;> simp only [mulT14, imX, imY, mvx1, mvy1, mvx4, mvy4, mvx7, mvy7, ngx1, ngy1, ngx4, ngy4, ngx7, ngy7] <;> omega
    · refine ⟨?_, ?_⟩ <;> simp only [mulT15, imX, imY, mvx1, mvy1, mvx5, mvy5, mvx4, mvy4, ngx1, ngy1, ngx5, ngy5, ngx4, ngy4] <;> omega
    · refine ⟨?_, ?_⟩ <;> simp only [mulT16, imX, imY, mvx1, mvy1, mvx6, mvy6, mvx5, mvy5, ngx1, ngy1, ngx6, ngy6, ngx5, ngy5] <;> omega
    · refine ⟨?_, ?_⟩ <;> simp only [mulT17, imX, imY, mvx1, mvy1, mvx7, mvy7, mvx6, mvy6, ngx1, ngy1, ngx7, ngy7, ngx6, ngy6] <;> omega
  · obtain rfl | rfl | rfl | rfl | rfl | rfl | rfl | rfl : t = 0 ∨ t = 1 ∨ t = 2 ∨ t = 3 ∨ t = 4 ∨ t = 5 ∨ t = 6 ∨ t = 7 := by omega
    · refine ⟨?_, ?_⟩ <;> simp only [mulT20, imX, imY, mvx2, mvy2, mvx0, mvy0, mvx2, mvy2, ngx2, ngy2, ngx0, ngy0, ngx2, ngy2] <;> omega
    · refine ⟨?_, ?_⟩ <;> simp only [mulT21, imX, imY, mvx2, mvy2, mvx1, mvy1, mvx3, mvy3, ngx2, ngy2, ngx1, ngy1, ngx3, ngy3] <;> omega
    · refine ⟨?_, ?_⟩ <;> simp only [mulT22, imX, imY, mvx2, mvy2, mvx2, mvy2, mvx0, mvy0, ngx2, ngy2, ngx2, ngy2, ngx0, ngy0] <;> omega
    · refine ⟨?_, ?_⟩ <;> simp only [mulT23, imX, imY, mvx2, mvy2, mvx3, mvy3, mvx1, mvy1, ngx2, ngy2, ngx3, ngy3, ngx1, ngy1] <;> omega
    · refine ⟨?_, ?_⟩ <;> simp only [mulT24, imX, imY, mvx2, mvy2, mvx4, mvy4, mvx6, mvy6, ngx2, ngy2, ngx4, ngy4, ngx6, ngy6] <;> omega
    · refine ⟨?_, ?_⟩ <;> simp only [mulT25, imX, imY, mvx2, mvy2, mvx5, mvy5, mvx7, mvy7, ngx2, ngy2, ngx5, ngy5, ngx7, ngy7] <;> omega
    · refine ⟨?_, ?_⟩ <;> simp only [mulT26, imX, imY, mvx2, mvy2, mvx6, mvy6, mvx4, mvy4, ngx2, ngy2, ngx6, ngy6, ngx4, ngy4] <;> omega
    · refine ⟨?_, ?_⟩ <;> simp only [mulT27, imX, imY, mvx2, mvy2, mvx7, mvy7, mvx5, mvy5, ngx2, ngy2, ngx7, ngy7, ngx5, ngy5] <;> omega
  · obtain rfl | rfl | rfl | rfl | rfl | rfl | rfl | rfl : t = 0 ∨ t = 1 ∨ t = 2 ∨ t = 3 ∨ t = 4 ∨ t = 5 ∨ t = 6 ∨ t = 7 := by omega
    · refine ⟨?_, ?_⟩ <;> simp only [mulT30, imX, imY, mvx3, mvy3, mvx0, mvy0, mvx3, mvy3, ngx3, ngy3, ngx0, ngy0, ngx3, ngy3] <;> omega
    · refine ⟨?_, ?_⟩ <;> simp only [mulT31, imX, imY, mvx3, mvy3, mvx1, mvy1, mvx0, mvy0, ngx3, ngy3, ngx1, ngy1, ngx0, ngy0] <;> omega
    · refine ⟨?_, ?_⟩ <;> simp only [mulT32, imX, imY, mvx3, mvy3, mvx2, mvy2, mvx1, mvy1, ngx3, ngy3, ngx2, ngy2, ngx1, ngy1] <;> omega
    · refine ⟨?_, ?_⟩ <;> simp only [mulT33, imX, imY, mvx3, mvy3, mvx3, mvy3, mvx2, mvy2, ngx3, ngy3, ngx3, ngy3, ngx2, ngy2] <;> omega
    · refine ⟨?_, ?_⟩ <;> simp only [mulT34, imX, imY, mvx3, mvy3, mvx4, mvy4, mvx5, mvy5, ngx3, ngy3, ngx4, ngy4, ngx5, ngy5] <;> omega
    · refine ⟨?_, ?_⟩ <;> simp only [mulT35, imX, imY, mvx3, mvy3, mvx5, mvy5, mvx6, mvy6, ngx3, ngy3, ngx5, ngy5, ngx6, ngy6] <;> omega
    · refine ⟨?_, ?_⟩ <;> simp only [mulT36, imX, imY, mvx3, mvy3, mvx6, mvy6, mvx7, mvy7, ngx3, ngy3, ngx6, ngy6, ngx7, ngy7] <;> omega
    · refine ⟨?_, ?_⟩ <;> simp only [mulT37, imX, imY, mvx3, mvy3, mvx7, mvy7, mvx4, mvy4, ngx3, ngy3, ngx7, ngy7, ngx4, ngy4] <;> omega
  · obtain rfl | rfl | rfl | rfl | rfl | rfl | rfl | rfl : t = 0 ∨ t = 1 ∨ t = 2 ∨ t = 3 ∨ t = 4 ∨ t = 5 ∨ t = 6 ∨ t = 7 := by omega
    · refine ⟨?_, ?_⟩ <;> simp only [mulT40, imX, imY, mvx4, mvy4, mvx0, mvy0, mvx4, mvy4, ngx4, ngy4, ngx0, ngy0, ngx4, ngy4] <;> omega
    · refine ⟨?_, ?_⟩ <;> simp only [mulT41, imX, imY, mvx4, mvy4, mvx1, mvy1, mvx5, mvy5, ngx4, ngy4, ngx1, ngy1, ngx5, ngy5] <;> omega
    · refine ⟨?_, ?_⟩ <;> simp only [mulT42, imX, imY, mvx4, mvy4, mvx2, mvy2, mvx6, mvy6, ngx4, ngy4, ngx2, ngy2, ngx6, ngy6] <;> omega
    · refine ⟨?_, ?_⟩ <;> simp only [mulT43, imX, imY, mvx4, mvy4, mvx3, mvy3, mvx7, mvy7, ngx4, ngy4, ngx3, ngy3, ngx7, ngy7] <;> omega
    · refine ⟨?_, ?_⟩ <;> simp only [mulT44, imX, imY, mvx4, mvy4, mvx4, mvy4, mvx0, mvy0, ngx4, ngy4, ngx4, ngy4, ngx0, ngy0] <;> omega
    · refine ⟨?_, ?_⟩ <;> simp only [mulT45, imX, imY, mvx4, mvy4, mvx5, mvy5, mvx1, mvy1, ngx4, ngy4, ngx5, ngy5, ngx1, ngy1] <;> omega
    · refine ⟨?_, ?_⟩ <;> simp only [mulT46, imX, imY, mvx4, mvy4, mvx6, mvy6, mvx2, mvy2, ngx4, ngy4, ngx6, ngy6, ngx2, ngy2] <;> omega
    · refine ⟨?_, ?_⟩ <;> simp only [mulT47, imX, imY, mvx4, mvy4, mvx7, mvy7, mvx3, mvy3, ngx4, ngy4, ngx7, ngy7, ngx3, ngy3] <;> omega
  · obtain rfl | rfl | rfl | rfl | rfl | rfl | rfl | rfl : t = 0 ∨ t = 1 ∨ t = 2 ∨ t = 3 ∨ t = 4 ∨ t = 5 ∨ t = 6 ∨ t = 7 := by omega
    · refine ⟨?_, ?_⟩ <;> simp only [mulT50, imX, imY, mvx5, mvy5, mvx0, mvy0, mvx5, mvy5, ngx5, ngy5, ngx0, ngy0, ngx5, ngy5] <;> omega
    · refine ⟨?_, ?_⟩ <;> simp only [mulT51, imX, imY, mvx5, mvy5, mvx1, mvy1, mvx6, mvy6, ngx5, ngy5, ngx1, ngy1, ngx6, ngy6] <;> omega
    · refine ⟨?_, ?_⟩ <;> simp only [mulT52, imX, imY, mvx5, mvy5, mvx2, mvy2, mvx7, mvy7, ngx5, ngy5, ngx2, ngy2, ngx7, ngy7] <;> omega
    · refine ⟨?_, ?_⟩ <;> simp only [mulT53, imX, imY, mvx5, mvy5, mvx3, mvy3, mvx4, mvy4, ngx5, ngy5, ngx3, ngy3, ngx4, ngy4] <;> omega
    · refine ⟨?_, ?_⟩ <;> simp only [mulT54, imX, imY, mvx5, mvy5, mvx4, mvy4, mvx3, mvy3, ngx5, ngy5, ngx4, ngy4, ngx3, ngy3] <;> omega
    · refine ⟨?_, ?_⟩ <;> simp only [mulT55, imX, imY, mvx5, mvy5, mvx5, mvy5, mvx0, mvy0, ngx5, ngy5, ngx5, ngy5, ngx0, ngy0] <;> omega
    · refine ⟨?_, ?_⟩ <;> simp only [mulT56, imX, imY, mvx5, mvy5, mvx6, mvy6, mvx1, mvy1, ngx5, ngy5, ngx6, ngy6, ngx1, ngy1] <;> omega
    · refine ⟨?_, ?_⟩ <;> simp only [mulT57, imX, imY, mvx5, mvy5, mvx7, mvy7, mvx2, mvy2, ngx5, ngy5, ngx7, ngy7, ngx2, ngy2] <;> omega
  · obtain rfl | rfl | rfl | rfl | rfl | rfl | rfl | rfl : t = 0 ∨ t = 1 ∨ t = 2 ∨ t = 3 ∨ t = 4 ∨ t = 5 ∨ t = 6 ∨ t = 7 := by omega
    · refine ⟨?_, ?_⟩ <;> simp only [mulT60, imX, imY, mvx6, mvy6, mvx0, mvy0, mvx6, mvy6, ngx6, ngy6, ngx0, ngy0, ngx6, ngy6] <;> omega
    · refine ⟨?_, ?_⟩ <;> simp only [mulT61, imX, imY, mvx6, mvy6, mvx1, mvy1, mvx7, mvy7, ngx6, ngy6, ngx1, ngy1, ngx7, ngy7] <;> omega
    · refine ⟨?_, ?_⟩ <;> simp only [mulT62, imX, imY, mvx6, mvy6, mvx2, mvy2, mvx4, mvy4, ngx6, ngy6, ngx2, ngy2, ngx4, ngy4] <;> omega
    · refine ⟨?_, ?_⟩ <;> simp only [mulT63, imX, imY, mvx6, mvy6, mvx3, mvy3, mvx5, mvy5, ngx6, ngy6, ngx3, ngy3, ngx5, ngy5] <;> omega
    · refine ⟨?_, ?_⟩ <;> simp only [mulT64, imX, imY, mvx6, mvy6, mvx4, mvy4, mvx2, mvy2, ngx6, ngy6, ngx4, ngy4, ngx2, ngy2] <;> omega
    · refine ⟨?_, ?_⟩ <;> simp only [mulT65, imX, imY, mvx6, mvy6, mvx5, mvy5, mvx3, mvy3, ngx6, ngy6, ngx5, ngy5, ngx3, ngy3] <;> omega
    · refine ⟨?_, ?_⟩ <;> simp only [mulT66, imX, imY, mvx6, mvy6, mvx6, mvy6, mvx0, mvy0, ngx6, ngy6, ngx6, ngy6, ngx0, ngy0] <;> omega
    · refine ⟨?_, ?_⟩ <;> simp only [mulT67, imX, imY, mvx6, mvy6, mvx7, mvy7, mvx1, mvy1, ngx6, ngy6, ngx7, ngy7, ngx1, ngy1] <;> omega
  · obtain rfl | rfl | rfl | rfl | rfl | rfl | rfl | rfl : t = 0 ∨ t = 1 ∨ t = 2 ∨ t = 3 ∨ t = 4 ∨ t = 5 ∨ t = 6 ∨ t = 7 := by omega
    · refine ⟨?_, ?_⟩ <;> simp only [mulT70, imX, imY, mvx7, mvy7, mvx0, mvy0, mvx7, mvy7, ngx7, ngy7, ngx0, ngy0, ngx7, ngy7] <;> omega
    · refine ⟨?_, ?_⟩ <;> simp only [mulT71, imX, imY, mvx7, mvy7, mvx1, mvy1, mvx4, mvy4, ngx7, ngy7, ngx1, ngy1, ngx4, ngy4] <;> omega
    · refine ⟨?_, ?_⟩ <;> simp only [mulT72, imX, imY, mvx7, mvy7, mvx2, mvy2, mvx5, mvy5, ngx7, ngy7, ngx2, ngy2, ngx5, ngy5] <;> omega
    · refine ⟨?_, ?_⟩ <;> simp only [mulT73, imX, imY, mvx7, mvy7, mvx3, mvy3, mvx6, mvy6, ngx7, ngy7, ngx3, ngy3, ngx6, ngy6] <;> omega
    · refine ⟨?_, ?_⟩ <;> simp only [mulT74, imX, imY, mvx7, mvy7, mvx4, mvy4, mvx1, mvy1, ngx7, ngy7, ngx4, ngy4, ngx1, ngy1] <;> omega
    · refine ⟨?_, ?_⟩ <;> simp only [mulT75, imX, imY, mvx7, mvy7, mvx5, mvy5, mvx2, mvy2, ngx7, ngy7, ngx5, ngy5, ngx2, ngy2] <;> omega
    · refine ⟨?_, ?_⟩ <;> simp only [mulT76, imX, imY, mvx7, mvy7, mvx6, mvy6, mvx3, mvy3, ngx7, ngy7, ngx6, ngy6, ngx3, ngy3] <;> omega
    · refine ⟨?_, ?_⟩ <;> simp only [mulT77, imX, imY, mvx7, mvy7, mvx7, mvy7, mvx0, mvy0, ngx7, ngy7, ngx7, ngy7, ngx0, ngy0] <;> omega
theorem imQ_comp (s t q : Int) (a1 : 0 ≤ s) (a2 : s ≤ 7) (b1 : 0 ≤ t) (b2 : t ≤ 7) : imQ t (imQ s q) = imQ (mulT s t) q := by
  unfold imQ mulT; (repeat' split) <;> omega
theorem mulT_flip (s t : Int) (a1 : 0 ≤ s) (a2 : s ≤ 7) (b1 : 4 ≤ t) (b2 : t ≤ 7) : (4 ≤ mulT s t) ↔ ¬ (4 ≤ s) := by
  unfold mulT; (repeat' split) <;> omega
theorem rf_range (k c : Int) (h1 : 1 ≤ k) (h2 : k ≤ 4) (c1 : -1000 ≤ c) (c2 : c ≤ 1000) : 4 ≤ rfT k ∧ rfT k ≤ 7 ∧ -2000 ≤ rfX k c ∧ rfX k c ≤ 2000 ∧ -2000 ≤ rfY k c ∧ rfY k c ≤ 2000 ∧ (rfX k c + rfY k c) % 2 = 0 := by
  unfold rfT rfX rfY; (repeat' split) <;> omega
theorem im_bound (t X Y x y n m : Int) (a1 : 0 ≤ t) (a2 : t ≤ 7) (x1 : -n ≤ x) (x2 : x ≤ n) (y1 : -n ≤ y) (y2 : y ≤ n) (h1 : -m ≤ imX t X x y) (h2 : imX t X x y ≤ m) (h3 : -m ≤ imY t Y x y) (h4 : imY t Y x y ≤ m) : -m - n ≤ X ∧ X ≤ m + n + 1 ∧ -m - n ≤ Y ∧ Y ≤ m + n + 1 := by
  have := mvx_range n t x y a1 a2 x1 x2 y1 y2
  have := mvy_range n t x y a1 a2 x1 x2 y1 y2
  have := ngx_range t
  have := ngy_range t
  unfold imX at h1 h2
  unfold imY at h3 h4
  omega

end Go.Proofs.YtgkiliijefkcaaaDoor
