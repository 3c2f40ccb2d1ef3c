/-
  Says: how moves take cells to cells, and which cells are neighbours (no program).
-/
import Derived.Test.YtgkiliijefkcaaaDoorMv0
set_option linter.unusedVariables false
set_option linter.unusedSimpArgs false
namespace Go.Proofs.YtgkiliijefkcaaaDoor
open Go Go.RowKit

/-- Whether a turn takes x to its negative; and y. -/
def ngx (t : Int) : Int := if t = 1 then 1 else if t = 2 then 1 else if t = 4 then 1 else if t = 5 then 1 else 0
def ngy (t : Int) : Int := if t = 2 then 1 else if t = 3 then 1 else if t = 5 then 1 else if t = 6 then 1 else 0
/-- Where a move takes a cell. -/
def imX (t X x y : Int) : Int := mvx t x y + X - ngx t
def imY (t Y x y : Int) : Int := mvy t x y + Y - ngy t
def imQ (t q : Int) : Int := if t < 4 then (q + t) % 4 else (t - q) % 4
/-- The cell behind an edge. -/
def nbX (q e x : Int) : Int := if e = 0 then (if q = 1 then x + 1 else if q = 3 then x - 1 else x) else x
def nbY (q e y : Int) : Int := if e = 0 then (if q = 2 then y + 1 else if q = 0 then y - 1 else y) else y
def nbQ (q e : Int) : Int := if e = 0 then (q + 2) % 4 else if e = 1 then (1 - q) % 4 else (3 - q) % 4
/-- The line of an edge. -/
def lnK (q e : Int) : Int := if e = 1 then 3 else if e = 2 then 4 else if q = 0 then 2 else if q = 2 then 2 else 1
def lnC (q e x y : Int) : Int := if e = 1 then x + y + 1 else if e = 2 then y - x else if q = 0 then y else if q = 2 then y + 1 else if q = 1 then x + 1 else x
/-- The edge to which a turn takes an edge. -/
def edT (t e : Int) : Int := if e = 0 then 0 else if t = 1 then 3 - e else if t = 3 then 3 - e else if t = 4 then 3 - e else if t = 6 then 3 - e else e
/-- The only turn, and move, from a cell to another one. -/
def btT (xa ya qa xb yb qb : Int) : Int := if (xa + ya + xb + yb + qa + qb) % 2 = 0 then (qb - qa) % 4 else 4 + (qa + qb) % 4
theorem ngx0 : ngx 0 = 0 := rfl
theorem ngy0 : ngy 0 = 0 := rfl
theorem imQ00 : imQ 0 0 = 0 := rfl
theorem imQ01 : imQ 0 1 = 1 := rfl
theorem imQ02 : imQ 0 2 = 2 := rfl
theorem imQ03 : imQ 0 3 = 3 := rfl
theorem edT00 : edT 0 0 = 0 := rfl
theorem edT01 : edT 0 1 = 1 := rfl
theorem edT02 : edT 0 2 = 2 := rfl
theorem ngx1 : ngx 1 = 1 := rfl
theorem ngy1 : ngy 1 = 0 := rfl
theorem imQ10 : imQ 1 0 = 1 := rfl
theorem imQ11 : imQ 1 1 = 2 := rfl
theorem imQ12 : imQ 1 2 = 3 := rfl
theorem imQ13 : imQ 1 3 = 0 := rfl
theorem edT10 : edT 1 0 = 0 := rfl
theorem edT11 : edT 1 1 = 2 := rfl
theorem edT12 : edT 1 2 = 1 := rfl
theorem ngx2 : ngx 2 = 1 := rfl
theorem ngy2 : ngy 2 = 1 := rfl
theorem imQ20 : imQ 2 0 = 2 := rfl
theorem imQ21 : imQ 2 1 = 3 := rfl
theorem imQ22 : imQ 2 2 = 0 := rfl
theorem imQ23 : imQ 2 3 = 1 := rfl
theorem edT20 : edT 2 0 = 0 := rfl
theorem edT21 : edT 2 1 = 1 := rfl
theorem edT22 : edT 2 2 = 2 := rfl
theorem ngx3 : ngx 3 = 0 := rfl
theorem ngy3 : ngy 3 = 1 := rfl
theorem imQ30 : imQ 3 0 = 3 := rfl
theorem imQ31 : imQ 3 1 = 0 := rfl
theorem imQ32 : imQ 3 2 = 1 := rfl
theorem imQ33 : imQ 3 3 = 2 := rfl
theorem edT30 : edT 3 0 = 0 := rfl
theorem edT31 : edT 3 1 = 2 := rfl
theorem edT32 : edT 3 2 = 1 := rfl
theorem ngx4 : ngx 4 = 1 := rfl
theorem ngy4 : ngy 4 = 0 := rfl
theorem imQ40 : imQ 4 0 = 0 := rfl
theorem imQ41 : imQ 4 1 = 3 := rfl
theorem imQ42 : imQ 4 2 = 2 := rfl
theorem imQ43 : imQ 4 3 = 1 := rfl
theorem edT40 : edT 4 0 = 0 := rfl
theorem edT41 : edT 4 1 = 2 := rfl
theorem edT42 : edT 4 2 = 1 := rfl
theorem ngx5 : ngx 5 = 1 := rfl
theorem ngy5 : ngy 5 = 1 := rfl
theorem imQ50 : imQ 5 0 = 1 := rfl
theorem imQ51 : imQ 5 1 = 0 := rfl
theorem imQ52 : imQ 5 2 = 3 := rfl
theorem imQ53 : imQ 5 3 = 2 := rfl
theorem edT50 : edT 5 0 = 0 := rfl
theorem edT51 : edT 5 1 = 1 := rfl
theorem edT52 : edT 5 2 = 2 := rfl
theorem ngx6 : ngx 6 = 0 := rfl
theorem ngy6 : ngy 6 = 1 := rfl
theorem imQ60 : imQ 6 0 = 2 := rfl
theorem imQ61 : imQ 6 1 = 1 := rfl
theorem imQ62 : imQ 6 2 = 0 := rfl
theorem imQ63 : imQ 6 3 = 3 := rfl
theorem edT60 : edT 6 0 = 0 := rfl
theorem edT61 : edT 6 1 = 2 := rfl
theorem edT62 : edT 6 2 = 1 := rfl
theorem ngx7 : ngx 7 = 0 := rfl
theorem ngy7 : ngy 7 = 0 := rfl
theorem imQ70 : imQ 7 0 = 3 := rfl
theorem imQ71 : imQ 7 1 = 2 := rfl
theorem imQ72 : imQ 7 2 = 1 := rfl
theorem imQ73 : imQ 7 3 = 0 := rfl
theorem edT70 : edT 7 0 = 0 := rfl
theorem edT71 : edT 7 1 = 1 := rfl
theorem edT72 : edT 7 2 = 2 := rfl
theorem nbX00 (x : Int) : nbX 0 0 x = x := rfl
theorem nbY00 (y : Int) : nbY 0 0 y = y - 1 := rfl
theorem nbQ00 : nbQ 0 0 = 2 := rfl
theorem lnK00 : lnK 0 0 = 2 := rfl
theorem lnC00 (x y : Int) : lnC 0 0 x y = y := rfl
theorem nbX01 (x : Int) : nbX 0 1 x = x := rfl
theorem nbY01 (y : Int) : nbY 0 1 y = y := rfl
theorem nbQ01 : nbQ 0 1 = 1 := rfl
theorem lnK01 : lnK 0 1 = 3 := rfl
theorem lnC01 (x y : Int) : lnC 0 1 x y = x + y + 1 := rfl
theorem nbX02 (x : Int) : nbX 0 2 x = x := rfl
theorem nbY02 (y : Int) : nbY 0 2 y = y := rfl
theorem nbQ02 : nbQ 0 2 = 3 := rfl
theorem lnK02 : lnK 0 2 = 4 := rfl
theorem lnC02 (x y : Int) : lnC 0 2 x y = y - x := rfl
theorem nbX10 (x : Int) : nbX 1 0 x = x + 1 := rfl
theorem nbY10 (y : Int) : nbY 1 0 y = y := rfl
theorem nbQ10 : nbQ 1 0 = 3 := rfl
theorem lnK10 : lnK 1 0 = 1 := rfl
theorem lnC10 (x y : Int) : lnC 1 0 x y = x + 1 := rfl
theorem nbX11 (x : Int) : nbX 1 1 x = x := rfl
theorem nbY11 (y : Int) : nbY 1 1 y = y := rfl
theorem nbQ11 : nbQ 1 1 = 0 := rfl
theorem lnK11 : lnK 1 1 = 3 := rfl
theorem lnC11 (x y : Int) : lnC 1 1 x y = x + y + 1 := rfl
theorem nbX12 (x : Int) : nbX 1 2 x = x := rfl
theorem nbY12 (y : Int) : nbY 1 2 y = y := rfl
theorem nbQ12 : nbQ 1 2 = 2 := rfl
theorem lnK12 : lnK 1 2 = 4 := rfl
theorem lnC12 (x y : Int) : lnC 1 2 x y = y - x := rfl
theorem nbX20 (x : Int) : nbX 2 0 x = x := rfl
theorem nbY20 (y : Int) : nbY 2 0 y = y + 1 := rfl
theorem nbQ20 : nbQ 2 0 = 0 := rfl
theorem lnK20 : lnK 2 0 = 2 := rfl
theorem lnC20 (x y : Int) : lnC 2 0 x y = y + 1 := rfl
theorem nbX21 (x : Int) : nbX 2 1 x = x := rfl
theorem nbY21 (y : Int) : nbY 2 1 y = y := rfl
theorem nbQ21 : nbQ 2 1 = 3 := rfl
theorem lnK21 : lnK 2 1 = 3 := rfl
theorem lnC21 (x y : Int) : lnC 2 1 x y = x + y + 1 := rfl
theorem nbX22 (x : Int) : nbX 2 2 x = x := rfl
theorem nbY22 (y : Int) : nbY 2 2 y = y := rfl
theorem nbQ22 : nbQ 2 2 = 1 := rfl
theorem lnK22 : lnK 2 2 = 4 := rfl
theorem lnC22 (x y : Int) : lnC 2 2 x y = y - x := rfl
theorem nbX30 (x : Int) : nbX 3 0 x = x - 1 := rfl
theorem nbY30 (y : Int) : nbY 3 0 y = y := rfl
theorem nbQ30 : nbQ 3 0 = 1 := rfl
theorem lnK30 : lnK 3 0 = 1 := rfl
theorem lnC30 (x y : Int) : lnC 3 0 x y = x := rfl
theorem nbX31 (x : Int) : nbX 3 1 x = x := rfl
theorem nbY31 (y : Int) : nbY 3 1 y = y := rfl
theorem nbQ31 : nbQ 3 1 = 2 := rfl
theorem lnK31 : lnK 3 1 = 3 := rfl
theorem lnC31 (x y : Int) : lnC 3 1 x y = x + y + 1 := rfl
theorem nbX32 (x : Int) : nbX 3 2 x = x := rfl
theorem nbY32 (y : Int) : nbY 3 2 y = y := rfl
theorem nbQ32 : nbQ 3 2 = 0 := rfl
theorem lnK32 : lnK 3 2 = 4 := rfl
theorem lnC32 (x y : Int) : lnC 3 2 x y = y - x := rfl

theorem ngx_range (t : Int) : 0 ≤ ngx t ∧ ngx t ≤ 1 := by unfold ngx; (repeat' split) <;> omega
theorem ngy_range (t : Int) : 0 ≤ ngy t ∧ ngy t ≤ 1 := by unfold ngy; (repeat' split) <;> omega
theorem imQ_range (t q : Int) : 0 ≤ imQ t q ∧ imQ t q ≤ 3 := by unfold imQ; split <;> omega
theorem nbQ_range (q e : Int) : 0 ≤ nbQ q e ∧ nbQ q e ≤ 3 := by unfold nbQ; (repeat' split) <;> omega
theorem im_nb (t X Y x y q e : Int) (a1 : 0 ≤ t) (a2 : t ≤ 7) (q1 : 0 ≤ q) (q2 : q ≤ 3) (e1 : 0 ≤ e) (e2 : e ≤ 2) : imX t X (nbX q e x) (nbY q e y) = nbX (imQ t q) (edT t e) (imX t X x y) ∧ imY t Y (nbX q e x) (nbY q e y) = nbY (imQ t q) (edT t e) (imY t Y x y) ∧ imQ t (nbQ q e) = nbQ (imQ t q) (edT t e) := by
  obtain rfl | rfl | rfl | rfl | rfl | rfl | rfl | rfl : t = 0 ∨ t = 1 ∨ t = 2 ∨ t = 3 ∨ t = 4 ∨ t = 5 ∨ t = 6 ∨ t = 7 := by omega
  · obtain rfl | rfl | rfl | rfl : q = 0 ∨ q = 1 ∨ q = 2 ∨ q = 3 := by omega
    · obtain rfl | rfl | rfl : e = 0 ∨ e = 1 ∨ e = 2 := by omega
      · refine ⟨?_, ?_, ?_⟩ <;> simp only [nbX00, nbY00, nbQ00, imQ00, edT00, nbX00, nbY00, nbQ00, imQ02, imX, imY, mvx0, mvy0, ngx0, ngy0] <;> omega
      · refine ⟨?_, ?_, ?_⟩ <;> simp only [nbX01, nbY01, nbQ01, imQ00, edT01, nbX01, nbY01, nbQ01, imQ01, imX, imY, mvx0, mvy0, ngx0, ngy0] <;> omega
      · refine ⟨?_, ?_, ?_⟩ <;> simp only [nbX02, nbY02, nbQ02, imQ00, edT02, nbX02, nbY02, nbQ02, imQ03, imX, imY, mvx0, mvy0, ngx0, ngy0] <;> omega
    · obtain rfl | rfl | rfl : e = 0 ∨ e = 1 ∨ e = 2 := by omega
      · refine ⟨?_, ?_, ?_⟩ <;> simp only [nbX10, nbY10, nbQ10, imQ01, edT00, nbX10, nbY10, nbQ10, imQ03, imX, imY, mvx0, mvy0, ngx0, ngy0] <;> omega
      · refine ⟨?_, ?_, ?_⟩ <;> simp only [nbX11, nbY11, nbQ11, imQ01, edT01, nbX11, nbY11, nbQ11, imQ00, imX, imY, mvx0, mvy0, ngx0, ngy0] <;> omega
      · refine ⟨?_, ?_, ?_⟩ <;> simp only [nbX12, nbY12, nbQ12, imQ01, edT02, nbX12, nbY12, nbQ12, imQ02, imX, imY, mvx0, mvy0, ngx0, ngy0] <;> omega
    · obtain rfl | rfl | rfl : e = 0 ∨ e = 1 ∨ e = 2 := by omega
      · refine ⟨?_, ?_, ?_⟩ <;> simp only [nbX20, nbY20, nbQ20, imQ02, edT00, nbX20, nbY20, nbQ20, imQ00, imX, imY, mvx0, mvy0, ngx0, ngy0] <;> omega
      · refine ⟨?_, ?_, ?_⟩ <;> simp only [nbX21, nbY21, nbQ21, imQ02, edT01, nbX21, nbY21, nbQ21, imQ03, imX, imY, mvx0, mvy0, ngx0, ngy0] <;> omega
      · refine ⟨?_, ?_, ?_⟩ <;> simp only [nbX22, nbY22, nbQ22, imQ02, edT02, nbX22, nbY22, nbQ22, imQ01, imX, imY, mvx0, mvy0, ngx0, ngy0] <;> omega
    · obtain rfl | rfl | rfl : e = 0 ∨ e = 1 ∨ e = 2 := by omega
      · refine ⟨?_, ?_, ?_⟩ <;> simp only [nbX30, nbY30, nbQ30, imQ03, edT00, nbX30, nbY30, nbQ30, imQ01, imX, imY, mvx0, mvy0, ngx0, ngy0] <;> omega
      · refine ⟨?_, ?_, ?_⟩ <;> simp only [nbX31, nbY31, nbQ31, imQ03, edT01, nbX31, nbY31, nbQ31, imQ02, imX, imY, mvx0, mvy0, ngx0, ngy0] <;> omega
      · refine ⟨?_, ?_, ?_⟩ <;> simp only [nbX32, nbY32, nbQ32, imQ03, edT02, nbX32, nbY32, nbQ32, imQ00, imX, imY, mvx0, mvy0, ngx0, ngy0] <;> omega
  · obtain rfl | rfl | rfl | rfl : q = 0 ∨ q = 1 ∨ q = 2 ∨ q = 3 := by omega
    · obtain rfl | rfl | rfl : e = 0 ∨ e = 1 ∨ e = 2 := by omega
      · refine ⟨?_, ?_, ?_⟩ <;> simp only [nbX00, nbY00, nbQ00, imQ10, edT10, nbX10, nbY10, nbQ10, imQ12, imX, imY, mvx1, mvy1, ngx1, ngy1] <;> omega
      · refine ⟨?_, ?_, ?_⟩ <;> simp only [nbX01, nbY01, nbQ01, imQ10, edT11, nbX12, nbY12, nbQ12, imQ11, imX, imY, mvx1, mvy1, ngx1, ngy1] <;> omega
      · refine ⟨?_, ?_, ?_⟩ <;> simp only [nbX02, nbY02, nbQ02, imQ10, edT12, nbX11, nbY11, nbQ11, imQ13, imX, imY, mvx1, mvy1, ngx1, ngy1] <;> omega
    · obtain rfl | rfl | rfl : e = 0 ∨ e = 1 ∨ e = 2 := by omega
      · refine ⟨?_, ?_, ?_⟩ <;> simp only [nbX10, nbY10, nbQ10, imQ11, edT10, nbX20, nbY20, nbQ20, imQ13, imX, imY, mvx1, mvy1, ngx1, ngy1] <;> omega
      · refine ⟨?_, ?_, ?_⟩ <;> simp only [nbX11, nbY11, nbQ11, imQ11, edT11, nbX22, nbY22, nbQ22, imQ10, imX, imY, mvx1, mvy1, ngx1, ngy1] <;> omega
      · refine ⟨?_, ?_, ?_⟩ <;> simp only [nbX12, nbY12, nbQ12, imQ11, edT12, nbX21, nbY21, nbQ21, imQ12, imX, imY, mvx1, mvy1, ngx1, ngy1] <;> omega
    · obtain rfl | rfl | rfl : e = 0 ∨ e = 1 ∨ e = 2 := by omega
      · refine ⟨?_, ?_, ?_⟩ <;> simp only [nbX20, nbY20, nbQ20, imQ12, edT10, nbX30, nbY30, nbQ30, imQ10, imX, imY, mvx1, mvy1, ngx1, ngy1] <;> omega
      · refine ⟨?_, ?_, ?_⟩ <;> simp only [nbX21, nbY21, nbQ21, imQ12, edT11, nbX32, nbY32, nbQ32, imQ13, imX, imY, mvx1, mvy1, ngx1, ngy1] <;> omega
      · refine ⟨?_, ?_, ?_⟩ <;> simp only [nbX22, nbY22, nbQ22, imQ12, edT12, nbX31, nbY31, nbQ31, imQ11, imX, imY, mvx1, mvy1, ngx1, ngy1] <;> omega
    · obtain rfl | rfl | rfl : e = 0 ∨ e = 1 ∨ e = 2 := by omega
      · refine ⟨?_, ?_, ?_⟩ <;> simp only [nbX30, nbY30, nbQ30, imQ13, edT10, nbX00, nbY00, nbQ00, imQ11, imX, imY, mvx1, mvy1, ngx1, ngy1] <;> omega
      · refine ⟨?_, ?_, ?_⟩ <;> simp only [nbX31, nbY31, nbQ31, imQ13, edT11, nbX02, nbY02, nbQ02, imQ12, imX, imY, mvx1, mvy1, ngx1, ngy1] <;> omega
      · refine ⟨?_, ?_, ?_⟩ <;> simp only [nbX32, nbY32, nbQ32, imQ13, edT12, nbX01, nbY01, nbQ01, imQ10, imX, imY, mvx1, mvy1, ngx1, ngy1] <;> omega
  · obtain rfl | rfl | rfl | rfl : q = 0 ∨ q = 1 ∨ q = 2 ∨ q = 3 := by omega
    · obtain rfl | rfl | rfl : e = 0 ∨ e = 1 ∨ e = 2 := by omega
      · refine ⟨?_, ?_, ?_⟩ <;> simp only [nbX00, nbY00, nbQ00, imQ20, edT20, nbX20, nbY20, nbQ20, imQ22, imX, imY, mvx2, mvy2, ngx2, ngy2] <;> omega
      · refine ⟨?_, ?_, ?_⟩ <;> simp only [nbX01, nbY01, nbQ01, imQ20, edT21, nbX21, nbY21, nbQ21, imQ21, imX, imY, mvx2, mvy2, ngx2, ngy2] <;> omega
      · refine ⟨?_, ?_, ?_⟩ <;> simp only [nbX02, nbY02, nbQ02, imQ20, edT22, nbX22, nbY22, nbQ22, imQ23, imX, imY, mvx2, mvy2, ngx2, ngy2] <;> omega
    · obtain rfl | rfl | rfl : e = 0 ∨ e = 1 ∨ e = 2 := by omega
      · refine ⟨?_, ?_, ?_⟩ <;> simp only [nbX10, nbY10, nbQ10, imQ21, edT20, nbX30, nbY30, nbQ30, imQ23, imX, imY, mvx2, mvy2, ngx2, ngy2] <;> omega
      · refine ⟨?_, ?_, ?_⟩ <;> simp only [nbX11, nbY11, nbQ11, imQ21, edT21, nbX31, nbY31, nbQ31, imQ20, imX, imY, mvx2, mvy2, ngx2, ngy2] <;> omega
      · refine ⟨?_, ?_, ?_⟩ <;> simp only [nbX12, nbY12, nbQ12, imQ21, edT22, nbX32, nbY32, nbQ32, imQ22, imX, imY, mvx2, mvy2, ngx2, ngy2] <;> omega
    · obtain rfl | rfl | rfl : e = 0 ∨ e = 1 ∨ e = 2 := by omega
      · refine ⟨?_, ?_, ?_⟩ <;> simp only [nbX20, nbY20, nbQ20, imQ22, edT20, nbX00, nbY00, nbQ00, imQ20, imX, imY, mvx2, mvy2, ngx2, ngy2] <;> omega
      · refine ⟨?_, ?_, ?_⟩ <;> simp only [nbX21, nbY21, nbQ21, imQ22, edT21, nbX01, nbY01, nbQ01, imQ23, imX, imY, mvx2, mvy2, ngx2, ngy2] <;> omega
      · refine ⟨?_, ?_, ?_⟩ <;> simp only [nbX22, nbY22, nbQ22, imQ22, edT22, nbX02, nbY02, nbQ02, imQ21, imX, imY, mvx2, mvy2, ngx2, ngy2] <;> omega
    · obtain rfl | rfl | rfl : e = 0 ∨ e = 1 ∨ e = 2 := by omega
      · refine ⟨?_, ?_, ?_⟩ <;> simp only [nbX30, nbY30, nbQ30, imQ23, edT20, nbX10, nbY10, nbQ10, imQ21, imX, imY, mvx2, mvy2, ngx2, ngy2] <;> omega
      · refine ⟨?_, ?_, ?_⟩ <;> simp only [nbX31, nbY31, nbQ31, imQ23, edT21, nbX11, nbY11, nbQ11, imQ22, imX, imY, mvx2, mvy2, ngx2, ngy2] <;> omega
      · refine ⟨?_, ?_, ?_⟩ <;> simp only [nbX32, nbY32, nbQ32, imQ23, edT22, nbX12, nbY12, nbQ12, imQ20, imX, imY, mvx2, mvy2, ngx2, ngy2] <;> omega
  · obtain rfl | rfl | rfl | rfl : q = 0 ∨ q = 1 ∨ q = 2 ∨ q = 3 := by omega
    · obtain rfl | rfl | rfl : e = 0 ∨ e = 1 ∨ e = 2 := by omega
      · refine ⟨?_, ?_, ?_⟩ <;> simp only [nbX00, nbY00, nbQ00, imQ30, edT30, nbX30, nbY30, nbQ30, imQ32, imX, imY, mvx3, mvy3, ngx3, ngy3] <;> omega
      · refine ⟨?_, ?_, ?_⟩ <;> simp only [nbX01, nbY01, nbQ01, imQ30, edT31, nbX32, nbY32, nbQ32, imQ31, imX, imY, mvx3, mvy3, ngx3, ngy3] <;> omega
      · refine ⟨?_, ?_, ?_⟩ <;> simp only [nbX02, nbY02, nbQ02, imQ30, edT32, nbX31, nbY31, nbQ31, imQ33, imX, imY, mvx3, mvy3, ngx3, ngy3] <;> omega
    · obtain rfl | rfl | rfl : e = 0 ∨ e = 1 ∨ e = 2 := by omega
      · refine ⟨?_, ?_, ?_⟩ <;> simp only [nbX10, nbY10, nbQ10, imQ31, edT30, nbX00, nbY00, nbQ00, imQ33, imX, imY, mvx3, mvy3, ngx3, ngy3] <;> omega
      · refine ⟨?_, ?_, ?_⟩ <;> simp only [nbX11, nbY11, nbQ11, imQ31, edT31, nbX02, nbY02, nbQ02, imQ30, imX, imY, mvx3, mvy3, ngx3, ngy3] <;> omega
      · refine ⟨?_, ?_, ?_⟩ <;> simp only [nbX12, nbY12, nbQ12, imQ31, edT32, nbX01, nbY01, nbQ01, imQ32, imX, imY, mvx3, mvy3, ngx3, ngy3] <;> omega
    · obtain rfl | rfl | rfl : e = 0 ∨ e = 1 ∨ e = 2 := by omega
      · refine ⟨?_, ?_, ?_⟩ <;> simp only [nbX20, nbY20, nbQ20, imQ32, edT30, nbX10, nbY10, nbQ10, imQ30, imX, imY, mvx3, mvy3, ngx3, ngy3] <;> omega
      · refine ⟨?_, ?_, ?_⟩ <;> simp only [nbX21, nbY21, nbQ21, imQ32, edT31, nbX12, nbY12, nbQ12, imQ33, imX, imY, mvx3, mvy3, ngx3, ngy3] <;> omega
      · refine ⟨?_, ?_, ?_⟩ <;> simp only [nbX22, nbY22, nbQ22, imQ32, edT32, nbX11, nbY11, nbQ11, imQ31, imX, imY, mvx3, mvy3, ngx3, ngy3] <;> omega
    · obtain rfl | rfl | rfl : e = 0 ∨ e = 1 ∨ e = 2 := by omega
      · refine ⟨?_, ?_, ?_⟩ <;> simp only [nbX30, nbY30, nbQ30, imQ33, edT30, nbX20, nbY20, nbQ20, imQ31, imX, imY, mvx3, mvy3, ngx3, ngy3] <;> omega
      · refine ⟨?_, ?_, ?_⟩ <;> simp only [nbX31, nbY31, nbQ31, imQ33, edT31, nbX22, nbY22, nbQ22, imQ32, imX, imY, mvx3, mvy3, ngx3, ngy3] <;> omega
      · refine ⟨?_, ?_, ?_⟩ <;> simp only [nbX32, nbY32, nbQ32, imQ33, edT32, nbX21, nbY21, nbQ21, imQ30, imX, imY, mvx3, mvy3, ngx3, ngy3] <;> omega
  · obtain rfl | rfl | rfl | rfl : q = 0 ∨ q = 1 ∨ q = 2 ∨ q = 3 := by omega
    · obtain rfl | rfl | rfl : e = 0 ∨ e = 1 ∨ e = 2 := by omega
      · refine ⟨?_, ?_, ?_⟩ <;> simp only [nbX00, nbY00, nbQ00, imQ40, edT40, nbX00, nbY00, nbQ00, imQ42, imX, imY, mvx4, mvy4, ngx4, ngy4] <;> omega
      · refine ⟨?_, ?_, ?_⟩ <;> simp only [nbX01, nbY01, nbQ01, imQ40, edT41, nbX02, nbY02, nbQ02, imQ41, imX, imY, mvx4, mvy4, ngx4, ngy4] <;> omega
      · refine ⟨?_, ?_, ?_⟩ <;> simp only [nbX02, nbY02, nbQ02, imQ40, edT42, nbX01, nbY01, nbQ01, imQ43, imX, imY, mvx4, mvy4, ngx4, ngy4] <;> omega
    · obtain rfl | rfl | rfl : e = 0 ∨ e = 1 ∨ e = 2 := by omega
      · refine ⟨?_, ?_, ?_⟩ <;> simp only [nbX10, nbY10, nbQ10, imQ41, edT40, nbX30, nbY30, nbQ30, imQ43, imX, imY, mvx4, mvy4, ngx4, ngy4] <;> omega
      · refine ⟨?_, ?_, ?_⟩ <;> simp only [nbX11, nbY11, nbQ11, imQ41, edT41, nbX32, nbY32, nbQ32, imQ40, imX, imY, mvx4, mvy4, ngx4, ngy4] <;> omega
      · refine ⟨?_, ?_, ?_⟩ <;> simp only [nbX12, nbY12, nbQ12, imQ41, edT42, nbX31, nbY31, nbQ31, imQ42, imX, imY, mvx4, mvy4, ngx4, ngy4] <;> omega
    · obtain rfl | rfl | rfl : e = 0 ∨ e = 1 ∨ e = 2 := by omega
      · refine ⟨?_, ?_, ?_⟩ <;> simp only [nbX20, nbY20, nbQ20, imQ42, edT40, nbX20, nbY20, nbQ20, imQ40, imX, imY, mvx4, mvy4, ngx4, ngy4] <;> omega
      · refine ⟨?_, ?_, ?_⟩ <;> simp only [nbX21, nbY21, nbQ21, imQ42, edT41, nbX22, nbY22, nbQ22, imQ43, imX, imY, mvx4, mvy4, ngx4, ngy4] <;> omega
      · refine ⟨?_, ?_, ?_⟩ <;> simp only [nbX22, nbY22, nbQ22, imQ42, edT42, nbX21, nbY21, nbQ21, imQ41, imX, imY, mvx4, mvy4, ngx4, ngy4] <;> omega
    · obtain rfl | rfl | rfl : e = 0 ∨ e = 1 ∨ e = 2 := by omega
      · refine ⟨?_, ?_, ?_⟩ <;> simp only [nbX30, nbY30, nbQ30, imQ43, edT40, nbX10, nbY10, nbQ10, imQ41, imX, imY, mvx4, mvy4, ngx4, ngy4] <;> omega
      · refine ⟨?_, ?_, ?_⟩ <;> simp only [nbX31, nbY31, nbQ31, imQ43, edT41, nbX12, nbY12, nbQ12, imQ42, imX, imY, mvx4, mvy4, ngx4, ngy4] <;> omega
      · refine ⟨?_, ?_, ?_⟩ <;> simp only [nbX32, nbY32, nbQ32, imQ43, edT42, nbX11, nbY11, nbQ11, imQ40, imX, imY, mvx4, mvy4, ngx4, ngy4] <;> omega
  · obtain rfl | rfl | rfl | rfl : q = 0 ∨ q = 1 ∨ q = 2 ∨ q = 3 := by omega
    · obtain rfl | rfl | rfl : e = 0 ∨ e = 1 ∨ e = 2 := by omega
      · refine ⟨?_, ?_, ?_⟩ <;> simp only [nbX00, nbY00, nbQ00, imQ50, edT50, nbX10, nbY10, nbQ10, imQ52, imX, imY, mvx5, mvy5, ngx5, ngy5] <;> omega
      · refine ⟨?_, ?_, ?_⟩ <;> simp only [nbX01, nbY01, nbQ01, imQ50, edT51, nbX11, nbY11, nbQ11, imQ51, imX, imY, mvx5, mvy5, ngx5, ngy5] <;> omega
      · refine ⟨?_, ?_, ?_⟩ <;> simp only [nbX02, nbY02, nbQ02, imQ50, edT52, nbX12, nbY12, nbQ12, imQ53, imX, imY, mvx5, mvy5, ngx5, ngy5] <;> omega
    · obtain rfl | rfl | rfl : e = 0 ∨ e = 1 ∨ e = 2 := by omega
      · refine ⟨?_, ?_, ?_⟩ <;> simp only [nbX10, nbY10, nbQ10, imQ51, edT50, nbX00, nbY00, nbQ00, imQ53, imX, imY, mvx5, mvy5, ngx5, ngy5] <;> omega
      · refine ⟨?_, ?_, ?_⟩ <;> simp only [nbX11, nbY11, nbQ11, imQ51, edT51, nbX01, nbY01, nbQ01, imQ50, imX, imY, mvx5, mvy5, ngx5, ngy5] <;> omega
      · refine ⟨?_, ?_, ?_⟩ <;> simp only [nbX12, nbY12, nbQ12, imQ51, edT52, nbX02, nbY02, nbQ02, imQ52, imX, imY, mvx5, mvy5, ngx5, ngy5] <;> omega
    · obtain rfl | rfl | rfl : e = 0 ∨ e = 1 ∨ e = 2 := by omega
      · refine ⟨?_, ?_, ?_⟩ <;> simp only [nbX20, nbY20, nbQ20, imQ52, edT50, nbX30, nbY30, nbQ30, imQ50, imX, imY, mvx5, mvy5, ngx5, ngy5] <;> omega
      · refine ⟨?_, ?_, ?_⟩ <;> simp only [nbX21, nbY21, nbQ21, imQ52, edT51, nbX31, nbY31, nbQ31, imQ53, imX, imY, mvx5, mvy5, ngx5, ngy5] <;> omega
      · refine ⟨?_, ?_, ?_⟩ <;> simp only [nbX22, nbY22, nbQ22, imQ52, edT52, nbX32, nbY32, nbQ32, imQ51, imX, imY, mvx5, mvy5, ngx5, ngy5] <;> omega
    · obtain rfl | rfl | rfl : e = 0 ∨ e = 1 ∨ e = 2 := by omega
      · refine ⟨?_, ?_, ?_⟩ <;> simp only [nbX30, nbY30, nbQ30, imQ53, edT50, nbX20, nbY20, nbQ20, imQ51, imX, imY, mvx5, mvy5, ngx5, ngy5] <;> omega
      · refine ⟨?_, ?_, ?_⟩ <;> simp only [nbX31, nbY31, nbQ31, imQ53, edT51, nbX21, nbY21, nbQ21, imQ52, imX, imY, mvx5, mvy5, ngx5, ngy5] <;> omega
      · refine ⟨?_, ?_, ?_⟩ <;> simp only [nbX32, nbY32, nbQ32, imQ53, edT52, nbX22, nbY22, nbQ22, imQ50, imX, imY, mvx5, mvy5, ngx5, ngy5] <;> omega
  · obtain rfl | rfl | rfl | rfl : q = 0 ∨ q = 1 ∨ q = 2 ∨ q = 3 := by omega
    · obtain rfl | rfl | rfl : e = 0 ∨ e = 1 ∨ e = 2 := by omega
      · refine ⟨?_, ?_, ?_⟩ <;> simp only [nbX00, nbY00, nbQ00, imQ60, edT60, nbX20, nbY20, nbQ20, imQ62, imX, imY, mvx6, mvy6, ngx6, ngy6] <;> omega
      · refine ⟨?_, ?_, ?_⟩ <;> simp only [nbX01, nbY01, nbQ01, imQ60, edT61, nbX22, nbY22, nbQ22, imQ61, imX, imY, mvx6, mvy6, ngx6, ngy6] <;> omega
      · refine ⟨?_, ?_, ?_⟩ <;> simp only [nbX02, nbY02, nbQ02, imQ60, edT62, nbX21, nbY21, nbQ21, imQ63, imX, imY, mvx6, mvy6, ngx6, ngy6] <;> omega
    · obtain rfl | rfl | rfl : e = 0 ∨ e = 1 ∨ e = 2 := by omega
      · refine ⟨?_, ?_, ?_⟩ <;> simp only [nbX10, nbY10, nbQ10, imQ61, edT60, nbX10, nbY10, nbQ10, imQ63, imX, imY, mvx6, mvy6, ngx6, ngy6] <;> omega
      · refine ⟨?_, ?_, ?_⟩ <;> simp only [nbX11, nbY11, nbQ11, imQ61, edT61, nbX12, nbY12, nbQ12, imQ60, imX, imY, mvx6, mvy6, ngx6, ngy6] <;> omega
      · refine ⟨?_, ?_, ?_⟩ <;> simp only [nbX12, nbY12, nbQ12, imQ61, edT62, nbX11, nbY11, nbQ11, imQ62, imX, imY, mvx6, mvy6, ngx6, ngy6] <;> omega
    · obtain rfl | rfl | rfl : e = 0 ∨ e = 1 ∨ e = 2 := by omega
      · refine ⟨?_, ?_, ?_⟩ <;> simp only [nbX20, nbY20, nbQ20, imQ62, edT60, nbX00, nbY00, nbQ00, imQ60, imX, imY, mvx6, mvy6, ngx6, ngy6] <;> omega
      · refine ⟨?_, ?_, ?_⟩ <;> simp only [nbX21, nbY21, nbQ21, imQ62, edT61, nbX02, nbY02, nbQ02, imQ63, imX, imY, mvx6, mvy6, ngx6, ngy6] <;> omega
      · refine ⟨?_, ?_, ?_⟩ <;> simp only [nbX22, nbY22, nbQ22, imQ62, edT62, nbX01, nbY01, nbQ01, imQ61, imX, imY, mvx6, mvy6, ngx6, ngy6] <;> omega
    · obtain rfl | rfl | rfl : e = 0 ∨ e = 1 ∨ e = 2 := by omega
      · refine ⟨?_, ?_, ?_⟩ <;> simp only [nbX30, nbY30, nbQ30, imQ63, edT60, nbX30, nbY30, nbQ30, imQ61, imX, imY, mvx6, mvy6, ngx6, ngy6] <;> omega
      · refine ⟨?_, ?_, ?_⟩ <;> simp only [nbX31, nbY31, nbQ31, imQ63, edT61, nbX32, nbY32, nbQ32, imQ62, imX, imY, mvx6, mvy6, ngx6, ngy6] <;> omega
      · refine ⟨?_, ?_, ?_⟩ <;> simp only [nbX32, nbY32, nbQ32, imQ63, edT62, nbX31, nbY31, nbQ31, imQ60, imX, imY, mvx6, mvy6, ngx6, ngy6] <;> omega
  · obtain rfl | rfl | rfl | rfl : q = 0 ∨ q = 1 ∨ q = 2 ∨ q = 3 := by omega
    · obtain rfl | rfl | rfl : e = 0 ∨ e = 1 ∨ e = 2 := by omega
      · refine ⟨?_, ?_, ?_⟩ <;> simp only [nbX00, nbY00, nbQ00, imQ70, edT70, nbX30, nbY30, nbQ30, imQ72, imX, imY, mvx7, mvy7, ngx7, ngy7] <;> omega
      · refine ⟨?_, ?_, ?_⟩ <;> simp only [nbX01, nbY01, nbQ01, imQ70, edT71, nbX31, nbY31, nbQ31, imQ71, imX, imY, mvx7, mvy7, ngx7, ngy7] <;> omega
      · refine ⟨?_, ?_, ?_⟩ <;> simp only [nbX02, nbY02, nbQ02, imQ70, edT72, nbX32, nbY32, nbQ32, imQ73, imX, imY, mvx7, mvy7, ngx7, ngy7] <;> omega
    · obtain rfl | rfl | rfl : e = 0 ∨ e = 1 ∨ e = 2 := by omega
      · refine ⟨?_, ?_, ?_⟩ <;> simp only [nbX10, nbY10, nbQ10, imQ71, edT70, nbX20, nbY20, nbQ20, imQ73, imX, imY, mvx7, mvy7, ngx7, ngy7] <;> omega
      · refine ⟨?_, ?_, ?_⟩ <;> simp only [nbX11, nbY11, nbQ11, imQ71, edT71, nbX21, nbY21, nbQ21, imQ70, imX, imY, mvx7, mvy7, ngx7, ngy7] <;> omega
      · refine ⟨?_, ?_, ?_⟩ <;> simp only [nbX12, nbY12, nbQ12, imQ71, edT72, nbX22, nbY22, nbQ22, imQ72, imX, imY, mvx7, mvy7, ngx7, ngy7] <;> omega
    · obtain rfl | rfl | rfl : e = 0 ∨ e = 1 ∨ e = 2 := by omega
      · refine ⟨?_, ?_, ?_⟩ <;> simp only [nbX20, nbY20, nbQ20, imQ72, edT70, nbX10, nbY10, nbQ10, imQ70, imX, imY, mvx7, mvy7, ngx7, ngy7] <;> omega
      · refine ⟨?_, ?_, ?_⟩ <;> simp only [nbX21, nbY21, nbQ21, imQ72, edT71, nbX11, nbY11, nbQ11, imQ73, imX, imY, mvx7, mvy7, ngx7, ngy7] <;> omega
      · refine ⟨?_, ?_, ?_⟩ <;> simp only [nbX22, nbY22, nbQ22, imQ72, edT72, nbX12, nbY12, nbQ12, imQ71, imX, imY, mvx7, mvy7, ngx7, ngy7] <;> omega
    · obtain rfl | rfl | rfl : e = 0 ∨ e = 1 ∨ e = 2 := by omega
      · refine ⟨?_, ?_, ?_⟩ <;> simp only [nbX30, nbY30, nbQ30, imQ73, edT70, nbX00, nbY00, nbQ00, imQ71, imX, imY, mvx7, mvy7, ngx7, ngy7] <;> omega
      · refine ⟨?_, ?_, ?_⟩ <;> simp only [nbX31, nbY31, nbQ31, imQ73, edT71, nbX01, nbY01, nbQ01, imQ72, imX, imY, mvx7, mvy7, ngx7, ngy7] <;> omega
      · refine ⟨?_, ?_, ?_⟩ <;> simp only [nbX32, nbY32, nbQ32, imQ73, edT72, nbX02, nbY02, nbQ02, imQ70, imX, imY, mvx7, mvy7, ngx7, ngy7] <;> omega
theorem nb_nb (x y q e : Int) (q1 : 0 ≤ q) (q2 : q ≤ 3) (e1 : 0 ≤ e) (e2 : e ≤ 2) : nbX (nbQ q e) e (nbX q e x) = x ∧ nbY (nbQ q e) e (nbY q e y) = y ∧ nbQ (nbQ q e) e = q := by
  obtain rfl | rfl | rfl | rfl : q = 0 ∨ q = 1 ∨ q = 2 ∨ q = 3 := by omega
  · obtain rfl | rfl | rfl : e = 0 ∨ e = 1 ∨ e = 2 := by omega
    · refine ⟨?_, ?_, ?_⟩ <;> simp only [nbX00, nbY00, nbQ00, nbX20, nbY20, nbQ20] <;> omega
    · refine ⟨?_, ?_, ?_⟩ <;> simp only [nbX01, nbY01, nbQ01, nbX11, nbY11, nbQ11] <;> omega
    · refine ⟨?_, ?_, ?_⟩ <;> simp only [nbX02, nbY02, nbQ02, nbX32, nbY32, nbQ32] <;> omega
  · obtain rfl | rfl | rfl : e = 0 ∨ e = 1 ∨ e = 2 := by omega
    · refine ⟨?_, ?_, ?_⟩ <;> simp only [nbX10, nbY10, nbQ10, nbX30, nbY30, nbQ30] <;> omega
    · refine ⟨?_, ?_, ?_⟩ <;> simp only [nbX11, nbY11, nbQ11, nbX01, nbY01, nbQ01] <;> omega
    · refine ⟨?_, ?_, ?_⟩ <;> simp only [nbX12, nbY12, nbQ12, nbX22, nbY22, nbQ22] <;> omega
  · obtain rfl | rfl | rfl : e = 0 ∨ e = 1 ∨ e = 2 := by omega
    · refine ⟨?_, ?_, ?_⟩ <;> simp only [nbX20, nbY20, nbQ20, nbX00, nbY00, nbQ00] <;> omega
    · refine ⟨?_, ?_, ?_⟩ <;> simp only [nbX21, nbY21, nbQ21, nbX31, nbY31, nbQ31] <;> omega
    · refine ⟨?_, ?_, ?_⟩ <;> simp only [nbX22, nbY22, nbQ22, nbX12, nbY12, nbQ12] <;> omega
  · obtain rfl | rfl | rfl : e = 0 ∨ e = 1 ∨ e = 2 := by omega
    · refine ⟨?_, ?_, ?_⟩ <;> simp only [nbX30, nbY30, nbQ30, nbX10, nbY10, nbQ10] <;> omega
    · refine ⟨?_, ?_, ?_⟩ <;> simp only [nbX31, nbY31, nbQ31, nbX21, nbY21, nbQ21] <;> omega
    · refine ⟨?_, ?_, ?_⟩ <;> simp only [nbX32, nbY32, nbQ32, nbX02, nbY02, nbQ02] <;> omega
theorem btT_range (xa ya qa xb yb qb : Int) (q1 : 0 ≤ qa) (q2 : qa ≤ 3) (q3 : 0 ≤ qb) (q4 : qb ≤ 3) : 0 ≤ btT xa ya qa xb yb qb ∧ btT xa ya qa xb yb qb ≤ 7 := by
  unfold btT; split <;> omega
theorem btT_q (xa ya qa xb yb qb : Int) (q1 : 0 ≤ qa) (q2 : qa ≤ 3) (q3 : 0 ≤ qb) (q4 : qb ≤ 3) : imQ (btT xa ya qa xb yb qb) qa = qb := by
  unfold btT imQ; split <;> split <;> omega
theorem im_par (t xa ya : Int) (a1 : 0 ≤ t) (a2 : t ≤ 7) : (imX t 0 xa ya + imY t 0 xa ya) % 2 = (xa + ya + t + (if 4 ≤ t then 1 else 0)) % 2 := by
  obtain rfl | rfl | rfl | rfl | rfl | rfl | rfl | rfl : t = 0 ∨ t = 1 ∨ t = 2 ∨ t = 3 ∨ t = 4 ∨ t = 5 ∨ t = 6 ∨ t = 7 := by omega
  · simp only [imX, imY, mvx0, mvy0, ngx0, ngy0]; rw [if_neg (by decide)]; omega
  · simp only [imX, imY, mvx1, mvy1, ngx1, ngy1]; rw [if_neg (by decide)]; omega
  · simp only [imX, imY, mvx2, mvy2, ngx2, ngy2]; rw [if_neg (by decide)]; omega
  · simp only [imX, imY, mvx3, mvy3, ngx3, ngy3]; rw [if_neg (by decide)]; omega
  · simp only [imX, imY, mvx4, mvy4, ngx4, ngy4]; rw [if_pos (by decide)]; omega
  · simp only [imX, imY, mvx5, mvy5, ngx5, ngy5]; rw [if_pos (by decide)]; omega
  · simp only [imX, imY, mvx6, mvy6, ngx6, ngy6]; rw [if_pos (by decide)]; omega
  · simp only [imX, imY, mvx7, mvy7, ngx7, ngy7]; rw [if_pos (by decide)]; omega
theorem btT_par (xa ya qa xb yb qb : Int) (q1 : 0 ≤ qa) (q2 : qa ≤ 3) (q3 : 0 ≤ qb) (q4 : qb ≤ 3) : ((xb - imX (btT xa ya qa xb yb qb) 0 xa ya) + (yb - imY (btT xa ya qa xb yb qb) 0 xa ya)) % 2 = 0 := by
  have hr := btT_range xa ya qa xb yb qb q1 q2 q3 q4
  have h := im_par (btT xa ya qa xb yb qb) xa ya hr.1 hr.2
  have hu : btT xa ya qa xb yb qb = if (xa + ya + xb + yb + qa + qb) % 2 = 0 then (qb - qa) % 4 else 4 + (qa + qb) % 4 := rfl
  generalize btT xa ya qa xb yb qb = T at *
  split at h <;> split at hu <;> omega
theorem btT_only (t xa ya qa xb yb qb : Int) (q1 : 0 ≤ qa) (q2 : qa ≤ 3) (q3 : 0 ≤ qb) (q4 : qb ≤ 3) (a1 : 0 ≤ t) (a2 : t ≤ 7) (hq : imQ t qa = qb) (hp : ((xb - imX t 0 xa ya) + (yb - imY t 0 xa ya)) % 2 = 0) : t = btT xa ya qa xb yb qb := by
  have h := im_par t xa ya a1 a2
  have hu : btT xa ya qa xb yb qb = if (xa + ya + xb + yb + qa + qb) % 2 = 0 then (qb - qa) % 4 else 4 + (qa + qb) % 4 := rfl
  generalize btT xa ya qa xb yb qb = T at *
  unfold imQ at hq
  split at h <;> split at hu <;> split at hq <;> omega
theorem imX_add (t X x y : Int) : imX t X x y = imX t 0 x y + X := by unfold imX; omega
theorem imY_add (t Y x y : Int) : imY t Y x y = imY t 0 x y + Y := by unfold imY; omega

end Go.Proofs.YtgkiliijefkcaaaDoor
