/-
  Says: PatternsCheck, a valid pattern.
-/
import Derived.Test.YtdnekeegpenioaaDoorPcA
import Derived.Test.YtdnekeegpenioaaDoorPkU
import Derived.Test.YtdnekeegpenioaaDoorPa0
import Derived.Deep.RegionHeld3
import Derived.RowKit3
import Derived.BigQuiet
import Derived.Deep.QuietTactic
import Derived.BigRegion
import Derived.Deep.CutRange
set_option linter.unusedVariables false
set_option linter.unusedSimpArgs false
namespace Go.Proofs.YtdnekeegpenioaaDoor
open Go Go.RowKit

attribute [local go_sem] World.cell?_alloc_some frozen?_alloc_cells fz0 fz1 fz2 fz3 fz4 fz5

set_option maxRecDepth 100000 in
set_option maxHeartbeats 4000000 in
theorem main_ok0 (W H id ed : Int) (c e k : Nat → Int) (pa : Option Addr) (n ca : Nat) (w : World) (hL : Lay w) (E : Int) (hE0 : E = 0) (hn : ¬ 40 < (n : Int)) (hs : OkS W H) (hw : ¬ 5 < W) (hh : ¬ 5 < H) (hC : ∀ V, Below w.heap.size w V → Calls Tryd.prog 10 #[.agg #[.int .i64 W, .int .i64 H, .slice pa n ca]] V fun r w' => r = .returned (.int .i64 E) ∧ Below V.heap.size V w') (hR : ∀ V, Below w.heap.size w V → Calls Tryd.prog 9 #[.agg #[.int .i64 W, .int .i64 H, .slice pa n ca]] V fun r w' => r = .returned (.int .i64 E) ∧ Below V.heap.size V w') : Calls Tryd.prog 3 #[.agg #[.int .i64 W, .int .i64 H, .slice pa n ca], .int .i64 id, .int .u8 ed] w fun r w' => r = .returned (.bool true) ∧ Below w.heap.size w w' := by
  have hLA : ∀ V, Below w.heap.size w V → Lay V := fun V h => lay_below hL h
  subst hE0
  go_enter Tryd.func3, Tryd.ntmps3
  go_upto_region 3 with fail
  have hBw : Below w.heap.size w (w.alloc (.cells #[.int .i64 W, .int .i64 H, .slice pa n ca] 26)) := (by repeat first | (with_reducible exact Below.refl _ _) | (with_reducible assumption) | (with_reducible refine below_on ?_ _) | (with_reducible refine below_dn ?_) | (with_reducible refine below_drew ?_) | (with_reducible refine below_alloc ?_ _) | (with_reducible refine below_set ?_ (by simp; try omega) _) | (exact below_alloc hq _))
  have x0 : (w.alloc (.cells #[.int .i64 W, .int .i64 H, .slice pa n ca] 26)).cell? ⟨w.heap.size, 0, none⟩ = some (.int .i64 W) := by simp [go_sem]
  have x1 : (w.alloc (.cells #[.int .i64 W, .int .i64 H, .slice pa n ca] 26)).cell? ⟨w.heap.size, 1, none⟩ = some (.int .i64 H) := by simp [go_sem]
  have x2 : (w.alloc (.cells #[.int .i64 W, .int .i64 H, .slice pa n ca] 26)).cell? ⟨w.heap.size, 2, none⟩ = some (.slice pa n ca) := by simp [go_sem]
  generalize (w.alloc (.cells #[.int .i64 W, .int .i64 H, .slice pa n ca] 26)) = V1 at *
  go_upto_region 4 with (first | (go_at_call 9; (with_reducible refine (hR _ (by repeat first | (with_reducible exact Below.refl _ _) | (with_reducible assumption) | (with_reducible refine below_on ?_ _) | (with_reducible refine below_dn ?_) | (with_reducible refine below_drew ?_) | (with_reducible refine below_alloc ?_ _) | (with_reducible refine below_set ?_ (by simp; try omega) _) | (exact below_alloc hq _))).mono ?_); rintro r_ wx ⟨rfl, hx⟩; obtain ⟨ux, rfl⟩ := after hx; clear hx) | fail)
  have hb : Below V1.heap.size V1 (on ux) := (by repeat first | (with_reducible exact Below.refl _ _) | (with_reducible assumption) | (with_reducible refine below_on ?_ _) | (with_reducible refine below_dn ?_) | (with_reducible refine below_drew ?_) | (with_reducible refine below_alloc ?_ _) | (with_reducible refine below_set ?_ (by simp; try omega) _) | (exact below_alloc hq _))
  replace x0 : (on ux).cell? ⟨w.heap.size, 0, none⟩ = some (.int .i64 W) := cRy hb x0
  replace x1 : (on ux).cell? ⟨w.heap.size, 1, none⟩ = some (.int .i64 H) := cRy hb x1
  replace x2 : (on ux).cell? ⟨w.heap.size, 2, none⟩ = some (.slice pa n ca) := cRy hb x2
  replace hBw : Below w.heap.size w (on ux) := hBw.trans (hb.mono hBw.size)
  clear hb
  generalize (on ux) = V2 at *
  clear ux
  go_upto_region 6 with (first | (go_at_call 10; (with_reducible refine (hC _ (by repeat first | (with_reducible exact Below.refl _ _) | (with_reducible assumption) | (with_reducible refine below_on ?_ _) | (with_reducible refine below_dn ?_) | (with_reducible refine below_drew ?_) | (with_reducible refine below_alloc ?_ _) | (with_reducible refine below_set ?_ (by simp; try omega) _) | (exact below_alloc hq _))).mono ?_); rintro r_ wx ⟨rfl, hx⟩; obtain ⟨ux, rfl⟩ := after hx; clear hx) | fail)
  have hb : Below V2.heap.size V2 (on ux) := (by repeat first | (with_reducible exact Below.refl _ _) | (with_reducible assumption) | (with_reducible refine below_on ?_ _) | (with_reducible refine below_dn ?_) | (with_reducible refine below_drew ?_) | (with_reducible refine below_alloc ?_ _) | (with_reducible refine below_set ?_ (by simp; try omega) _) | (exact below_alloc hq _))
  replace x0 : (on ux).cell? ⟨w.heap.size, 0, none⟩ = some (.int .i64 W) := cRy hb x0
  replace x1 : (on ux).cell? ⟨w.heap.size, 1, none⟩ = some (.int .i64 H) := cRy hb x1
  replace x2 : (on ux).cell? ⟨w.heap.size, 2, none⟩ = some (.slice pa n ca) := cRy hb x2
  replace hBw : Below w.heap.size w (on ux) := hBw.trans (hb.mono hBw.size)
  clear hb
  generalize (on ux) = V3 at *
  clear ux
  go_upto_region 7 with (first | (go_at_call 11; (with_reducible refine (empty_yes W H _ (hLA _ (by repeat first | (with_reducible exact Below.refl _ _) | (with_reducible assumption) | (with_reducible refine below_on ?_ _) | (with_reducible refine below_dn ?_) | (with_reducible refine below_drew ?_) | (with_reducible refine below_alloc ?_ _) | (with_reducible refine below_set ?_ (by simp; try omega) _) | (exact below_alloc hq _))) hs).mono ?_); rintro r_ wx ⟨rfl, hx⟩; obtain ⟨ux, rfl⟩ := after hx; clear hx) | fail)
  have hsz := on_size ux
  have hb : Below V3.heap.size V3 ((on ux).alloc (.cells #[.int .i64 W, .int .i64 H, .slice none 0 0] 26)) := (by repeat first | (with_reducible exact Below.refl _ _) | (with_reducible assumption) | (with_reducible refine below_on ?_ _) | (with_reducible refine below_dn ?_) | (with_reducible refine below_drew ?_) | (with_reducible refine below_alloc ?_ _) | (with_reducible refine below_set ?_ (by simp; try omega) _) | (exact below_alloc hq _))
  clear hsz
  replace x0 : ((on ux).alloc (.cells #[.int .i64 W, .int .i64 H, .slice none 0 0] 26)).cell? ⟨w.heap.size, 0, none⟩ = some (.int .i64 W) := cRy hb x0
  replace x1 : ((on ux).alloc (.cells #[.int .i64 W, .int .i64 H, .slice none 0 0] 26)).cell? ⟨w.heap.size, 1, none⟩ = some (.int .i64 H) := cRy hb x1
  replace x2 : ((on ux).alloc (.cells #[.int .i64 W, .int .i64 H, .slice none 0 0] 26)).cell? ⟨w.heap.size, 2, none⟩ = some (.slice pa n ca) := cRy hb x2
  have y0 : ((on ux).alloc (.cells #[.int .i64 W, .int .i64 H, .slice none 0 0] 26)).cell? ⟨(on ux).heap.size, 0, none⟩ = some (.int .i64 W) := by simp [go_sem]
  have y1 : ((on ux).alloc (.cells #[.int .i64 W, .int .i64 H, .slice none 0 0] 26)).cell? ⟨(on ux).heap.size, 1, none⟩ = some (.int .i64 H) := by simp [go_sem]
  have y2 : ((on ux).alloc (.cells #[.int .i64 W, .int .i64 H, .slice none 0 0] 26)).cell? ⟨(on ux).heap.size, 2, none⟩ = some (.slice none 0 0) := by simp [go_sem]
  replace hBw : Below w.heap.size w ((on ux).alloc (.cells #[.int .i64 W, .int .i64 H, .slice none 0 0] 26)) := hBw.trans (hb.mono hBw.size)
  clear hb
  generalize ((on ux).alloc (.cells #[.int .i64 W, .int .i64 H, .slice none 0 0] 26)) = V4 at *
  generalize (on ux).heap.size = b8 at *
  clear ux
  go_upto_region 9 with (first | (go_at_call 8; (with_reducible refine (valid_yes W H hs _ (hLA _ (by repeat first | (with_reducible exact Below.refl _ _) | (with_reducible assumption) | (with_reducible refine below_on ?_ _) | (with_reducible refine below_dn ?_) | (with_reducible refine below_drew ?_) | (with_reducible refine below_alloc ?_ _) | (with_reducible refine below_set ?_ (by simp; try omega) _) | (exact below_alloc hq _)))).mono ?_); rintro r_ wx ⟨rfl, hx⟩; obtain ⟨ux, rfl⟩ := after hx; clear hx) | fail)
  have hb : Below V4.heap.size V4 (on ux) := (by repeat first | (with_reducible exact Below.refl _ _) | (with_reducible assumption) | (with_reducible refine below_on ?_ _) | (with_reducible refine below_dn ?_) | (with_reducible refine below_drew ?_) | (with_reducible refine below_alloc ?_ _) | (with_reducible refine below_set ?_ (by simp; try omega) _) | (exact below_alloc hq _))
  replace x0 : (on ux).cell? ⟨w.heap.size, 0, none⟩ = some (.int .i64 W) := cRy hb x0
  replace x1 : (on ux).cell? ⟨w.heap.size, 1, none⟩ = some (.int .i64 H) := cRy hb x1
  replace x2 : (on ux).cell? ⟨w.heap.size, 2, none⟩ = some (.slice pa n ca) := cRy hb x2
  replace y0 : (on ux).cell? ⟨b8, 0, none⟩ = some (.int .i64 W) := cRy hb y0
  replace y1 : (on ux).cell? ⟨b8, 1, none⟩ = some (.int .i64 H) := cRy hb y1
  replace y2 : (on ux).cell? ⟨b8, 2, none⟩ = some (.slice none 0 0) := cRy hb y2
  replace hBw : Below w.heap.size w (on ux) := hBw.trans (hb.mono hBw.size)
  clear hb
  generalize (on ux) = V5 at *
  clear ux
  go_wp2_with (first | (go_at_call 12; (with_reducible refine (lives_ok _ (hLA _ (by repeat first | (with_reducible exact Below.refl _ _) | (with_reducible assumption) | (with_reducible refine below_on ?_ _) | (with_reducible refine below_dn ?_) | (with_reducible refine below_drew ?_) | (with_reducible refine below_alloc ?_ _) | (with_reducible refine below_set ?_ (by simp; try omega) _) | (exact below_alloc hq _)))).mono ?_); rintro r_ wx ⟨rfl, hx⟩; obtain ⟨ux, rfl⟩ := after hx; clear hx) | fail)
  go_ret
  exact ⟨rfl, (by repeat first | (with_reducible exact Below.refl _ _) | (with_reducible assumption) | (with_reducible refine below_on ?_ _) | (with_reducible refine below_dn ?_) | (with_reducible refine below_drew ?_) | (with_reducible refine below_alloc ?_ _) | (with_reducible refine below_set ?_ (by simp; try omega) _) | (exact below_alloc hq _))⟩

end Go.Proofs.YtdnekeegpenioaaDoor
