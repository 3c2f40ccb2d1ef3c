/-
  Says: PatternsCheck where nothing is asked.
-/
import Derived.Test.YtdnekeegpenioaaDoorPkE
import Derived.Test.YtdnekeegpenioaaDoorPa0
import Derived.Deep.RegionHeld3
import Derived.RowKit3
import Derived.BigQuiet
import Derived.Deep.QuietTactic
import Derived.BigRegion
import Derived.Deep.CutRange
set_option linter.unusedVariables false
set_option linter.unusedSimpArgs false
namespace Go.Proofs.YtdnekeegpenioaaDoor
open Go Go.RowKit

attribute [local go_sem] World.cell?_alloc_some frozen?_alloc_cells fz0 fz1 fz2 fz3 fz4 fz5

set_option maxRecDepth 100000 in
set_option maxHeartbeats 4000000 in
theorem law_long (W H id ed : Int) (c e k : Nat → Int) (pa : Option Addr) (n ca : Nat) (w : World) (hL : Lay w) (hn : (n : Int) ≤ 9223372036854775807) (hl : 40 < (n : Int)) : Calls Tryd.prog 3 #[.agg #[.int .i64 W, .int .i64 H, .slice pa n ca], .int .i64 id, .int .u8 ed] w fun r w' => r = .returned (.bool true) ∧ Below w.heap.size w w' := by
  have hLA : ∀ V, Below w.heap.size w V → Lay V := fun V h => lay_below hL h
  go_enter Tryd.func3, Tryd.ntmps3
  go_wp2_with fail
  go_ret
  exact ⟨rfl, (by repeat first | (with_reducible exact Below.refl _ _) | (with_reducible assumption) | (with_reducible refine below_on ?_ _) | (with_reducible refine below_dn ?_) | (with_reducible refine below_drew ?_) | (with_reducible refine below_alloc ?_ _) | (with_reducible refine below_set ?_ (by simp; try omega) _) | (exact below_alloc hq _))⟩

set_option maxRecDepth 100000 in
set_option maxHeartbeats 4000000 in
theorem law_w5 (W H id ed : Int) (c e k : Nat → Int) (pa : Option Addr) (n ca : Nat) (w : World) (hL : Lay w) (hn : ¬ 40 < (n : Int)) (hs : OkS W H) (hw : 5 < W) : Calls Tryd.prog 3 #[.agg #[.int .i64 W, .int .i64 H, .slice pa n ca], .int .i64 id, .int .u8 ed] w fun r w' => r = .returned (.bool true) ∧ Below w.heap.size w w' := by
  have hLA : ∀ V, Below w.heap.size w V → Lay V := fun V h => lay_below hL h
  go_enter Tryd.func3, Tryd.ntmps3
  go_wp2_with (first | (go_at_call 8; (with_reducible refine (valid_yes W H hs _ (hLA _ (by repeat first | (with_reducible exact Below.refl _ _) | (with_reducible assumption) | (with_reducible refine below_on ?_ _) | (with_reducible refine below_dn ?_) | (with_reducible refine below_drew ?_) | (with_reducible refine below_alloc ?_ _) | (with_reducible refine below_set ?_ (by simp; try omega) _) | (exact below_alloc hq _)))).mono ?_); rintro r_ wx ⟨rfl, hx⟩; obtain ⟨ux, rfl⟩ := after hx; clear hx) | fail)
  go_ret
  exact ⟨rfl, (by repeat first | (with_reducible exact Below.refl _ _) | (with_reducible assumption) | (with_reducible refine below_on ?_ _) | (with_reducible refine below_dn ?_) | (with_reducible refine below_drew ?_) | (with_reducible refine below_alloc ?_ _) | (with_reducible refine below_set ?_ (by simp; try omega) _) | (exact below_alloc hq _))⟩

set_option maxRecDepth 100000 in
set_option maxHeartbeats 4000000 in
theorem law_h5 (W H id ed : Int) (c e k : Nat → Int) (pa : Option Addr) (n ca : Nat) (w : World) (hL : Lay w) (hn : ¬ 40 < (n : Int)) (hs : OkS W H) (hw : ¬ 5 < W) (hh : 5 < H) : Calls Tryd.prog 3 #[.agg #[.int .i64 W, .int .i64 H, .slice pa n ca], .int .i64 id, .int .u8 ed] w fun r w' => r = .returned (.bool true) ∧ Below w.heap.size w w' := by
  have hLA : ∀ V, Below w.heap.size w V → Lay V := fun V h => lay_below hL h
  go_enter Tryd.func3, Tryd.ntmps3
  go_wp2_with (first | (go_at_call 8; (with_reducible refine (valid_yes W H hs _ (hLA _ (by repeat first | (with_reducible exact Below.refl _ _) | (with_reducible assumption) | (with_reducible refine below_on ?_ _) | (with_reducible refine below_dn ?_) | (with_reducible refine below_drew ?_) | (with_reducible refine below_alloc ?_ _) | (with_reducible refine below_set ?_ (by simp; try omega) _) | (exact below_alloc hq _)))).mono ?_); rintro r_ wx ⟨rfl, hx⟩; obtain ⟨ux, rfl⟩ := after hx; clear hx) | fail)
  go_ret
  exact ⟨rfl, (by repeat first | (with_reducible exact Below.refl _ _) | (with_reducible assumption) | (with_reducible refine below_on ?_ _) | (with_reducible refine below_dn ?_) | (with_reducible refine below_drew ?_) | (with_reducible refine below_alloc ?_ _) | (with_reducible refine below_set ?_ (by simp; try omega) _) | (exact below_alloc hq _))⟩

end Go.Proofs.YtdnekeegpenioaaDoor
