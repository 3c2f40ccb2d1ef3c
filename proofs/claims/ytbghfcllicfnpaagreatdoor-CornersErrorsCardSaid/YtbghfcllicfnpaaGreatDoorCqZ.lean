/-
  Says: what functions do with the error of a pattern. what functions on corners do with errors. CornersErrors, case by case. CornersErrors answers true at every input.
-/
import Derived.Test.YtbghfcllicfnpaaGreatDoorPkV
import Derived.Test.YtbghfcllicfnpaaGreatDoorPa0
import Derived.Deep.RegionHeld3
import Derived.RowKit3
import Derived.BigQuiet
import Derived.Deep.QuietTactic
import Derived.BigRegion
import Derived.KernelRfl
import Derived.Test.YtbghfcllicfnpaaGreatDoorPkU
import Derived.Deep.CutRange
import Derived.Test.YtbghfcllicfnpaaGreatDoorCqA
set_option linter.unusedVariables false
set_option linter.unusedSimpArgs false
set_option linter.unusedSectionVars false
namespace Go.Proofs.YtbghfcllicfnpaaGreatDoor
section
open Go Go.RowKit

attribute [local go_sem] World.cell?_alloc_some frozen?_alloc_cells fz0 fz1 fz2 fz3 fz4 fz5

set_option maxRecDepth 100000 in
set_option maxHeartbeats 4000000 in
theorem check_inv (W H : Int) (pa : Option Addr) (n ca : Nat) (w : World) (hL : Lay w) (hs : ¬ OkS W H) : Calls Tryz.prog 35 #[.agg #[.int .i64 W, .int .i64 H, .slice pa n ca]] w fun r w' => r = .returned (.int .i64 1) ∧ Below w.heap.size w w' := by
  have hLA : ∀ V, Below w.heap.size w V → Lay V := fun V h => lay_below hL h
  go_enter Tryz.func35, Tryz.ntmps35
  go_wp2_with (first | (go_at_call 52; (with_reducible refine (scheck_no W H hs _ (hLA _ (by repeat first | (with_reducible exact Below.refl _ _) | (with_reducible assumption) | (with_reducible refine below_on ?_ _) | (with_reducible refine below_dn ?_) | (with_reducible refine below_drew ?_) | (with_reducible refine below_alloc ?_ _) | (with_reducible refine below_set ?_ (by simp; try omega) _) | (exact below_alloc hq _)))).mono ?_); rintro r_ wx ⟨rfl, hx⟩; obtain ⟨ux, rfl⟩ := after hx; clear hx) | fail)
  go_ret
  exact ⟨rfl, (by repeat first | (with_reducible exact Below.refl _ _) | (with_reducible assumption) | (with_reducible refine below_on ?_ _) | (with_reducible refine below_dn ?_) | (with_reducible refine below_drew ?_) | (with_reducible refine below_alloc ?_ _) | (with_reducible refine below_set ?_ (by simp; try omega) _) | (exact below_alloc hq _))⟩
set_option maxRecDepth 100000 in
set_option maxHeartbeats 4000000 in
theorem ref_inv (W H : Int) (pa : Option Addr) (n ca : Nat) (w : World) (hL : Lay w) (hs : ¬ OkS W H) : Calls Tryz.prog 29 #[.agg #[.int .i64 W, .int .i64 H, .slice pa n ca]] w fun r w' => r = .returned (.int .i64 1) ∧ Below w.heap.size w w' := by
  have hLA : ∀ V, Below w.heap.size w V → Lay V := fun V h => lay_below hL h
  go_enter Tryz.func29, Tryz.ntmps29
  go_wp2_with (first | (go_at_call 28; (with_reducible refine (valid_no W H hs _ (hLA _ (by repeat first | (with_reducible exact Below.refl _ _) | (with_reducible assumption) | (with_reducible refine below_on ?_ _) | (with_reducible refine below_dn ?_) | (with_reducible refine below_drew ?_) | (with_reducible refine below_alloc ?_ _) | (with_reducible refine below_set ?_ (by simp; try omega) _) | (exact below_alloc hq _)))).mono ?_); rintro r_ wx ⟨rfl, hx⟩; obtain ⟨ux, rfl⟩ := after hx; clear hx) | fail)
  go_ret
  exact ⟨rfl, (by repeat first | (with_reducible exact Below.refl _ _) | (with_reducible assumption) | (with_reducible refine below_on ?_ _) | (with_reducible refine below_dn ?_) | (with_reducible refine below_drew ?_) | (with_reducible refine below_alloc ?_ _) | (with_reducible refine below_set ?_ (by simp; try omega) _) | (exact below_alloc hq _))⟩
set_option maxRecDepth 100000 in
set_option maxHeartbeats 4000000 in
theorem turned_err (W H : Int) (pa : Option Addr) (n ca : Nat) (w : World) (hL : Lay w) (E : Int) (hE : E ≠ 0) (hC : ∀ V, Below w.heap.size w V → Calls Tryz.prog 35 #[.agg #[.int .i64 W, .int .i64 H, .slice pa n ca]] V fun r w' => r = .returned (.int .i64 E) ∧ Below V.heap.size V w') : Calls Tryz.prog 26 #[.agg #[.int .i64 W, .int .i64 H, .slice pa n ca]] w fun r w' => r = .returned (.tuple #[.agg #[.int .i64 0, .int .i64 0, .slice none 0 0], .int .i64 E]) ∧ Below w.heap.size w w' := by
  have rw_ : Tryz.f26.results = #[.cell 2 37, .tmp 3] := by kernel_rfl
  have hE1 : (E == 0) = false := eqf hE
  go_enter Tryz.func26, Tryz.ntmps26
  go_wp2_with (first | (go_at_call 35; (with_reducible refine (hC _ (by repeat first | (with_reducible exact Below.refl _ _) | (with_reducible assumption) | (with_reducible refine below_on ?_ _) | (with_reducible refine below_dn ?_) | (with_reducible refine below_drew ?_) | (with_reducible refine below_alloc ?_ _) | (with_reducible refine below_set ?_ (by simp; try omega) _) | (exact below_alloc hq _))).mono ?_); rintro r_ wx ⟨rfl, hx⟩; obtain ⟨ux, rfl⟩ := after hx; clear hx) | fail)
  exact bodyPost_ret (v := .tuple #[.agg #[.int .i64 0, .int .i64 0, .slice none 0 0], .int .i64 E]) (by simp [results, rw_, go_sem]; try rfl) rfl ⟨rfl, (by repeat first | (with_reducible exact Below.refl _ _) | (with_reducible assumption) | (with_reducible refine below_on ?_ _) | (with_reducible refine below_dn ?_) | (with_reducible refine below_drew ?_) | (with_reducible refine below_alloc ?_ _) | (with_reducible refine below_set ?_ (by simp; try omega) _) | (exact below_alloc hq _))⟩
end

section
open Go Go.RowKit

open Go.Vx
section
set_option maxRecDepth 1000000
attribute [local instance] anyKeeps
theorem rall_inv (t : Nat → TypeId) : isVal (vp [vz 0 0, vi 1]) (@run (tabPrims [] []) Tryz.prog (orElse (valOrc (fun _ => false) (tabG t) (ansT [(52, [va [vy 0, vy 1]], vi 1)])) (noOrc (tabG t))) 1000000 (.call 10 [va [vy 0, vy 1]] (tabG t))) = true := by kernel_rfl
theorem all_inv (W H : Int) (hs : ¬ OkS W H) (V : World) (hL : Lay V) : Calls Tryz.prog 10 #[.agg #[.int .i64 W, .int .i64 H]] V fun r V' => r = .returned (.tuple #[.slice none 0 0, .int .i64 1]) ∧ Below V.heap.size V V' := by
  have h := path_more (ρ := ofInts [(.i64, W), (.i64, H)]) (tabs_G (typ V)) (size_V (typ V)) (floor_V (typ V)) (ofInts_plain _) (bt := []) (ct := []) trivial trivial (el := [(52, [va [vy 0, vy 1]], vi 1)]) ⟨⟨rfl, rfl, kCno (typ V) W H hs⟩, trivial⟩ (Q2 := noOrc (tabG (typ V))) (hQ2 := nothing_known (base_G (typ V))) (args := [va [vy 0, vy 1]]) (v := vp [vz 0 0, vi 1]) rfl rfl (by kernel_rfl) (rall_inv (typ V))
  haveI := anySyms
  exact h.calls (lies_G hL)
theorem raround_inv (t : Nat → TypeId) : isVal (vp [vz 0 0, vi 1]) (@run (tabPrims [] []) Tryz.prog (orElse (valOrc (fun _ => false) (tabG t) (ansT [(52, [va [vy 0, vy 1]], vi 1)])) (noOrc (tabG t))) 1000000 (.call 13 [va [vy 0, vy 1], va [vy 2, vy 3]] (tabG t))) = true := by kernel_rfl
theorem around_inv (W H x y : Int) (hs : ¬ OkS W H) (V : World) (hL : Lay V) : Calls Tryz.prog 13 #[.agg #[.int .i64 W, .int .i64 H], .agg #[.int .i64 x, .int .i64 y]] V fun r V' => r = .returned (.tuple #[.slice none 0 0, .int .i64 1]) ∧ Below V.heap.size V V' := by
  have h := path_more (ρ := ofInts [(.i64, W), (.i64, H), (.i64, x), (.i64, y)]) (tabs_G (typ V)) (size_V (typ V)) (floor_V (typ V)) (ofInts_plain _) (bt := []) (ct := []) trivial trivial (el := [(52, [va [vy 0, vy 1]], vi 1)]) ⟨⟨rfl, rfl, kCno (typ V) W H hs⟩, trivial⟩ (Q2 := noOrc (tabG (typ V))) (hQ2 := nothing_known (base_G (typ V))) (args := [va [vy 0, vy 1], va [vy 2, vy 3]]) (v := vp [vz 0 0, vi 1]) rfl rfl (by kernel_rfl) (raround_inv (typ V))
  haveI := anySyms
  exact h.calls (lies_G hL)
end
attribute [local go_sem] World.cell?_alloc_some frozen?_alloc_cells fz0 fz1 fz2 fz3 fz4 fz5

set_option maxRecDepth 100000 in
set_option maxHeartbeats 4000000 in
theorem creases_err (W H x y : Int) (pa : Option Addr) (n ca : Nat) (w : World) (hL : Lay w) (E : Int) (hE : E ≠ 0) (hC : ∀ V, Below w.heap.size w V → Calls Tryz.prog 35 #[.agg #[.int .i64 W, .int .i64 H, .slice pa n ca]] V fun r w' => r = .returned (.int .i64 E) ∧ Below V.heap.size V w') : Calls Tryz.prog 14 #[.agg #[.int .i64 W, .int .i64 H, .slice pa n ca], .agg #[.int .i64 x, .int .i64 y]] w fun r w' => r = .returned (.tuple #[.slice none 0 0, .int .i64 E]) ∧ Below w.heap.size w w' := by
  have hLA : ∀ V, Below w.heap.size w V → Lay V := fun V h => lay_below hL h
  have rw_ : Tryz.f14.results = #[.tmp 4, .tmp 5] := by kernel_rfl
  have hE1 : (E == 0) = false := eqf hE
  go_enter Tryz.func14, Tryz.ntmps14
  go_wp2_with (first | (go_at_call 35; (with_reducible refine (hC _ (by repeat first | (with_reducible exact Below.refl _ _) | (with_reducible assumption) | (with_reducible refine below_on ?_ _) | (with_reducible refine below_dn ?_) | (with_reducible refine below_drew ?_) | (with_reducible refine below_alloc ?_ _) | (with_reducible refine below_set ?_ (by simp; try omega) _) | (exact below_alloc hq _))).mono ?_); rintro r_ wx ⟨rfl, hx⟩; obtain ⟨ux, rfl⟩ := after hx; clear hx) | fail)
  exact bodyPost_ret (v := .tuple #[.slice none 0 0, .int .i64 E]) (by simp [results, rw_, go_sem]; try rfl) rfl ⟨rfl, (by repeat first | (with_reducible exact Below.refl _ _) | (with_reducible assumption) | (with_reducible refine below_on ?_ _) | (with_reducible refine below_dn ?_) | (with_reducible refine below_drew ?_) | (with_reducible refine below_alloc ?_ _) | (with_reducible refine below_set ?_ (by simp; try omega) _) | (exact below_alloc hq _))⟩

set_option maxRecDepth 100000 in
set_option maxHeartbeats 4000000 in
theorem degree_err (W H x y : Int) (pa : Option Addr) (n ca : Nat) (w : World) (hL : Lay w) (E : Int) (hE : E ≠ 0) (hC : ∀ V, Below w.heap.size w V → Calls Tryz.prog 35 #[.agg #[.int .i64 W, .int .i64 H, .slice pa n ca]] V fun r w' => r = .returned (.int .i64 E) ∧ Below V.heap.size V w') : Calls Tryz.prog 15 #[.agg #[.int .i64 W, .int .i64 H, .slice pa n ca], .agg #[.int .i64 x, .int .i64 y]] w fun r w' => r = .returned (.tuple #[.int .i64 0, .int .i64 E]) ∧ Below w.heap.size w w' := by
  have hLA : ∀ V, Below w.heap.size w V → Lay V := fun V h => lay_below hL h
  have rw_ : Tryz.f15.results = #[.tmp 4, .tmp 5] := by kernel_rfl
  have hE1 : (E == 0) = false := eqf hE
  go_enter Tryz.func15, Tryz.ntmps15
  go_wp2_with (first | (go_at_call 14; (with_reducible refine (creases_err W H x y pa n ca _ (hLA _ (by repeat first | (with_reducible exact Below.refl _ _) | (with_reducible assumption) | (with_reducible refine below_on ?_ _) | (with_reducible refine below_dn ?_) | (with_reducible refine below_drew ?_) | (with_reducible refine below_alloc ?_ _) | (with_reducible refine below_set ?_ (by simp; try omega) _) | (exact below_alloc hq _))) E hE (fun V hV => hC V ((show Below w.heap.size w _ from (by repeat first | (with_reducible exact Below.refl _ _) | (with_reducible assumption) | (with_reducible refine below_on ?_ _) | (with_reducible refine below_dn ?_) | (with_reducible refine below_drew ?_) | (with_reducible refine below_alloc ?_ _) | (with_reducible refine below_set ?_ (by simp; try omega) _) | (exact below_alloc hq _))).trans (hV.mono (show Below w.heap.size w _ from (by repeat first | (with_reducible exact Below.refl _ _) | (with_reducible assumption) | (with_reducible refine below_on ?_ _) | (with_reducible refine below_dn ?_) | (with_reducible refine below_drew ?_) | (with_reducible refine below_alloc ?_ _) | (with_reducible refine below_set ?_ (by simp; try omega) _) | (exact below_alloc hq _))).size)))).mono ?_); rintro r_ wx ⟨rfl, hx⟩; obtain ⟨ux, rfl⟩ := after hx; clear hx) | fail)
  exact bodyPost_ret (v := .tuple #[.int .i64 0, .int .i64 E]) (by simp [results, rw_, go_sem]; try rfl) rfl ⟨rfl, (by repeat first | (with_reducible exact Below.refl _ _) | (with_reducible assumption) | (with_reducible refine below_on ?_ _) | (with_reducible refine below_dn ?_) | (with_reducible refine below_drew ?_) | (with_reducible refine below_alloc ?_ _) | (with_reducible refine below_set ?_ (by simp; try omega) _) | (exact below_alloc hq _))⟩

set_option maxRecDepth 100000 in
set_option maxHeartbeats 4000000 in
theorem straight_err (W H x y : Int) (pa : Option Addr) (n ca : Nat) (w : World) (hL : Lay w) (E : Int) (hE : E ≠ 0) (hC : ∀ V, Below w.heap.size w V → Calls Tryz.prog 35 #[.agg #[.int .i64 W, .int .i64 H, .slice pa n ca]] V fun r w' => r = .returned (.int .i64 E) ∧ Below V.heap.size V w') : Calls Tryz.prog 16 #[.agg #[.int .i64 W, .int .i64 H, .slice pa n ca], .agg #[.int .i64 x, .int .i64 y]] w fun r w' => r = .returned (.tuple #[.bool false, .int .i64 E]) ∧ Below w.heap.size w w' := by
  have hLA : ∀ V, Below w.heap.size w V → Lay V := fun V h => lay_below hL h
  have rw_ : Tryz.f16.results = #[.tmp 4, .tmp 5] := by kernel_rfl
  have hE1 : (E == 0) = false := eqf hE
  go_enter Tryz.func16, Tryz.ntmps16
  go_wp2_with (first | (go_at_call 14; (with_reducible refine (creases_err W H x y pa n ca _ (hLA _ (by repeat first | (with_reducible exact Below.refl _ _) | (with_reducible assumption) | (with_reducible refine below_on ?_ _) | (with_reducible refine below_dn ?_) | (with_reducible refine below_drew ?_) | (with_reducible refine below_alloc ?_ _) | (with_reducible refine below_set ?_ (by simp; try omega) _) | (exact below_alloc hq _))) E hE (fun V hV => hC V ((show Below w.heap.size w _ from (by repeat first | (with_reducible exact Below.refl _ _) | (with_reducible assumption) | (with_reducible refine below_on ?_ _) | (with_reducible refine below_dn ?_) | (with_reducible refine below_drew ?_) | (with_reducible refine below_alloc ?_ _) | (with_reducible refine below_set ?_ (by simp; try omega) _) | (exact below_alloc hq _))).trans (hV.mono (show Below w.heap.size w _ from (by repeat first | (with_reducible exact Below.refl _ _) | (with_reducible assumption) | (with_reducible refine below_on ?_ _) | (with_reducible refine below_dn ?_) | (with_reducible refine below_drew ?_) | (with_reducible refine below_alloc ?_ _) | (with_reducible refine below_set ?_ (by simp; try omega) _) | (exact below_alloc hq _))).size)))).mono ?_); rintro r_ wx ⟨rfl, hx⟩; obtain ⟨ux, rfl⟩ := after hx; clear hx) | fail)
  exact bodyPost_ret (v := .tuple #[.bool false, .int .i64 E]) (by simp [results, rw_, go_sem]; try rfl) rfl ⟨rfl, (by repeat first | (with_reducible exact Below.refl _ _) | (with_reducible assumption) | (with_reducible refine below_on ?_ _) | (with_reducible refine below_dn ?_) | (with_reducible refine below_drew ?_) | (with_reducible refine below_alloc ?_ _) | (with_reducible refine below_set ?_ (by simp; try omega) _) | (exact below_alloc hq _))⟩

set_option maxRecDepth 100000 in
set_option maxHeartbeats 4000000 in
theorem angles_err (W H x y : Int) (pa : Option Addr) (n ca : Nat) (w : World) (hL : Lay w) (E : Int) (hE : E ≠ 0) (hC : ∀ V, Below w.heap.size w V → Calls Tryz.prog 35 #[.agg #[.int .i64 W, .int .i64 H, .slice pa n ca]] V fun r w' => r = .returned (.int .i64 E) ∧ Below V.heap.size V w') : Calls Tryz.prog 17 #[.agg #[.int .i64 W, .int .i64 H, .slice pa n ca], .agg #[.int .i64 x, .int .i64 y]] w fun r w' => r = .returned (.tuple #[.slice none 0 0, .int .i64 E]) ∧ Below w.heap.size w w' := by
  have hLA : ∀ V, Below w.heap.size w V → Lay V := fun V h => lay_below hL h
  have rw_ : Tryz.f17.results = #[.tmp 4, .tmp 5] := by kernel_rfl
  have hE1 : (E == 0) = false := eqf hE
  go_enter Tryz.func17, Tryz.ntmps17
  go_wp2_with (first | (go_at_call 14; (with_reducible refine (creases_err W H x y pa n ca _ (hLA _ (by repeat first | (with_reducible exact Below.refl _ _) | (with_reducible assumption) | (with_reducible refine below_on ?_ _) | (with_reducible refine below_dn ?_) | (with_reducible refine below_drew ?_) | (with_reducible refine below_alloc ?_ _) | (with_reducible refine below_set ?_ (by simp; try omega) _) | (exact below_alloc hq _))) E hE (fun V hV => hC V ((show Below w.heap.size w _ from (by repeat first | (with_reducible exact Below.refl _ _) | (with_reducible assumption) | (with_reducible refine below_on ?_ _) | (with_reducible refine below_dn ?_) | (with_reducible refine below_drew ?_) | (with_reducible refine below_alloc ?_ _) | (with_reducible refine below_set ?_ (by simp; try omega) _) | (exact below_alloc hq _))).trans (hV.mono (show Below w.heap.size w _ from (by repeat first | (with_reducible exact Below.refl _ _) | (with_reducible assumption) | (with_reducible refine below_on ?_ _) | (with_reducible refine below_dn ?_) | (with_reducible refine below_drew ?_) | (with_reducible refine below_alloc ?_ _) | (with_reducible refine below_set ?_ (by simp; try omega) _) | (exact below_alloc hq _))).size)))).mono ?_); rintro r_ wx ⟨rfl, hx⟩; obtain ⟨ux, rfl⟩ := after hx; clear hx) | fail)
  exact bodyPost_ret (v := .tuple #[.slice none 0 0, .int .i64 E]) (by simp [results, rw_, go_sem]; try rfl) rfl ⟨rfl, (by repeat first | (with_reducible exact Below.refl _ _) | (with_reducible assumption) | (with_reducible refine below_on ?_ _) | (with_reducible refine below_dn ?_) | (with_reducible refine below_drew ?_) | (with_reducible refine below_alloc ?_ _) | (with_reducible refine below_set ?_ (by simp; try omega) _) | (exact below_alloc hq _))⟩
end

section
open Go Go.RowKit

attribute [local go_sem] World.cell?_alloc_some frozen?_alloc_cells fz0 fz1 fz2 fz3 fz4 fz5

set_option maxRecDepth 100000 in
set_option maxHeartbeats 4000000 in
theorem law_long (W H x y : Int) (pa : Option Addr) (n ca : Nat) (w : World) (hL : Lay w) (hn : (n : Int) ≤ 9223372036854775807) (hl : 20 < (n : Int)) : Calls Tryz.prog 8 #[.agg #[.int .i64 W, .int .i64 H, .slice pa n ca], .agg #[.int .i64 x, .int .i64 y]] w fun r w' => r = .returned (.bool true) ∧ Below w.heap.size w w' := by
  have hLA : ∀ V, Below w.heap.size w V → Lay V := fun V h => lay_below hL h
  go_enter Tryz.func8, Tryz.ntmps8
  go_wp2_with fail
  go_ret
  exact ⟨rfl, (by repeat first | (with_reducible exact Below.refl _ _) | (with_reducible assumption) | (with_reducible refine below_on ?_ _) | (with_reducible refine below_dn ?_) | (with_reducible refine below_drew ?_) | (with_reducible refine below_alloc ?_ _) | (with_reducible refine below_set ?_ (by simp; try omega) _) | (exact below_alloc hq _))⟩

set_option maxRecDepth 100000 in
set_option maxHeartbeats 4000000 in
theorem law_w5 (W H x y : Int) (pa : Option Addr) (n ca : Nat) (w : World) (hL : Lay w) (hn : ¬ 20 < (n : Int)) (hs : OkS W H) (hw : 5 < W) : Calls Tryz.prog 8 #[.agg #[.int .i64 W, .int .i64 H, .slice pa n ca], .agg #[.int .i64 x, .int .i64 y]] w fun r w' => r = .returned (.bool true) ∧ Below w.heap.size w w' := by
  have hLA : ∀ V, Below w.heap.size w V → Lay V := fun V h => lay_below hL h
  go_enter Tryz.func8, Tryz.ntmps8
  go_wp2_with (first | (go_at_call 28; (with_reducible refine (valid_yes W H hs _ (hLA _ (by repeat first | (with_reducible exact Below.refl _ _) | (with_reducible assumption) | (with_reducible refine below_on ?_ _) | (with_reducible refine below_dn ?_) | (with_reducible refine below_drew ?_) | (with_reducible refine below_alloc ?_ _) | (with_reducible refine below_set ?_ (by simp; try omega) _) | (exact below_alloc hq _)))).mono ?_); rintro r_ wx ⟨rfl, hx⟩; obtain ⟨ux, rfl⟩ := after hx; clear hx) | fail)
  go_ret
  exact ⟨rfl, (by repeat first | (with_reducible exact Below.refl _ _) | (with_reducible assumption) | (with_reducible refine below_on ?_ _) | (with_reducible refine below_dn ?_) | (with_reducible refine below_drew ?_) | (with_reducible refine below_alloc ?_ _) | (with_reducible refine below_set ?_ (by simp; try omega) _) | (exact below_alloc hq _))⟩

set_option maxRecDepth 100000 in
set_option maxHeartbeats 4000000 in
theorem law_h5 (W H x y : Int) (pa : Option Addr) (n ca : Nat) (w : World) (hL : Lay w) (hn : ¬ 20 < (n : Int)) (hs : OkS W H) (hw : ¬ 5 < W) (hh : 5 < H) : Calls Tryz.prog 8 #[.agg #[.int .i64 W, .int .i64 H, .slice pa n ca], .agg #[.int .i64 x, .int .i64 y]] w fun r w' => r = .returned (.bool true) ∧ Below w.heap.size w w' := by
  have hLA : ∀ V, Below w.heap.size w V → Lay V := fun V h => lay_below hL h
  go_enter Tryz.func8, Tryz.ntmps8
  go_wp2_with (first | (go_at_call 28; (with_reducible refine (valid_yes W H hs _ (hLA _ (by repeat first | (with_reducible exact Below.refl _ _) | (with_reducible assumption) | (with_reducible refine below_on ?_ _) | (with_reducible refine below_dn ?_) | (with_reducible refine below_drew ?_) | (with_reducible refine below_alloc ?_ _) | (with_reducible refine below_set ?_ (by simp; try omega) _) | (exact below_alloc hq _)))).mono ?_); rintro r_ wx ⟨rfl, hx⟩; obtain ⟨ux, rfl⟩ := after hx; clear hx) | fail)
  go_ret
  exact ⟨rfl, (by repeat first | (with_reducible exact Below.refl _ _) | (with_reducible assumption) | (with_reducible refine below_on ?_ _) | (with_reducible refine below_dn ?_) | (with_reducible refine below_drew ?_) | (with_reducible refine below_alloc ?_ _) | (with_reducible refine below_set ?_ (by simp; try omega) _) | (exact below_alloc hq _))⟩


set_option maxRecDepth 100000 in
set_option maxHeartbeats 4000000 in
theorem main_ok0 (W H x y : Int) (pa : Option Addr) (n ca : Nat) (w : World) (hL : Lay w) (E : Int) (hE0 : E = 0) (hn : ¬ 20 < (n : Int)) (hs : OkS W H) (hw : ¬ 5 < W) (hh : ¬ 5 < H) (hAll : ∀ V, Below w.heap.size w V → Calls Tryz.prog 10 #[.agg #[.int .i64 W, .int .i64 H]] V fun r V' => (∃ v, r = .returned (.tuple #[v, .int .i64 0])) ∧ Below V.heap.size V V') (hAr : ∀ V, Below w.heap.size w V → Calls Tryz.prog 13 #[.agg #[.int .i64 W, .int .i64 H], .agg #[.int .i64 x, .int .i64 y]] V fun r V' => (∃ v z, r = .returned (.tuple #[v, .int .i64 z])) ∧ Below V.heap.size V V') (hC : ∀ V, Below w.heap.size w V → Calls Tryz.prog 35 #[.agg #[.int .i64 W, .int .i64 H, .slice pa n ca]] V fun r w' => r = .returned (.int .i64 E) ∧ Below V.heap.size V w') (hR : ∀ V, Below w.heap.size w V → Calls Tryz.prog 29 #[.agg #[.int .i64 W, .int .i64 H, .slice pa n ca]] V fun r w' => r = .returned (.int .i64 E) ∧ Below V.heap.size V w') : Calls Tryz.prog 8 #[.agg #[.int .i64 W, .int .i64 H, .slice pa n ca], .agg #[.int .i64 x, .int .i64 y]] w fun r w' => r = .returned (.bool true) ∧ Below w.heap.size w w' := by
  have hLA : ∀ V, Below w.heap.size w V → Lay V := fun V h => lay_below hL h
  subst hE0
  go_enter Tryz.func8, Tryz.ntmps8
  go_upto_region 3 with (first | (go_at_call 28; (with_reducible refine (valid_yes W H hs _ (hLA _ (by repeat first | (with_reducible exact Below.refl _ _) | (with_reducible assumption) | (with_reducible refine below_on ?_ _) | (with_reducible refine below_dn ?_) | (with_reducible refine below_drew ?_) | (with_reducible refine below_alloc ?_ _) | (with_reducible refine below_set ?_ (by simp; try omega) _) | (exact below_alloc hq _)))).mono ?_); rintro r_ wx ⟨rfl, hx⟩; obtain ⟨ux, rfl⟩ := after hx; clear hx) | fail)
  have hBw : Below w.heap.size w (on ux) := (by repeat first | (with_reducible exact Below.refl _ _) | (with_reducible assumption) | (with_reducible refine below_on ?_ _) | (with_reducible refine below_dn ?_) | (with_reducible refine below_drew ?_) | (with_reducible refine below_alloc ?_ _) | (with_reducible refine below_set ?_ (by simp; try omega) _) | (exact below_alloc hq _))
  have x0 : (on ux).cell? ⟨w.heap.size, 0, none⟩ = some (.int .i64 W) := by simp [go_sem]
  have x1 : (on ux).cell? ⟨w.heap.size, 1, none⟩ = some (.int .i64 H) := by simp [go_sem]
  have x2 : (on ux).cell? ⟨w.heap.size, 2, none⟩ = some (.slice pa n ca) := by simp [go_sem]
  have x3 : (on ux).cell? ⟨w.heap.size + 1, 0, none⟩ = some (.int .i64 x) := by simp [go_sem]
  have x4 : (on ux).cell? ⟨w.heap.size + 1, 1, none⟩ = some (.int .i64 y) := by simp [go_sem]
  generalize (on ux) = V1 at *
  clear ux
  go_upto_region 4 with (first | (go_at_call 10; (with_reducible refine (hAll _ (by repeat first | (with_reducible exact Below.refl _ _) | (with_reducible assumption) | (with_reducible refine below_on ?_ _) | (with_reducible refine below_dn ?_) | (with_reducible refine below_drew ?_) | (with_reducible refine below_alloc ?_ _) | (with_reducible refine below_set ?_ (by simp; try omega) _) | (exact below_alloc hq _))).mono ?_); rintro r_ wx ⟨⟨va_, rfl⟩, hx⟩; obtain ⟨ux, rfl⟩ := after hx; clear hx) | fail)
  have hb : Below V1.heap.size V1 (on ux) := (by repeat first | (with_reducible exact Below.refl _ _) | (with_reducible assumption) | (with_reducible refine below_on ?_ _) | (with_reducible refine below_dn ?_) | (with_reducible refine below_drew ?_) | (with_reducible refine below_alloc ?_ _) | (with_reducible refine below_set ?_ (by simp; try omega) _) | (exact below_alloc hq _))
  replace x0 : (on ux).cell? ⟨w.heap.size, 0, none⟩ = some (.int .i64 W) := cRy hb x0
  replace x1 : (on ux).cell? ⟨w.heap.size, 1, none⟩ = some (.int .i64 H) := cRy hb x1
  replace x2 : (on ux).cell? ⟨w.heap.size, 2, none⟩ = some (.slice pa n ca) := cRy hb x2
  replace x3 : (on ux).cell? ⟨w.heap.size + 1, 0, none⟩ = some (.int .i64 x) := cRy hb x3
  replace x4 : (on ux).cell? ⟨w.heap.size + 1, 1, none⟩ = some (.int .i64 y) := cRy hb x4
  replace hBw : Below w.heap.size w (on ux) := hBw.trans (hb.mono hBw.size)
  clear hb
  generalize (on ux) = V2 at *
  clear ux
  go_upto_region 5 with (first | (go_at_call 13; (with_reducible refine (hAr _ (by repeat first | (with_reducible exact Below.refl _ _) | (with_reducible assumption) | (with_reducible refine below_on ?_ _) | (with_reducible refine below_dn ?_) | (with_reducible refine below_drew ?_) | (with_reducible refine below_alloc ?_ _) | (with_reducible refine below_set ?_ (by simp; try omega) _) | (exact below_alloc hq _))).mono ?_); rintro r_ wx ⟨⟨vb_, zb_, rfl⟩, hx⟩; obtain ⟨ux, rfl⟩ := after hx; clear hx) | fail)
  have hb : Below V2.heap.size V2 (on ux) := (by repeat first | (with_reducible exact Below.refl _ _) | (with_reducible assumption) | (with_reducible refine below_on ?_ _) | (with_reducible refine below_dn ?_) | (with_reducible refine below_drew ?_) | (with_reducible refine below_alloc ?_ _) | (with_reducible refine below_set ?_ (by simp; try omega) _) | (exact below_alloc hq _))
  replace x0 : (on ux).cell? ⟨w.heap.size, 0, none⟩ = some (.int .i64 W) := cRy hb x0
  replace x1 : (on ux).cell? ⟨w.heap.size, 1, none⟩ = some (.int .i64 H) := cRy hb x1
  replace x2 : (on ux).cell? ⟨w.heap.size, 2, none⟩ = some (.slice pa n ca) := cRy hb x2
  replace x3 : (on ux).cell? ⟨w.heap.size + 1, 0, none⟩ = some (.int .i64 x) := cRy hb x3
  replace x4 : (on ux).cell? ⟨w.heap.size + 1, 1, none⟩ = some (.int .i64 y) := cRy hb x4
  replace hBw : Below w.heap.size w (on ux) := hBw.trans (hb.mono hBw.size)
  clear hb
  generalize (on ux) = V3 at *
  clear ux
  go_upto_region 7 with (first | (go_at_call 28; (with_reducible refine (valid_yes W H hs _ (hLA _ (by repeat first | (with_reducible exact Below.refl _ _) | (with_reducible assumption) | (with_reducible refine below_on ?_ _) | (with_reducible refine below_dn ?_) | (with_reducible refine below_drew ?_) | (with_reducible refine below_alloc ?_ _) | (with_reducible refine below_set ?_ (by simp; try omega) _) | (exact below_alloc hq _)))).mono ?_); rintro r_ wx ⟨rfl, hx⟩; obtain ⟨ux, rfl⟩ := after hx; clear hx) | fail)
  have hb : Below V3.heap.size V3 (on ux) := (by repeat first | (with_reducible exact Below.refl _ _) | (with_reducible assumption) | (with_reducible refine below_on ?_ _) | (with_reducible refine below_dn ?_) | (with_reducible refine below_drew ?_) | (with_reducible refine below_alloc ?_ _) | (with_reducible refine below_set ?_ (by simp; try omega) _) | (exact below_alloc hq _))
  replace x0 : (on ux).cell? ⟨w.heap.size, 0, none⟩ = some (.int .i64 W) := cRy hb x0
  replace x1 : (on ux).cell? ⟨w.heap.size, 1, none⟩ = some (.int .i64 H) := cRy hb x1
  replace x2 : (on ux).cell? ⟨w.heap.size, 2, none⟩ = some (.slice pa n ca) := cRy hb x2
  replace x3 : (on ux).cell? ⟨w.heap.size + 1, 0, none⟩ = some (.int .i64 x) := cRy hb x3
  replace x4 : (on ux).cell? ⟨w.heap.size + 1, 1, none⟩ = some (.int .i64 y) := cRy hb x4
  replace hBw : Below w.heap.size w (on ux) := hBw.trans (hb.mono hBw.size)
  clear hb
  generalize (on ux) = V4 at *
  clear ux
  go_upto_region 8 with (first | (go_at_call 29; (with_reducible refine (hR _ (by repeat first | (with_reducible exact Below.refl _ _) | (with_reducible assumption) | (with_reducible refine below_on ?_ _) | (with_reducible refine below_dn ?_) | (with_reducible refine below_drew ?_) | (with_reducible refine below_alloc ?_ _) | (with_reducible refine below_set ?_ (by simp; try omega) _) | (exact below_alloc hq _))).mono ?_); rintro r_ wx ⟨rfl, hx⟩; obtain ⟨ux, rfl⟩ := after hx; clear hx) | fail)
  have hb : Below V4.heap.size V4 (on ux) := (by repeat first | (with_reducible exact Below.refl _ _) | (with_reducible assumption) | (with_reducible refine below_on ?_ _) | (with_reducible refine below_dn ?_) | (with_reducible refine below_drew ?_) | (with_reducible refine below_alloc ?_ _) | (with_reducible refine below_set ?_ (by simp; try omega) _) | (exact below_alloc hq _))
  replace x0 : (on ux).cell? ⟨w.heap.size, 0, none⟩ = some (.int .i64 W) := cRy hb x0
  replace x1 : (on ux).cell? ⟨w.heap.size, 1, none⟩ = some (.int .i64 H) := cRy hb x1
  replace x2 : (on ux).cell? ⟨w.heap.size, 2, none⟩ = some (.slice pa n ca) := cRy hb x2
  replace x3 : (on ux).cell? ⟨w.heap.size + 1, 0, none⟩ = some (.int .i64 x) := cRy hb x3
  replace x4 : (on ux).cell? ⟨w.heap.size + 1, 1, none⟩ = some (.int .i64 y) := cRy hb x4
  replace hBw : Below w.heap.size w (on ux) := hBw.trans (hb.mono hBw.size)
  clear hb
  generalize (on ux) = V5 at *
  clear ux
  go_wp2_with (first | (go_at_call 18; (with_reducible refine (lives_ok _ (hLA _ (by repeat first | (with_reducible exact Below.refl _ _) | (with_reducible assumption) | (with_reducible refine below_on ?_ _) | (with_reducible refine below_dn ?_) | (with_reducible refine below_drew ?_) | (with_reducible refine below_alloc ?_ _) | (with_reducible refine below_set ?_ (by simp; try omega) _) | (exact below_alloc hq _)))).mono ?_); rintro r_ wx ⟨rfl, hx⟩; obtain ⟨ux, rfl⟩ := after hx; clear hx) | fail)
  go_ret
  exact ⟨rfl, (by repeat first | (with_reducible exact Below.refl _ _) | (with_reducible assumption) | (with_reducible refine below_on ?_ _) | (with_reducible refine below_dn ?_) | (with_reducible refine below_drew ?_) | (with_reducible refine below_alloc ?_ _) | (with_reducible refine below_set ?_ (by simp; try omega) _) | (exact below_alloc hq _))⟩

set_option maxRecDepth 100000 in
set_option maxHeartbeats 4000000 in
theorem main_okE (W H x y : Int) (pa : Option Addr) (n ca : Nat) (w : World) (hL : Lay w) (E : Int) (hE : E ≠ 0) (hn : ¬ 20 < (n : Int)) (hs : OkS W H) (hw : ¬ 5 < W) (hh : ¬ 5 < H) (hAll : ∀ V, Below w.heap.size w V → Calls Tryz.prog 10 #[.agg #[.int .i64 W, .int .i64 H]] V fun r V' => (∃ v, r = .returned (.tuple #[v, .int .i64 0])) ∧ Below V.heap.size V V') (hAr : ∀ V, Below w.heap.size w V → Calls Tryz.prog 13 #[.agg #[.int .i64 W, .int .i64 H], .agg #[.int .i64 x, .int .i64 y]] V fun r V' => (∃ v z, r = .returned (.tuple #[v, .int .i64 z])) ∧ Below V.heap.size V V') (hC : ∀ V, Below w.heap.size w V → Calls Tryz.prog 35 #[.agg #[.int .i64 W, .int .i64 H, .slice pa n ca]] V fun r w' => r = .returned (.int .i64 E) ∧ Below V.heap.size V w') (hR : ∀ V, Below w.heap.size w V → Calls Tryz.prog 29 #[.agg #[.int .i64 W, .int .i64 H, .slice pa n ca]] V fun r w' => r = .returned (.int .i64 E) ∧ Below V.heap.size V w') : Calls Tryz.prog 8 #[.agg #[.int .i64 W, .int .i64 H, .slice pa n ca], .agg #[.int .i64 x, .int .i64 y]] w fun r w' => r = .returned (.bool true) ∧ Below w.heap.size w w' := by
  have hLA : ∀ V, Below w.heap.size w V → Lay V := fun V h => lay_below hL h
  have hEe : (E == 0) = false := eqf hE
  go_enter Tryz.func8, Tryz.ntmps8
  go_upto_region 3 with (first | (go_at_call 28; (with_reducible refine (valid_yes W H hs _ (hLA _ (by repeat first | (with_reducible exact Below.refl _ _) | (with_reducible assumption) | (with_reducible refine below_on ?_ _) | (with_reducible refine below_dn ?_) | (with_reducible refine below_drew ?_) | (with_reducible refine below_alloc ?_ _) | (with_reducible refine below_set ?_ (by simp; try omega) _) | (exact below_alloc hq _)))).mono ?_); rintro r_ wx ⟨rfl, hx⟩; obtain ⟨ux, rfl⟩ := after hx; clear hx) | fail)
  have hBw : Below w.heap.size w (on ux) := (by repeat first | (with_reducible exact Below.refl _ _) | (with_reducible assumption) | (with_reducible refine below_on ?_ _) | (with_reducible refine below_dn ?_) | (with_reducible refine below_drew ?_) | (with_reducible refine below_alloc ?_ _) | (with_reducible refine below_set ?_ (by simp; try omega) _) | (exact below_alloc hq _))
  have x0 : (on ux).cell? ⟨w.heap.size, 0, none⟩ = some (.int .i64 W) := by simp [go_sem]
  have x1 : (on ux).cell? ⟨w.heap.size, 1, none⟩ = some (.int .i64 H) := by simp [go_sem]
  have x2 : (on ux).cell? ⟨w.heap.size, 2, none⟩ = some (.slice pa n ca) := by simp [go_sem]
  have x3 : (on ux).cell? ⟨w.heap.size + 1, 0, none⟩ = some (.int .i64 x) := by simp [go_sem]
  have x4 : (on ux).cell? ⟨w.heap.size + 1, 1, none⟩ = some (.int .i64 y) := by simp [go_sem]
  generalize (on ux) = V1 at *
  clear ux
  go_upto_region 4 with (first | (go_at_call 10; (with_reducible refine (hAll _ (by repeat first | (with_reducible exact Below.refl _ _) | (with_reducible assumption) | (with_reducible refine below_on ?_ _) | (with_reducible refine below_dn ?_) | (with_reducible refine below_drew ?_) | (with_reducible refine below_alloc ?_ _) | (with_reducible refine below_set ?_ (by simp; try omega) _) | (exact below_alloc hq _))).mono ?_); rintro r_ wx ⟨⟨va_, rfl⟩, hx⟩; obtain ⟨ux, rfl⟩ := after hx; clear hx) | fail)
  have hb : Below V1.heap.size V1 (on ux) := (by repeat first | (with_reducible exact Below.refl _ _) | (with_reducible assumption) | (with_reducible refine below_on ?_ _) | (with_reducible refine below_dn ?_) | (with_reducible refine below_drew ?_) | (with_reducible refine below_alloc ?_ _) | (with_reducible refine below_set ?_ (by simp; try omega) _) | (exact below_alloc hq _))
  replace x0 : (on ux).cell? ⟨w.heap.size, 0, none⟩ = some (.int .i64 W) := cRy hb x0
  replace x1 : (on ux).cell? ⟨w.heap.size, 1, none⟩ = some (.int .i64 H) := cRy hb x1
  replace x2 : (on ux).cell? ⟨w.heap.size, 2, none⟩ = some (.slice pa n ca) := cRy hb x2
  replace x3 : (on ux).cell? ⟨w.heap.size + 1, 0, none⟩ = some (.int .i64 x) := cRy hb x3
  replace x4 : (on ux).cell? ⟨w.heap.size + 1, 1, none⟩ = some (.int .i64 y) := cRy hb x4
  replace hBw : Below w.heap.size w (on ux) := hBw.trans (hb.mono hBw.size)
  clear hb
  generalize (on ux) = V2 at *
  clear ux
  go_upto_region 5 with (first | (go_at_call 13; (with_reducible refine (hAr _ (by repeat first | (with_reducible exact Below.refl _ _) | (with_reducible assumption) | (with_reducible refine below_on ?_ _) | (with_reducible refine below_dn ?_) | (with_reducible refine below_drew ?_) | (with_reducible refine below_alloc ?_ _) | (with_reducible refine below_set ?_ (by simp; try omega) _) | (exact below_alloc hq _))).mono ?_); rintro r_ wx ⟨⟨vb_, zb_, rfl⟩, hx⟩; obtain ⟨ux, rfl⟩ := after hx; clear hx) | fail)
  have hb : Below V2.heap.size V2 (on ux) := (by repeat first | (with_reducible exact Below.refl _ _) | (with_reducible assumption) | (with_reducible refine below_on ?_ _) | (with_reducible refine below_dn ?_) | (with_reducible refine below_drew ?_) | (with_reducible refine below_alloc ?_ _) | (with_reducible refine below_set ?_ (by simp; try omega) _) | (exact below_alloc hq _))
  replace x0 : (on ux).cell? ⟨w.heap.size, 0, none⟩ = some (.int .i64 W) := cRy hb x0
  replace x1 : (on ux).cell? ⟨w.heap.size, 1, none⟩ = some (.int .i64 H) := cRy hb x1
  replace x2 : (on ux).cell? ⟨w.heap.size, 2, none⟩ = some (.slice pa n ca) := cRy hb x2
  replace x3 : (on ux).cell? ⟨w.heap.size + 1, 0, none⟩ = some (.int .i64 x) := cRy hb x3
  replace x4 : (on ux).cell? ⟨w.heap.size + 1, 1, none⟩ = some (.int .i64 y) := cRy hb x4
  replace hBw : Below w.heap.size w (on ux) := hBw.trans (hb.mono hBw.size)
  clear hb
  generalize (on ux) = V3 at *
  clear ux
  go_upto_region 7 with (first | (go_at_call 28; (with_reducible refine (valid_yes W H hs _ (hLA _ (by repeat first | (with_reducible exact Below.refl _ _) | (with_reducible assumption) | (with_reducible refine below_on ?_ _) | (with_reducible refine below_dn ?_) | (with_reducible refine below_drew ?_) | (with_reducible refine below_alloc ?_ _) | (with_reducible refine below_set ?_ (by simp; try omega) _) | (exact below_alloc hq _)))).mono ?_); rintro r_ wx ⟨rfl, hx⟩; obtain ⟨ux, rfl⟩ := after hx; clear hx) | fail)
  have hb : Below V3.heap.size V3 (on ux) := (by repeat first | (with_reducible exact Below.refl _ _) | (with_reducible assumption) | (with_reducible refine below_on ?_ _) | (with_reducible refine below_dn ?_) | (with_reducible refine below_drew ?_) | (with_reducible refine below_alloc ?_ _) | (with_reducible refine below_set ?_ (by simp; try omega) _) | (exact below_alloc hq _))
  replace x0 : (on ux).cell? ⟨w.heap.size, 0, none⟩ = some (.int .i64 W) := cRy hb x0
  replace x1 : (on ux).cell? ⟨w.heap.size, 1, none⟩ = some (.int .i64 H) := cRy hb x1
  replace x2 : (on ux).cell? ⟨w.heap.size, 2, none⟩ = some (.slice pa n ca) := cRy hb x2
  replace x3 : (on ux).cell? ⟨w.heap.size + 1, 0, none⟩ = some (.int .i64 x) := cRy hb x3
  replace x4 : (on ux).cell? ⟨w.heap.size + 1, 1, none⟩ = some (.int .i64 y) := cRy hb x4
  replace hBw : Below w.heap.size w (on ux) := hBw.trans (hb.mono hBw.size)
  clear hb
  generalize (on ux) = V4 at *
  clear ux
  go_upto_region 8 with (first | (go_at_call 29; (with_reducible refine (hR _ (by repeat first | (with_reducible exact Below.refl _ _) | (with_reducible assumption) | (with_reducible refine below_on ?_ _) | (with_reducible refine below_dn ?_) | (with_reducible refine below_drew ?_) | (with_reducible refine below_alloc ?_ _) | (with_reducible refine below_set ?_ (by simp; try omega) _) | (exact below_alloc hq _))).mono ?_); rintro r_ wx ⟨rfl, hx⟩; obtain ⟨ux, rfl⟩ := after hx; clear hx) | fail)
  have hb : Below V4.heap.size V4 (on ux) := (by repeat first | (with_reducible exact Below.refl _ _) | (with_reducible assumption) | (with_reducible refine below_on ?_ _) | (with_reducible refine below_dn ?_) | (with_reducible refine below_drew ?_) | (with_reducible refine below_alloc ?_ _) | (with_reducible refine below_set ?_ (by simp; try omega) _) | (exact below_alloc hq _))
  replace x0 : (on ux).cell? ⟨w.heap.size, 0, none⟩ = some (.int .i64 W) := cRy hb x0
  replace x1 : (on ux).cell? ⟨w.heap.size, 1, none⟩ = some (.int .i64 H) := cRy hb x1
  replace x2 : (on ux).cell? ⟨w.heap.size, 2, none⟩ = some (.slice pa n ca) := cRy hb x2
  replace x3 : (on ux).cell? ⟨w.heap.size + 1, 0, none⟩ = some (.int .i64 x) := cRy hb x3
  replace x4 : (on ux).cell? ⟨w.heap.size + 1, 1, none⟩ = some (.int .i64 y) := cRy hb x4
  replace hBw : Below w.heap.size w (on ux) := hBw.trans (hb.mono hBw.size)
  clear hb
  generalize (on ux) = V5 at *
  clear ux
  go_upto_region 11 with (first | (go_at_call 14; (with_reducible refine (creases_err W H x y pa n ca _ (hLA _ (by repeat first | (with_reducible exact Below.refl _ _) | (with_reducible assumption) | (with_reducible refine below_on ?_ _) | (with_reducible refine below_dn ?_) | (with_reducible refine below_drew ?_) | (with_reducible refine below_alloc ?_ _) | (with_reducible refine below_set ?_ (by simp; try omega) _) | (exact below_alloc hq _))) E hE (fun V hV => hC V ((show Below w.heap.size w _ from (by repeat first | (with_reducible exact Below.refl _ _) | (with_reducible assumption) | (with_reducible refine below_on ?_ _) | (with_reducible refine below_dn ?_) | (with_reducible refine below_drew ?_) | (with_reducible refine below_alloc ?_ _) | (with_reducible refine below_set ?_ (by simp; try omega) _) | (exact below_alloc hq _))).trans (hV.mono (show Below w.heap.size w _ from (by repeat first | (with_reducible exact Below.refl _ _) | (with_reducible assumption) | (with_reducible refine below_on ?_ _) | (with_reducible refine below_dn ?_) | (with_reducible refine below_drew ?_) | (with_reducible refine below_alloc ?_ _) | (with_reducible refine below_set ?_ (by simp; try omega) _) | (exact below_alloc hq _))).size)))).mono ?_); rintro r_ wx ⟨rfl, hx⟩; obtain ⟨ux, rfl⟩ := after hx; clear hx) | fail)
  have hb : Below V5.heap.size V5 (on ux) := (by repeat first | (with_reducible exact Below.refl _ _) | (with_reducible assumption) | (with_reducible refine below_on ?_ _) | (with_reducible refine below_dn ?_) | (with_reducible refine below_drew ?_) | (with_reducible refine below_alloc ?_ _) | (with_reducible refine below_set ?_ (by simp; try omega) _) | (exact below_alloc hq _))
  replace x0 : (on ux).cell? ⟨w.heap.size, 0, none⟩ = some (.int .i64 W) := cRy hb x0
  replace x1 : (on ux).cell? ⟨w.heap.size, 1, none⟩ = some (.int .i64 H) := cRy hb x1
  replace x2 : (on ux).cell? ⟨w.heap.size, 2, none⟩ = some (.slice pa n ca) := cRy hb x2
  replace x3 : (on ux).cell? ⟨w.heap.size + 1, 0, none⟩ = some (.int .i64 x) := cRy hb x3
  replace x4 : (on ux).cell? ⟨w.heap.size + 1, 1, none⟩ = some (.int .i64 y) := cRy hb x4
  replace hBw : Below w.heap.size w (on ux) := hBw.trans (hb.mono hBw.size)
  clear hb
  generalize (on ux) = V6 at *
  clear ux
  go_upto_region 12 with (first | (go_at_call 15; (with_reducible refine (degree_err W H x y pa n ca _ (hLA _ (by repeat first | (with_reducible exact Below.refl _ _) | (with_reducible assumption) | (with_reducible refine below_on ?_ _) | (with_reducible refine below_dn ?_) | (with_reducible refine below_drew ?_) | (with_reducible refine below_alloc ?_ _) | (with_reducible refine below_set ?_ (by simp; try omega) _) | (exact below_alloc hq _))) E hE (fun V hV => hC V ((show Below w.heap.size w _ from (by repeat first | (with_reducible exact Below.refl _ _) | (with_reducible assumption) | (with_reducible refine below_on ?_ _) | (with_reducible refine below_dn ?_) | (with_reducible refine below_drew ?_) | (with_reducible refine below_alloc ?_ _) | (with_reducible refine below_set ?_ (by simp; try omega) _) | (exact below_alloc hq _))).trans (hV.mono (show Below w.heap.size w _ from (by repeat first | (with_reducible exact Below.refl _ _) | (with_reducible assumption) | (with_reducible refine below_on ?_ _) | (with_reducible refine below_dn ?_) | (with_reducible refine below_drew ?_) | (with_reducible refine below_alloc ?_ _) | (with_reducible refine below_set ?_ (by simp; try omega) _) | (exact below_alloc hq _))).size)))).mono ?_); rintro r_ wx ⟨rfl, hx⟩; obtain ⟨ux, rfl⟩ := after hx; clear hx) | fail)
  have hb : Below V6.heap.size V6 (on ux) := (by repeat first | (with_reducible exact Below.refl _ _) | (with_reducible assumption) | (with_reducible refine below_on ?_ _) | (with_reducible refine below_dn ?_) | (with_reducible refine below_drew ?_) | (with_reducible refine below_alloc ?_ _) | (with_reducible refine below_set ?_ (by simp; try omega) _) | (exact below_alloc hq _))
  replace x0 : (on ux).cell? ⟨w.heap.size, 0, none⟩ = some (.int .i64 W) := cRy hb x0
  replace x1 : (on ux).cell? ⟨w.heap.size, 1, none⟩ = some (.int .i64 H) := cRy hb x1
  replace x2 : (on ux).cell? ⟨w.heap.size, 2, none⟩ = some (.slice pa n ca) := cRy hb x2
  replace x3 : (on ux).cell? ⟨w.heap.size + 1, 0, none⟩ = some (.int .i64 x) := cRy hb x3
  replace x4 : (on ux).cell? ⟨w.heap.size + 1, 1, none⟩ = some (.int .i64 y) := cRy hb x4
  replace hBw : Below w.heap.size w (on ux) := hBw.trans (hb.mono hBw.size)
  clear hb
  generalize (on ux) = V7 at *
  clear ux
  go_upto_region 13 with (first | (go_at_call 16; (with_reducible refine (straight_err W H x y pa n ca _ (hLA _ (by repeat first | (with_reducible exact Below.refl _ _) | (with_reducible assumption) | (with_reducible refine below_on ?_ _) | (with_reducible refine below_dn ?_) | (with_reducible refine below_drew ?_) | (with_reducible refine below_alloc ?_ _) | (with_reducible refine below_set ?_ (by simp; try omega) _) | (exact below_alloc hq _))) E hE (fun V hV => hC V ((show Below w.heap.size w _ from (by repeat first | (with_reducible exact Below.refl _ _) | (with_reducible assumption) | (with_reducible refine below_on ?_ _) | (with_reducible refine below_dn ?_) | (with_reducible refine below_drew ?_) | (with_reducible refine below_alloc ?_ _) | (with_reducible refine below_set ?_ (by simp; try omega) _) | (exact below_alloc hq _))).trans (hV.mono (show Below w.heap.size w _ from (by repeat first | (with_reducible exact Below.refl _ _) | (with_reducible assumption) | (with_reducible refine below_on ?_ _) | (with_reducible refine below_dn ?_) | (with_reducible refine below_drew ?_) | (with_reducible refine below_alloc ?_ _) | (with_reducible refine below_set ?_ (by simp; try omega) _) | (exact below_alloc hq _))).size)))).mono ?_); rintro r_ wx ⟨rfl, hx⟩; obtain ⟨ux, rfl⟩ := after hx; clear hx) | fail)
  have hb : Below V7.heap.size V7 (on ux) := (by repeat first | (with_reducible exact Below.refl _ _) | (with_reducible assumption) | (with_reducible refine below_on ?_ _) | (with_reducible refine below_dn ?_) | (with_reducible refine below_drew ?_) | (with_reducible refine below_alloc ?_ _) | (with_reducible refine below_set ?_ (by simp; try omega) _) | (exact below_alloc hq _))
  replace x0 : (on ux).cell? ⟨w.heap.size, 0, none⟩ = some (.int .i64 W) := cRy hb x0
  replace x1 : (on ux).cell? ⟨w.heap.size, 1, none⟩ = some (.int .i64 H) := cRy hb x1
  replace x2 : (on ux).cell? ⟨w.heap.size, 2, none⟩ = some (.slice pa n ca) := cRy hb x2
  replace x3 : (on ux).cell? ⟨w.heap.size + 1, 0, none⟩ = some (.int .i64 x) := cRy hb x3
  replace x4 : (on ux).cell? ⟨w.heap.size + 1, 1, none⟩ = some (.int .i64 y) := cRy hb x4
  replace hBw : Below w.heap.size w (on ux) := hBw.trans (hb.mono hBw.size)
  clear hb
  generalize (on ux) = V8 at *
  clear ux
  go_upto_region 14 with (first | (go_at_call 17; (with_reducible refine (angles_err W H x y pa n ca _ (hLA _ (by repeat first | (with_reducible exact Below.refl _ _) | (with_reducible assumption) | (with_reducible refine below_on ?_ _) | (with_reducible refine below_dn ?_) | (with_reducible refine below_drew ?_) | (with_reducible refine below_alloc ?_ _) | (with_reducible refine below_set ?_ (by simp; try omega) _) | (exact below_alloc hq _))) E hE (fun V hV => hC V ((show Below w.heap.size w _ from (by repeat first | (with_reducible exact Below.refl _ _) | (with_reducible assumption) | (with_reducible refine below_on ?_ _) | (with_reducible refine below_dn ?_) | (with_reducible refine below_drew ?_) | (with_reducible refine below_alloc ?_ _) | (with_reducible refine below_set ?_ (by simp; try omega) _) | (exact below_alloc hq _))).trans (hV.mono (show Below w.heap.size w _ from (by repeat first | (with_reducible exact Below.refl _ _) | (with_reducible assumption) | (with_reducible refine below_on ?_ _) | (with_reducible refine below_dn ?_) | (with_reducible refine below_drew ?_) | (with_reducible refine below_alloc ?_ _) | (with_reducible refine below_set ?_ (by simp; try omega) _) | (exact below_alloc hq _))).size)))).mono ?_); rintro r_ wx ⟨rfl, hx⟩; obtain ⟨ux, rfl⟩ := after hx; clear hx) | fail)
  have hb : Below V8.heap.size V8 (on ux) := (by repeat first | (with_reducible exact Below.refl _ _) | (with_reducible assumption) | (with_reducible refine below_on ?_ _) | (with_reducible refine below_dn ?_) | (with_reducible refine below_drew ?_) | (with_reducible refine below_alloc ?_ _) | (with_reducible refine below_set ?_ (by simp; try omega) _) | (exact below_alloc hq _))
  replace x0 : (on ux).cell? ⟨w.heap.size, 0, none⟩ = some (.int .i64 W) := cRy hb x0
  replace x1 : (on ux).cell? ⟨w.heap.size, 1, none⟩ = some (.int .i64 H) := cRy hb x1
  replace x2 : (on ux).cell? ⟨w.heap.size, 2, none⟩ = some (.slice pa n ca) := cRy hb x2
  replace x3 : (on ux).cell? ⟨w.heap.size + 1, 0, none⟩ = some (.int .i64 x) := cRy hb x3
  replace x4 : (on ux).cell? ⟨w.heap.size + 1, 1, none⟩ = some (.int .i64 y) := cRy hb x4
  replace hBw : Below w.heap.size w (on ux) := hBw.trans (hb.mono hBw.size)
  clear hb
  generalize (on ux) = V9 at *
  clear ux
  go_wp2_with (first | (go_at_call 18; (with_reducible refine (lives_ok _ (hLA _ (by repeat first | (with_reducible exact Below.refl _ _) | (with_reducible assumption) | (with_reducible refine below_on ?_ _) | (with_reducible refine below_dn ?_) | (with_reducible refine below_drew ?_) | (with_reducible refine below_alloc ?_ _) | (with_reducible refine below_set ?_ (by simp; try omega) _) | (exact below_alloc hq _)))).mono ?_); rintro r_ wx ⟨rfl, hx⟩; obtain ⟨ux, rfl⟩ := after hx; clear hx) | fail)
  go_ret
  exact ⟨rfl, (by repeat first | (with_reducible exact Below.refl _ _) | (with_reducible assumption) | (with_reducible refine below_on ?_ _) | (with_reducible refine below_dn ?_) | (with_reducible refine below_drew ?_) | (with_reducible refine below_alloc ?_ _) | (with_reducible refine below_set ?_ (by simp; try omega) _) | (exact below_alloc hq _))⟩

set_option maxRecDepth 100000 in
set_option maxHeartbeats 4000000 in
theorem main_bad (W H x y : Int) (pa : Option Addr) (n ca : Nat) (w : World) (hL : Lay w) (E : Int) (hE1 : E = 1) (hn : ¬ 20 < (n : Int)) (hs : ¬ OkS W H) (hC : ∀ V, Below w.heap.size w V → Calls Tryz.prog 35 #[.agg #[.int .i64 W, .int .i64 H, .slice pa n ca]] V fun r w' => r = .returned (.int .i64 E) ∧ Below V.heap.size V w') (hR : ∀ V, Below w.heap.size w V → Calls Tryz.prog 29 #[.agg #[.int .i64 W, .int .i64 H, .slice pa n ca]] V fun r w' => r = .returned (.int .i64 E) ∧ Below V.heap.size V w') : Calls Tryz.prog 8 #[.agg #[.int .i64 W, .int .i64 H, .slice pa n ca], .agg #[.int .i64 x, .int .i64 y]] w fun r w' => r = .returned (.bool true) ∧ Below w.heap.size w w' := by
  have hLA : ∀ V, Below w.heap.size w V → Lay V := fun V h => lay_below hL h
  subst hE1
  have hE : (1 : Int) ≠ 0 := by decide
  go_enter Tryz.func8, Tryz.ntmps8
  go_upto_region 3 with (first | (go_at_call 28; (with_reducible refine (valid_no W H hs _ (hLA _ (by repeat first | (with_reducible exact Below.refl _ _) | (with_reducible assumption) | (with_reducible refine below_on ?_ _) | (with_reducible refine below_dn ?_) | (with_reducible refine below_drew ?_) | (with_reducible refine below_alloc ?_ _) | (with_reducible refine below_set ?_ (by simp; try omega) _) | (exact below_alloc hq _)))).mono ?_); rintro r_ wx ⟨rfl, hx⟩; obtain ⟨ux, rfl⟩ := after hx; clear hx) | fail)
  have hBw : Below w.heap.size w (on ux) := (by repeat first | (with_reducible exact Below.refl _ _) | (with_reducible assumption) | (with_reducible refine below_on ?_ _) | (with_reducible refine below_dn ?_) | (with_reducible refine below_drew ?_) | (with_reducible refine below_alloc ?_ _) | (with_reducible refine below_set ?_ (by simp; try omega) _) | (exact below_alloc hq _))
  have x0 : (on ux).cell? ⟨w.heap.size, 0, none⟩ = some (.int .i64 W) := by simp [go_sem]
  have x1 : (on ux).cell? ⟨w.heap.size, 1, none⟩ = some (.int .i64 H) := by simp [go_sem]
  have x2 : (on ux).cell? ⟨w.heap.size, 2, none⟩ = some (.slice pa n ca) := by simp [go_sem]
  have x3 : (on ux).cell? ⟨w.heap.size + 1, 0, none⟩ = some (.int .i64 x) := by simp [go_sem]
  have x4 : (on ux).cell? ⟨w.heap.size + 1, 1, none⟩ = some (.int .i64 y) := by simp [go_sem]
  generalize (on ux) = V1 at *
  clear ux
  go_upto_region 4 with (first | (go_at_call 10; (with_reducible refine (all_inv W H hs _ (hLA _ (by repeat first | (with_reducible exact Below.refl _ _) | (with_reducible assumption) | (with_reducible refine below_on ?_ _) | (with_reducible refine below_dn ?_) | (with_reducible refine below_drew ?_) | (with_reducible refine below_alloc ?_ _) | (with_reducible refine below_set ?_ (by simp; try omega) _) | (exact below_alloc hq _)))).mono ?_); rintro r_ wx ⟨rfl, hx⟩; obtain ⟨ux, rfl⟩ := after hx; clear hx) | fail)
  have hb : Below V1.heap.size V1 (on ux) := (by repeat first | (with_reducible exact Below.refl _ _) | (with_reducible assumption) | (with_reducible refine below_on ?_ _) | (with_reducible refine below_dn ?_) | (with_reducible refine below_drew ?_) | (with_reducible refine below_alloc ?_ _) | (with_reducible refine below_set ?_ (by simp; try omega) _) | (exact below_alloc hq _))
  replace x0 : (on ux).cell? ⟨w.heap.size, 0, none⟩ = some (.int .i64 W) := cRy hb x0
  replace x1 : (on ux).cell? ⟨w.heap.size, 1, none⟩ = some (.int .i64 H) := cRy hb x1
  replace x2 : (on ux).cell? ⟨w.heap.size, 2, none⟩ = some (.slice pa n ca) := cRy hb x2
  replace x3 : (on ux).cell? ⟨w.heap.size + 1, 0, none⟩ = some (.int .i64 x) := cRy hb x3
  replace x4 : (on ux).cell? ⟨w.heap.size + 1, 1, none⟩ = some (.int .i64 y) := cRy hb x4
  replace hBw : Below w.heap.size w (on ux) := hBw.trans (hb.mono hBw.size)
  clear hb
  generalize (on ux) = V2 at *
  clear ux
  go_upto_region 5 with (first | (go_at_call 13; (with_reducible refine (around_inv W H x y hs _ (hLA _ (by repeat first | (with_reducible exact Below.refl _ _) | (with_reducible assumption) | (with_reducible refine below_on ?_ _) | (with_reducible refine below_dn ?_) | (with_reducible refine below_drew ?_) | (with_reducible refine below_alloc ?_ _) | (with_reducible refine below_set ?_ (by simp; try omega) _) | (exact below_alloc hq _)))).mono ?_); rintro r_ wx ⟨rfl, hx⟩; obtain ⟨ux, rfl⟩ := after hx; clear hx) | fail)
  have hb : Below V2.heap.size V2 (on ux) := (by repeat first | (with_reducible exact Below.refl _ _) | (with_reducible assumption) | (with_reducible refine below_on ?_ _) | (with_reducible refine below_dn ?_) | (with_reducible refine below_drew ?_) | (with_reducible refine below_alloc ?_ _) | (with_reducible refine below_set ?_ (by simp; try omega) _) | (exact below_alloc hq _))
  replace x0 : (on ux).cell? ⟨w.heap.size, 0, none⟩ = some (.int .i64 W) := cRy hb x0
  replace x1 : (on ux).cell? ⟨w.heap.size, 1, none⟩ = some (.int .i64 H) := cRy hb x1
  replace x2 : (on ux).cell? ⟨w.heap.size, 2, none⟩ = some (.slice pa n ca) := cRy hb x2
  replace x3 : (on ux).cell? ⟨w.heap.size + 1, 0, none⟩ = some (.int .i64 x) := cRy hb x3
  replace x4 : (on ux).cell? ⟨w.heap.size + 1, 1, none⟩ = some (.int .i64 y) := cRy hb x4
  replace hBw : Below w.heap.size w (on ux) := hBw.trans (hb.mono hBw.size)
  clear hb
  generalize (on ux) = V3 at *
  clear ux
  go_upto_region 7 with (first | (go_at_call 28; (with_reducible refine (valid_no W H hs _ (hLA _ (by repeat first | (with_reducible exact Below.refl _ _) | (with_reducible assumption) | (with_reducible refine below_on ?_ _) | (with_reducible refine below_dn ?_) | (with_reducible refine below_drew ?_) | (with_reducible refine below_alloc ?_ _) | (with_reducible refine below_set ?_ (by simp; try omega) _) | (exact below_alloc hq _)))).mono ?_); rintro r_ wx ⟨rfl, hx⟩; obtain ⟨ux, rfl⟩ := after hx; clear hx) | fail)
  have hb : Below V3.heap.size V3 (on ux) := (by repeat first | (with_reducible exact Below.refl _ _) | (with_reducible assumption) | (with_reducible refine below_on ?_ _) | (with_reducible refine below_dn ?_) | (with_reducible refine below_drew ?_) | (with_reducible refine below_alloc ?_ _) | (with_reducible refine below_set ?_ (by simp; try omega) _) | (exact below_alloc hq _))
  replace x0 : (on ux).cell? ⟨w.heap.size, 0, none⟩ = some (.int .i64 W) := cRy hb x0
  replace x1 : (on ux).cell? ⟨w.heap.size, 1, none⟩ = some (.int .i64 H) := cRy hb x1
  replace x2 : (on ux).cell? ⟨w.heap.size, 2, none⟩ = some (.slice pa n ca) := cRy hb x2
  replace x3 : (on ux).cell? ⟨w.heap.size + 1, 0, none⟩ = some (.int .i64 x) := cRy hb x3
  replace x4 : (on ux).cell? ⟨w.heap.size + 1, 1, none⟩ = some (.int .i64 y) := cRy hb x4
  replace hBw : Below w.heap.size w (on ux) := hBw.trans (hb.mono hBw.size)
  clear hb
  generalize (on ux) = V4 at *
  clear ux
  go_upto_region 8 with (first | (go_at_call 29; (with_reducible refine (hR _ (by repeat first | (with_reducible exact Below.refl _ _) | (with_reducible assumption) | (with_reducible refine below_on ?_ _) | (with_reducible refine below_dn ?_) | (with_reducible refine below_drew ?_) | (with_reducible refine below_alloc ?_ _) | (with_reducible refine below_set ?_ (by simp; try omega) _) | (exact below_alloc hq _))).mono ?_); rintro r_ wx ⟨rfl, hx⟩; obtain ⟨ux, rfl⟩ := after hx; clear hx) | fail)
  have hb : Below V4.heap.size V4 (on ux) := (by repeat first | (with_reducible exact Below.refl _ _) | (with_reducible assumption) | (with_reducible refine below_on ?_ _) | (with_reducible refine below_dn ?_) | (with_reducible refine below_drew ?_) | (with_reducible refine below_alloc ?_ _) | (with_reducible refine below_set ?_ (by simp; try omega) _) | (exact below_alloc hq _))
  replace x0 : (on ux).cell? ⟨w.heap.size, 0, none⟩ = some (.int .i64 W) := cRy hb x0
  replace x1 : (on ux).cell? ⟨w.heap.size, 1, none⟩ = some (.int .i64 H) := cRy hb x1
  replace x2 : (on ux).cell? ⟨w.heap.size, 2, none⟩ = some (.slice pa n ca) := cRy hb x2
  replace x3 : (on ux).cell? ⟨w.heap.size + 1, 0, none⟩ = some (.int .i64 x) := cRy hb x3
  replace x4 : (on ux).cell? ⟨w.heap.size + 1, 1, none⟩ = some (.int .i64 y) := cRy hb x4
  replace hBw : Below w.heap.size w (on ux) := hBw.trans (hb.mono hBw.size)
  clear hb
  generalize (on ux) = V5 at *
  clear ux
  go_upto_region 11 with (first | (go_at_call 14; (with_reducible refine (creases_err W H x y pa n ca _ (hLA _ (by repeat first | (with_reducible exact Below.refl _ _) | (with_reducible assumption) | (with_reducible refine below_on ?_ _) | (with_reducible refine below_dn ?_) | (with_reducible refine below_drew ?_) | (with_reducible refine below_alloc ?_ _) | (with_reducible refine below_set ?_ (by simp; try omega) _) | (exact below_alloc hq _))) 1 hE (fun V hV => hC V ((show Below w.heap.size w _ from (by repeat first | (with_reducible exact Below.refl _ _) | (with_reducible assumption) | (with_reducible refine below_on ?_ _) | (with_reducible refine below_dn ?_) | (with_reducible refine below_drew ?_) | (with_reducible refine below_alloc ?_ _) | (with_reducible refine below_set ?_ (by simp; try omega) _) | (exact below_alloc hq _))).trans (hV.mono (show Below w.heap.size w _ from (by repeat first | (with_reducible exact Below.refl _ _) | (with_reducible assumption) | (with_reducible refine below_on ?_ _) | (with_reducible refine below_dn ?_) | (with_reducible refine below_drew ?_) | (with_reducible refine below_alloc ?_ _) | (with_reducible refine below_set ?_ (by simp; try omega) _) | (exact below_alloc hq _))).size)))).mono ?_); rintro r_ wx ⟨rfl, hx⟩; obtain ⟨ux, rfl⟩ := after hx; clear hx) | fail)
  have hb : Below V5.heap.size V5 (on ux) := (by repeat first | (with_reducible exact Below.refl _ _) | (with_reducible assumption) | (with_reducible refine below_on ?_ _) | (with_reducible refine below_dn ?_) | (with_reducible refine below_drew ?_) | (with_reducible refine below_alloc ?_ _) | (with_reducible refine below_set ?_ (by simp; try omega) _) | (exact below_alloc hq _))
  replace x0 : (on ux).cell? ⟨w.heap.size, 0, none⟩ = some (.int .i64 W) := cRy hb x0
  replace x1 : (on ux).cell? ⟨w.heap.size, 1, none⟩ = some (.int .i64 H) := cRy hb x1
  replace x2 : (on ux).cell? ⟨w.heap.size, 2, none⟩ = some (.slice pa n ca) := cRy hb x2
  replace x3 : (on ux).cell? ⟨w.heap.size + 1, 0, none⟩ = some (.int .i64 x) := cRy hb x3
  replace x4 : (on ux).cell? ⟨w.heap.size + 1, 1, none⟩ = some (.int .i64 y) := cRy hb x4
  replace hBw : Below w.heap.size w (on ux) := hBw.trans (hb.mono hBw.size)
  clear hb
  generalize (on ux) = V6 at *
  clear ux
  go_upto_region 12 with (first | (go_at_call 15; (with_reducible refine (degree_err W H x y pa n ca _ (hLA _ (by repeat first | (with_reducible exact Below.refl _ _) | (with_reducible assumption) | (with_reducible refine below_on ?_ _) | (with_reducible refine below_dn ?_) | (with_reducible refine below_drew ?_) | (with_reducible refine below_alloc ?_ _) | (with_reducible refine below_set ?_ (by simp; try omega) _) | (exact below_alloc hq _))) 1 hE (fun V hV => hC V ((show Below w.heap.size w _ from (by repeat first | (with_reducible exact Below.refl _ _) | (with_reducible assumption) | (with_reducible refine below_on ?_ _) | (with_reducible refine below_dn ?_) | (with_reducible refine below_drew ?_) | (with_reducible refine below_alloc ?_ _) | (with_reducible refine below_set ?_ (by simp; try omega) _) | (exact below_alloc hq _))).trans (hV.mono (show Below w.heap.size w _ from (by repeat first | (with_reducible exact Below.refl _ _) | (with_reducible assumption) | (with_reducible refine below_on ?_ _) | (with_reducible refine below_dn ?_) | (with_reducible refine below_drew ?_) | (with_reducible refine below_alloc ?_ _) | (with_reducible refine below_set ?_ (by simp; try omega) _) | (exact below_alloc hq _))).size)))).mono ?_); rintro r_ wx ⟨rfl, hx⟩; obtain ⟨ux, rfl⟩ := after hx; clear hx) | fail)
  have hb : Below V6.heap.size V6 (on ux) := (by repeat first | (with_reducible exact Below.refl _ _) | (with_reducible assumption) | (with_reducible refine below_on ?_ _) | (with_reducible refine below_dn ?_) | (with_reducible refine below_drew ?_) | (with_reducible refine below_alloc ?_ _) | (with_reducible refine below_set ?_ (by simp; try omega) _) | (exact below_alloc hq _))
  replace x0 : (on ux).cell? ⟨w.heap.size, 0, none⟩ = some (.int .i64 W) := cRy hb x0
  replace x1 : (on ux).cell? ⟨w.heap.size, 1, none⟩ = some (.int .i64 H) := cRy hb x1
  replace x2 : (on ux).cell? ⟨w.heap.size, 2, none⟩ = some (.slice pa n ca) := cRy hb x2
  replace x3 : (on ux).cell? ⟨w.heap.size + 1, 0, none⟩ = some (.int .i64 x) := cRy hb x3
  replace x4 : (on ux).cell? ⟨w.heap.size + 1, 1, none⟩ = some (.int .i64 y) := cRy hb x4
  replace hBw : Below w.heap.size w (on ux) := hBw.trans (hb.mono hBw.size)
  clear hb
  generalize (on ux) = V7 at *
  clear ux
  go_upto_region 13 with (first | (go_at_call 16; (with_reducible refine (straight_err W H x y pa n ca _ (hLA _ (by repeat first | (with_reducible exact Below.refl _ _) | (with_reducible assumption) | (with_reducible refine below_on ?_ _) | (with_reducible refine below_dn ?_) | (with_reducible refine below_drew ?_) | (with_reducible refine below_alloc ?_ _) | (with_reducible refine below_set ?_ (by simp; try omega) _) | (exact below_alloc hq _))) 1 hE (fun V hV => hC V ((show Below w.heap.size w _ from (by repeat first | (with_reducible exact Below.refl _ _) | (with_reducible assumption) | (with_reducible refine below_on ?_ _) | (with_reducible refine below_dn ?_) | (with_reducible refine below_drew ?_) | (with_reducible refine below_alloc ?_ _) | (with_reducible refine below_set ?_ (by simp; try omega) _) | (exact below_alloc hq _))).trans (hV.mono (show Below w.heap.size w _ from (by repeat first | (with_reducible exact Below.refl _ _) | (with_reducible assumption) | (with_reducible refine below_on ?_ _) | (with_reducible refine below_dn ?_) | (with_reducible refine below_drew ?_) | (with_reducible refine below_alloc ?_ _) | (with_reducible refine below_set ?_ (by simp; try omega) _) | (exact below_alloc hq _))).size)))).mono ?_); rintro r_ wx ⟨rfl, hx⟩; obtain ⟨ux, rfl⟩ := after hx; clear hx) | fail)
  have hb : Below V7.heap.size V7 (on ux) := (by repeat first | (with_reducible exact Below.refl _ _) | (with_reducible assumption) | (with_reducible refine below_on ?_ _) | (with_reducible refine below_dn ?_) | (with_reducible refine below_drew ?_) | (with_reducible refine below_alloc ?_ _) | (with_reducible refine below_set ?_ (by simp; try omega) _) | (exact below_alloc hq _))
  replace x0 : (on ux).cell? ⟨w.heap.size, 0, none⟩ = some (.int .i64 W) := cRy hb x0
  replace x1 : (on ux).cell? ⟨w.heap.size, 1, none⟩ = some (.int .i64 H) := cRy hb x1
  replace x2 : (on ux).cell? ⟨w.heap.size, 2, none⟩ = some (.slice pa n ca) := cRy hb x2
  replace x3 : (on ux).cell? ⟨w.heap.size + 1, 0, none⟩ = some (.int .i64 x) := cRy hb x3
  replace x4 : (on ux).cell? ⟨w.heap.size + 1, 1, none⟩ = some (.int .i64 y) := cRy hb x4
  replace hBw : Below w.heap.size w (on ux) := hBw.trans (hb.mono hBw.size)
  clear hb
  generalize (on ux) = V8 at *
  clear ux
  go_upto_region 14 with (first | (go_at_call 17; (with_reducible refine (angles_err W H x y pa n ca _ (hLA _ (by repeat first | (with_reducible exact Below.refl _ _) | (with_reducible assumption) | (with_reducible refine below_on ?_ _) | (with_reducible refine below_dn ?_) | (with_reducible refine below_drew ?_) | (with_reducible refine below_alloc ?_ _) | (with_reducible refine below_set ?_ (by simp; try omega) _) | (exact below_alloc hq _))) 1 hE (fun V hV => hC V ((show Below w.heap.size w _ from (by repeat first | (with_reducible exact Below.refl _ _) | (with_reducible assumption) | (with_reducible refine below_on ?_ _) | (with_reducible refine below_dn ?_) | (with_reducible refine below_drew ?_) | (with_reducible refine below_alloc ?_ _) | (with_reducible refine below_set ?_ (by simp; try omega) _) | (exact below_alloc hq _))).trans (hV.mono (show Below w.heap.size w _ from (by repeat first | (with_reducible exact Below.refl _ _) | (with_reducible assumption) | (with_reducible refine below_on ?_ _) | (with_reducible refine below_dn ?_) | (with_reducible refine below_drew ?_) | (with_reducible refine below_alloc ?_ _) | (with_reducible refine below_set ?_ (by simp; try omega) _) | (exact below_alloc hq _))).size)))).mono ?_); rintro r_ wx ⟨rfl, hx⟩; obtain ⟨ux, rfl⟩ := after hx; clear hx) | fail)
  have hb : Below V8.heap.size V8 (on ux) := (by repeat first | (with_reducible exact Below.refl _ _) | (with_reducible assumption) | (with_reducible refine below_on ?_ _) | (with_reducible refine below_dn ?_) | (with_reducible refine below_drew ?_) | (with_reducible refine below_alloc ?_ _) | (with_reducible refine below_set ?_ (by simp; try omega) _) | (exact below_alloc hq _))
  replace x0 : (on ux).cell? ⟨w.heap.size, 0, none⟩ = some (.int .i64 W) := cRy hb x0
  replace x1 : (on ux).cell? ⟨w.heap.size, 1, none⟩ = some (.int .i64 H) := cRy hb x1
  replace x2 : (on ux).cell? ⟨w.heap.size, 2, none⟩ = some (.slice pa n ca) := cRy hb x2
  replace x3 : (on ux).cell? ⟨w.heap.size + 1, 0, none⟩ = some (.int .i64 x) := cRy hb x3
  replace x4 : (on ux).cell? ⟨w.heap.size + 1, 1, none⟩ = some (.int .i64 y) := cRy hb x4
  replace hBw : Below w.heap.size w (on ux) := hBw.trans (hb.mono hBw.size)
  clear hb
  generalize (on ux) = V9 at *
  clear ux
  go_wp2_with (first | (go_at_call 18; (with_reducible refine (lives_ok _ (hLA _ (by repeat first | (with_reducible exact Below.refl _ _) | (with_reducible assumption) | (with_reducible refine below_on ?_ _) | (with_reducible refine below_dn ?_) | (with_reducible refine below_drew ?_) | (with_reducible refine below_alloc ?_ _) | (with_reducible refine below_set ?_ (by simp; try omega) _) | (exact below_alloc hq _)))).mono ?_); rintro r_ wx ⟨rfl, hx⟩; obtain ⟨ux, rfl⟩ := after hx; clear hx) | fail)
  go_ret
  exact ⟨rfl, (by repeat first | (with_reducible exact Below.refl _ _) | (with_reducible assumption) | (with_reducible refine below_on ?_ _) | (with_reducible refine below_dn ?_) | (with_reducible refine below_drew ?_) | (with_reducible refine below_alloc ?_ _) | (with_reducible refine below_set ?_ (by simp; try omega) _) | (exact below_alloc hq _))⟩
end

section
open Go Go.RowKit

theorem cornerserrors_law (W H x y : Int) (c e k : Nat → Int) (pa : Option Addr) (n ca : Nat) (w : World) (hL : Lay w) (ra : Crs w pa n c e k) (hr : ∀ i, i < n → (0 ≤ e i ∧ e i ≤ 255) ∧ (0 ≤ k i ∧ k i ≤ 255)) (hn : (n : Int) ≤ 9223372036854775807) :
    Calls Tryz.prog 8 #[.agg #[.int .i64 W, .int .i64 H, .slice pa n ca], .agg #[.int .i64 x, .int .i64 y]] w fun r w' => r = .returned (.bool true) ∧ Below w.heap.size w w' := by
  by_cases hl : 20 < (n : Int)
  · exact law_long W H x y pa n ca w hL hn hl
  by_cases hs : OkS W H
  · by_cases hw : 5 < W
    · exact law_w5 W H x y pa n ca w hL hl hs hw
    by_cases hh : 5 < H
    · exact law_h5 W H x y pa n ca w hL hl hs hw hh
    obtain ⟨a, rfl⟩ : ∃ a : Nat, W = (a : Int) := ⟨W.toNat, by have := hs.1; omega⟩
    obtain ⟨b, rfl⟩ : ∃ b : Nat, H = (b : Int) := ⟨H.toNat, by have := hs.2.1; omega⟩
    have h1 : 1 ≤ a := by have := hs.1; omega
    have h3 : 1 ≤ b := by have := hs.2.1; omega
    have hC := fun V (hV : Below w.heap.size w V) => check_any h1 (by omega) h3 (by omega) c e k pa n ca V (lay_below hL hV) (by omega) (ra.below hV) hr
    have hR := fun V (hV : Below w.heap.size w V) => refc_any h1 (by omega) h3 (by omega) c e k pa n ca V (lay_below hL hV) (by omega) (ra.below hV) hr
    have hA := fun V (hV : Below w.heap.size w V) => all_any h1 (show a ≤ 5 by omega) h3 (show b ≤ 5 by omega) V (lay_below hL hV)
    have hB := fun V (hV : Below w.heap.size w V) => around_any h1 (show a ≤ 5 by omega) h3 (show b ≤ 5 by omega) x y V (lay_below hL hV)
    by_cases hE : errP a b n c e k = 0
    · exact main_ok0 (a : Int) (b : Int) x y pa n ca w hL _ hE hl hs hw hh hA hB hC hR
    · exact main_okE (a : Int) (b : Int) x y pa n ca w hL _ hE hl hs hw hh hA hB hC hR
  · have hC := fun V (hV : Below w.heap.size w V) => check_inv W H pa n ca V (lay_below hL hV) hs
    have hR := fun V (hV : Below w.heap.size w V) => ref_inv W H pa n ca V (lay_below hL hV) hs
    exact main_bad W H x y pa n ca w hL 1 rfl hl hs hC hR
end

end Go.Proofs.YtbghfcllicfnpaaGreatDoor
