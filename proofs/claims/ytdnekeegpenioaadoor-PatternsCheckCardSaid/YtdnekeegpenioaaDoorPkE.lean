/-
  Says: what functions do with the error of a pattern.
-/
import Derived.Test.YtdnekeegpenioaaDoorPkV
import Derived.Test.YtdnekeegpenioaaDoorPa0
import Derived.Deep.RegionHeld3
import Derived.RowKit3
import Derived.BigQuiet
import Derived.Deep.QuietTactic
import Derived.BigRegion
set_option linter.unusedVariables false
set_option linter.unusedSimpArgs false
namespace Go.Proofs.YtdnekeegpenioaaDoor
open Go Go.RowKit

attribute [local go_sem] World.cell?_alloc_some frozen?_alloc_cells fz0 fz1 fz2 fz3 fz4 fz5

set_option maxRecDepth 100000 in
set_option maxHeartbeats 4000000 in
theorem check_inv (W H : Int) (pa : Option Addr) (n ca : Nat) (w : World) (hL : Lay w) (hs : ¬ OkS W H) : Calls Tryd.prog 10 #[.agg #[.int .i64 W, .int .i64 H, .slice pa n ca]] w fun r w' => r = .returned (.int .i64 1) ∧ Below w.heap.size w w' := by
  have hLA : ∀ V, Below w.heap.size w V → Lay V := fun V h => lay_below hL h
  go_enter Tryd.func10, Tryd.ntmps10
  go_wp2_with (first | (go_at_call 29; (with_reducible refine (scheck_no W H hs _ (hLA _ (by repeat first | (with_reducible exact Below.refl _ _) | (with_reducible assumption) | (with_reducible refine below_on ?_ _) | (with_reducible refine below_dn ?_) | (with_reducible refine below_drew ?_) | (with_reducible refine below_alloc ?_ _) | (with_reducible refine below_set ?_ (by simp; try omega) _) | (exact below_alloc hq _)))).mono ?_); rintro r_ wx ⟨rfl, hx⟩; obtain ⟨ux, rfl⟩ := after hx; clear hx) | fail)
  go_ret
  exact ⟨rfl, (by repeat first | (with_reducible exact Below.refl _ _) | (with_reducible assumption) | (with_reducible refine below_on ?_ _) | (with_reducible refine below_dn ?_) | (with_reducible refine below_drew ?_) | (with_reducible refine below_alloc ?_ _) | (with_reducible refine below_set ?_ (by simp; try omega) _) | (exact below_alloc hq _))⟩
set_option maxRecDepth 100000 in
set_option maxHeartbeats 4000000 in
theorem ref_inv (W H : Int) (pa : Option Addr) (n ca : Nat) (w : World) (hL : Lay w) (hs : ¬ OkS W H) : Calls Tryd.prog 9 #[.agg #[.int .i64 W, .int .i64 H, .slice pa n ca]] w fun r w' => r = .returned (.int .i64 1) ∧ Below w.heap.size w w' := by
  have hLA : ∀ V, Below w.heap.size w V → Lay V := fun V h => lay_below hL h
  go_enter Tryd.func9, Tryd.ntmps9
  go_wp2_with (first | (go_at_call 8; (with_reducible refine (valid_no W H hs _ (hLA _ (by repeat first | (with_reducible exact Below.refl _ _) | (with_reducible assumption) | (with_reducible refine below_on ?_ _) | (with_reducible refine below_dn ?_) | (with_reducible refine below_drew ?_) | (with_reducible refine below_alloc ?_ _) | (with_reducible refine below_set ?_ (by simp; try omega) _) | (exact below_alloc hq _)))).mono ?_); rintro r_ wx ⟨rfl, hx⟩; obtain ⟨ux, rfl⟩ := after hx; clear hx) | fail)
  go_ret
  exact ⟨rfl, (by repeat first | (with_reducible exact Below.refl _ _) | (with_reducible assumption) | (with_reducible refine below_on ?_ _) | (with_reducible refine below_dn ?_) | (with_reducible refine below_drew ?_) | (with_reducible refine below_alloc ?_ _) | (with_reducible refine below_set ?_ (by simp; try omega) _) | (exact below_alloc hq _))⟩
set_option maxRecDepth 100000 in
set_option maxHeartbeats 4000000 in
theorem empty_no (W H : Int) (w : World) (hL : Lay w) (hs : ¬ OkS W H) : Calls Tryd.prog 11 #[.agg #[.int .i64 W, .int .i64 H]] w fun r w' => r = .returned (.tuple #[.agg #[.int .i64 0, .int .i64 0, .slice none 0 0], .int .i64 1]) ∧ Below w.heap.size w w' := by
  have hLA : ∀ V, Below w.heap.size w V → Lay V := fun V h => lay_below hL h
  have rw_ : Tryd.f11.results = #[.cell 2 26, .tmp 3] := by kernel_rfl
  go_enter Tryd.func11, Tryd.ntmps11
  go_wp2_with (first | (go_at_call 29; (with_reducible refine (scheck_no W H hs _ (hLA _ (by repeat first | (with_reducible exact Below.refl _ _) | (with_reducible assumption) | (with_reducible refine below_on ?_ _) | (with_reducible refine below_dn ?_) | (with_reducible refine below_drew ?_) | (with_reducible refine below_alloc ?_ _) | (with_reducible refine below_set ?_ (by simp; try omega) _) | (exact below_alloc hq _)))).mono ?_); rintro r_ wx ⟨rfl, hx⟩; obtain ⟨ux, rfl⟩ := after hx; clear hx) | fail)
  exact bodyPost_ret (v := .tuple #[.agg #[.int .i64 0, .int .i64 0, .slice none 0 0], .int .i64 1]) (by simp [results, rw_, go_sem]; try rfl) rfl ⟨rfl, (by repeat first | (with_reducible exact Below.refl _ _) | (with_reducible assumption) | (with_reducible refine below_on ?_ _) | (with_reducible refine below_dn ?_) | (with_reducible refine below_drew ?_) | (with_reducible refine below_alloc ?_ _) | (with_reducible refine below_set ?_ (by simp; try omega) _) | (exact below_alloc hq _))⟩

set_option maxRecDepth 100000 in
set_option maxHeartbeats 4000000 in
theorem empty_yes (W H : Int) (w : World) (hL : Lay w) (hs : OkS W H) : Calls Tryd.prog 11 #[.agg #[.int .i64 W, .int .i64 H]] w fun r w' => r = .returned (.tuple #[.agg #[.int .i64 W, .int .i64 H, .slice none 0 0], .int .i64 0]) ∧ Below w.heap.size w w' := by
  have hLA : ∀ V, Below w.heap.size w V → Lay V := fun V h => lay_below hL h
  have rw_ : Tryd.f11.results = #[.cell 2 26, .tmp 3] := by kernel_rfl
  go_enter Tryd.func11, Tryd.ntmps11
  go_wp2_with (first | (go_at_call 29; (with_reducible refine (scheck_yes W H hs _ (hLA _ (by repeat first | (with_reducible exact Below.refl _ _) | (with_reducible assumption) | (with_reducible refine below_on ?_ _) | (with_reducible refine below_dn ?_) | (with_reducible refine below_drew ?_) | (with_reducible refine below_alloc ?_ _) | (with_reducible refine below_set ?_ (by simp; try omega) _) | (exact below_alloc hq _)))).mono ?_); rintro r_ wx ⟨rfl, hx⟩; obtain ⟨ux, rfl⟩ := after hx; clear hx) | fail)
  exact bodyPost_ret (v := .tuple #[.agg #[.int .i64 W, .int .i64 H, .slice none 0 0], .int .i64 0]) (by simp [results, rw_, go_sem]; try rfl) rfl ⟨rfl, (by repeat first | (with_reducible exact Below.refl _ _) | (with_reducible assumption) | (with_reducible refine below_on ?_ _) | (with_reducible refine below_dn ?_) | (with_reducible refine below_drew ?_) | (with_reducible refine below_alloc ?_ _) | (with_reducible refine below_set ?_ (by simp; try omega) _) | (exact below_alloc hq _))⟩
set_option maxRecDepth 100000 in
set_option maxHeartbeats 4000000 in
theorem unitAt_err (W H : Int) (pa : Option Addr) (n ca : Nat) (w : World) (hL : Lay w) (id ed : Int) (E : Int) (hE : E ≠ 0) (hC : ∀ V, Below w.heap.size w V → Calls Tryd.prog 10 #[.agg #[.int .i64 W, .int .i64 H, .slice pa n ca]] V fun r w' => r = .returned (.int .i64 E) ∧ Below V.heap.size V w') : Calls Tryd.prog 36 #[.agg #[.int .i64 W, .int .i64 H, .slice pa n ca], .int .i64 id, .int .u8 ed] w fun r w' => r = .returned (.tuple #[.agg #[.int .i64 0, .int .u8 0], .int .i64 E]) ∧ Below w.heap.size w w' := by
  have rw_ : Tryd.f36.results = #[.cell 6 51, .tmp 7] := by kernel_rfl
  have hE1 : (E == 0) = false := eqf hE
  go_enter Tryd.func36, Tryd.ntmps36
  go_wp2_with (first | (go_at_call 10; (with_reducible refine (hC _ (by repeat first | (with_reducible exact Below.refl _ _) | (with_reducible assumption) | (with_reducible refine below_on ?_ _) | (with_reducible refine below_dn ?_) | (with_reducible refine below_drew ?_) | (with_reducible refine below_alloc ?_ _) | (with_reducible refine below_set ?_ (by simp; try omega) _) | (exact below_alloc hq _))).mono ?_); rintro r_ wx ⟨rfl, hx⟩; obtain ⟨ux, rfl⟩ := after hx; clear hx) | fail)
  exact bodyPost_ret (v := .tuple #[.agg #[.int .i64 0, .int .u8 0], .int .i64 E]) (by simp [results, rw_, go_sem]; try rfl) rfl ⟨rfl, (by repeat first | (with_reducible exact Below.refl _ _) | (with_reducible assumption) | (with_reducible refine below_on ?_ _) | (with_reducible refine below_dn ?_) | (with_reducible refine below_drew ?_) | (with_reducible refine below_alloc ?_ _) | (with_reducible refine below_set ?_ (by simp; try omega) _) | (exact below_alloc hq _))⟩

set_option maxRecDepth 100000 in
set_option maxHeartbeats 4000000 in
theorem opposite_err (W H : Int) (pa : Option Addr) (n ca : Nat) (w : World) (hL : Lay w) (E : Int) (hE : E ≠ 0) (hC : ∀ V, Below w.heap.size w V → Calls Tryd.prog 10 #[.agg #[.int .i64 W, .int .i64 H, .slice pa n ca]] V fun r w' => r = .returned (.int .i64 E) ∧ Below V.heap.size V w') : Calls Tryd.prog 15 #[.agg #[.int .i64 W, .int .i64 H, .slice pa n ca]] w fun r w' => r = .returned (.tuple #[.agg #[.int .i64 0, .int .i64 0, .slice none 0 0], .int .i64 E]) ∧ Below w.heap.size w w' := by
  have rw_ : Tryd.f15.results = #[.cell 2 26, .tmp 3] := by kernel_rfl
  have hE1 : (E == 0) = false := eqf hE
  go_enter Tryd.func15, Tryd.ntmps15
  go_wp2_with (first | (go_at_call 10; (with_reducible refine (hC _ (by repeat first | (with_reducible exact Below.refl _ _) | (with_reducible assumption) | (with_reducible refine below_on ?_ _) | (with_reducible refine below_dn ?_) | (with_reducible refine below_drew ?_) | (with_reducible refine below_alloc ?_ _) | (with_reducible refine below_set ?_ (by simp; try omega) _) | (exact below_alloc hq _))).mono ?_); rintro r_ wx ⟨rfl, hx⟩; obtain ⟨ux, rfl⟩ := after hx; clear hx) | fail)
  exact bodyPost_ret (v := .tuple #[.agg #[.int .i64 0, .int .i64 0, .slice none 0 0], .int .i64 E]) (by simp [results, rw_, go_sem]; try rfl) rfl ⟨rfl, (by repeat first | (with_reducible exact Below.refl _ _) | (with_reducible assumption) | (with_reducible refine below_on ?_ _) | (with_reducible refine below_dn ?_) | (with_reducible refine below_drew ?_) | (with_reducible refine below_alloc ?_ _) | (with_reducible refine below_set ?_ (by simp; try omega) _) | (exact below_alloc hq _))⟩

set_option maxRecDepth 100000 in
set_option maxHeartbeats 4000000 in
theorem turned_err (W H : Int) (pa : Option Addr) (n ca : Nat) (w : World) (hL : Lay w) (E : Int) (hE : E ≠ 0) (hC : ∀ V, Below w.heap.size w V → Calls Tryd.prog 10 #[.agg #[.int .i64 W, .int .i64 H, .slice pa n ca]] V fun r w' => r = .returned (.int .i64 E) ∧ Below V.heap.size V w') : Calls Tryd.prog 16 #[.agg #[.int .i64 W, .int .i64 H, .slice pa n ca]] w fun r w' => r = .returned (.tuple #[.agg #[.int .i64 0, .int .i64 0, .slice none 0 0], .int .i64 E]) ∧ Below w.heap.size w w' := by
  have rw_ : Tryd.f16.results = #[.cell 2 26, .tmp 3] := by kernel_rfl
  have hE1 : (E == 0) = false := eqf hE
  go_enter Tryd.func16, Tryd.ntmps16
  go_wp2_with (first | (go_at_call 10; (with_reducible refine (hC _ (by repeat first | (with_reducible exact Below.refl _ _) | (with_reducible assumption) | (with_reducible refine below_on ?_ _) | (with_reducible refine below_dn ?_) | (with_reducible refine below_drew ?_) | (with_reducible refine below_alloc ?_ _) | (with_reducible refine below_set ?_ (by simp; try omega) _) | (exact below_alloc hq _))).mono ?_); rintro r_ wx ⟨rfl, hx⟩; obtain ⟨ux, rfl⟩ := after hx; clear hx) | fail)
  exact bodyPost_ret (v := .tuple #[.agg #[.int .i64 0, .int .i64 0, .slice none 0 0], .int .i64 E]) (by simp [results, rw_, go_sem]; try rfl) rfl ⟨rfl, (by repeat first | (with_reducible exact Below.refl _ _) | (with_reducible assumption) | (with_reducible refine below_on ?_ _) | (with_reducible refine below_dn ?_) | (with_reducible refine below_drew ?_) | (with_reducible refine below_alloc ?_ _) | (with_reducible refine below_set ?_ (by simp; try omega) _) | (exact below_alloc hq _))⟩


set_option maxRecDepth 100000 in
set_option maxHeartbeats 4000000 in
theorem kind_err (W H : Int) (pa : Option Addr) (n ca : Nat) (w : World) (hL : Lay w) (id ed : Int) (E : Int) (hE : E ≠ 0) (hC : ∀ V, Below w.heap.size w V → Calls Tryd.prog 10 #[.agg #[.int .i64 W, .int .i64 H, .slice pa n ca]] V fun r w' => r = .returned (.int .i64 E) ∧ Below V.heap.size V w') : Calls Tryd.prog 13 #[.agg #[.int .i64 W, .int .i64 H, .slice pa n ca], .int .i64 id, .int .u8 ed] w fun r w' => r = .returned (.tuple #[.int .u8 0, .int .i64 E]) ∧ Below w.heap.size w w' := by
  have rw_ : Tryd.f13.results = #[.tmp 6, .tmp 7] := by kernel_rfl
  have hE1 : (E == 0) = false := eqf hE
  go_enter Tryd.func13, Tryd.ntmps13
  go_wp2_with (first | (go_at_call 36; (with_reducible refine (unitAt_err W H pa n ca _ (lay_below hL (by repeat first | (with_reducible exact Below.refl _ _) | (with_reducible assumption) | (with_reducible refine below_on ?_ _) | (with_reducible refine below_dn ?_) | (with_reducible refine below_drew ?_) | (with_reducible refine below_alloc ?_ _) | (with_reducible refine below_set ?_ (by simp; try omega) _) | (exact below_alloc hq _))) id ed E hE (fun V hV => hC V ((show Below w.heap.size w _ from (by repeat first | (with_reducible exact Below.refl _ _) | (with_reducible assumption) | (with_reducible refine below_on ?_ _) | (with_reducible refine below_dn ?_) | (with_reducible refine below_drew ?_) | (with_reducible refine below_alloc ?_ _) | (with_reducible refine below_set ?_ (by simp; try omega) _) | (exact below_alloc hq _))).trans (hV.mono (show Below w.heap.size w _ from (by repeat first | (with_reducible exact Below.refl _ _) | (with_reducible assumption) | (with_reducible refine below_on ?_ _) | (with_reducible refine below_dn ?_) | (with_reducible refine below_drew ?_) | (with_reducible refine below_alloc ?_ _) | (with_reducible refine below_set ?_ (by simp; try omega) _) | (exact below_alloc hq _))).size)))).mono ?_); rintro r_ wx ⟨rfl, hx⟩; obtain ⟨ux, rfl⟩ := after hx; clear hx) | fail)
  exact bodyPost_ret (v := .tuple #[.int .u8 0, .int .i64 E]) (by simp [results, rw_, go_sem]; try rfl) rfl ⟨rfl, (by repeat first | (with_reducible exact Below.refl _ _) | (with_reducible assumption) | (with_reducible refine below_on ?_ _) | (with_reducible refine below_dn ?_) | (with_reducible refine below_drew ?_) | (with_reducible refine below_alloc ?_ _) | (with_reducible refine below_set ?_ (by simp; try omega) _) | (exact below_alloc hq _))⟩

set_option maxRecDepth 100000 in
set_option maxHeartbeats 4000000 in
theorem set_err (W H : Int) (pa : Option Addr) (n ca : Nat) (w : World) (hL : Lay w) (id ed kk : Int) (E : Int) (hE : E ≠ 0) (hC : ∀ V, Below w.heap.size w V → Calls Tryd.prog 10 #[.agg #[.int .i64 W, .int .i64 H, .slice pa n ca]] V fun r w' => r = .returned (.int .i64 E) ∧ Below V.heap.size V w') : Calls Tryd.prog 14 #[.agg #[.int .i64 W, .int .i64 H, .slice pa n ca], .int .i64 id, .int .u8 ed, .int .u8 kk] w fun r w' => r = .returned (.tuple #[.agg #[.int .i64 0, .int .i64 0, .slice none 0 0], .int .i64 E]) ∧ Below w.heap.size w w' := by
  have rw_ : Tryd.f14.results = #[.cell 8 26, .tmp 9] := by kernel_rfl
  have hE1 : (E == 0) = false := eqf hE
  go_enter Tryd.func14, Tryd.ntmps14
  go_wp2_with (first | (go_at_call 36; (with_reducible refine (unitAt_err W H pa n ca _ (lay_below hL (by repeat first | (with_reducible exact Below.refl _ _) | (with_reducible assumption) | (with_reducible refine below_on ?_ _) | (with_reducible refine below_dn ?_) | (with_reducible refine below_drew ?_) | (with_reducible refine below_alloc ?_ _) | (with_reducible refine below_set ?_ (by simp; try omega) _) | (exact below_alloc hq _))) id ed E hE (fun V hV => hC V ((show Below w.heap.size w _ from (by repeat first | (with_reducible exact Below.refl _ _) | (with_reducible assumption) | (with_reducible refine below_on ?_ _) | (with_reducible refine below_dn ?_) | (with_reducible refine below_drew ?_) | (with_reducible refine below_alloc ?_ _) | (with_reducible refine below_set ?_ (by simp; try omega) _) | (exact below_alloc hq _))).trans (hV.mono (show Below w.heap.size w _ from (by repeat first | (with_reducible exact Below.refl _ _) | (with_reducible assumption) | (with_reducible refine below_on ?_ _) | (with_reducible refine below_dn ?_) | (with_reducible refine below_drew ?_) | (with_reducible refine below_alloc ?_ _) | (with_reducible refine below_set ?_ (by simp; try omega) _) | (exact below_alloc hq _))).size)))).mono ?_); rintro r_ wx ⟨rfl, hx⟩; obtain ⟨ux, rfl⟩ := after hx; clear hx) | fail)
  exact bodyPost_ret (v := .tuple #[.agg #[.int .i64 0, .int .i64 0, .slice none 0 0], .int .i64 E]) (by simp [results, rw_, go_sem]; try rfl) rfl ⟨rfl, (by repeat first | (with_reducible exact Below.refl _ _) | (with_reducible assumption) | (with_reducible refine below_on ?_ _) | (with_reducible refine below_dn ?_) | (with_reducible refine below_drew ?_) | (with_reducible refine below_alloc ?_ _) | (with_reducible refine below_set ?_ (by simp; try omega) _) | (exact below_alloc hq _))⟩

end Go.Proofs.YtdnekeegpenioaaDoor
