/-
  Says: what Text of package segments gives.
-/
import Derived.Test.YtkmmnlhmfiabfaaGreatDoorSg0
import Derived.Test.YtkmmnlhmfiabfaaGreatDoorFnX
import Derived.Deep.RegionHeld3
import Derived.RowKit3
set_option linter.unusedVariables false
set_option linter.unusedSimpArgs false
namespace Go.Proofs.YtkmmnlhmfiabfaaGreatDoor
open Go Go.RowKit

attribute [local go_sem] World.cell?_alloc_some frozen?_alloc_cells fz0 fz1 fz2 fz3 fz4 fz5

abbrev sg (k l c f t : Int) : Value := .agg #[.int .u8 k, .int .u8 l, .int .i64 c, .int .i64 f, .int .i64 t]
/-- The letter of a kind of crease; the text of a segment. -/
def letS (k : Int) : UInt8 := if k = 1 then 109 else if k = 2 then 118 else 97
def textS (k l c f t : Int) : List UInt8 := [letS k, 32] ++ textL l c ++ [32] ++ Lib.itoa f ++ [32] ++ Lib.itoa t

set_option maxRecDepth 100000 in
set_option maxHeartbeats 4000000 in
theorem isg_yes (k l c f t : Int) (w : World) (a1 : 1 ≤ k) (a2 : k ≤ 3) (b1 : 1 ≤ l) (b2 : l ≤ 4) (b3 : -4096 ≤ c) (b4 : c ≤ 4096) (e1 : f < t) : Calls Tryz.prog 32 #[sg k l c f t] w fun e w' => e = .returned (.bool true) ∧ Below w.heap.size w w' := by
  go_enter Tryz.func32, Tryz.ntmps32
  go_wp2_with (first | (go_at_call 58; (with_reducible refine (check_ok l c _ b1 b2 b3 b4).mono ?_); rintro e wx ⟨rfl, hx⟩; obtain ⟨ux, rfl⟩ := after hx; clear hx) | fail)
  go_ret
  exact ⟨rfl, (by repeat first | (with_reducible exact Below.refl _ _) | (with_reducible refine below_on ?_ _) | (with_reducible refine below_alloc ?_ _) | (with_reducible refine below_set ?_ (by simp; try omega) _))⟩

set_option maxRecDepth 100000 in
set_option maxHeartbeats 4000000 in
theorem isg_no1 (k l c f t : Int) (w : World) (h : k < 1) : Calls Tryz.prog 32 #[sg k l c f t] w fun e w' => e = .returned (.bool false) ∧ Below w.heap.size w w' := by
  go_enter Tryz.func32, Tryz.ntmps32
  go_wp2_with (first | fail | fail)
  go_ret
  exact ⟨rfl, (by repeat first | (with_reducible exact Below.refl _ _) | (with_reducible refine below_on ?_ _) | (with_reducible refine below_alloc ?_ _) | (with_reducible refine below_set ?_ (by simp; try omega) _))⟩

set_option maxRecDepth 100000 in
set_option maxHeartbeats 4000000 in
theorem isg_no2 (k l c f t : Int) (w : World) (a1 : 1 ≤ k) (h : 3 < k) : Calls Tryz.prog 32 #[sg k l c f t] w fun e w' => e = .returned (.bool false) ∧ Below w.heap.size w w' := by
  go_enter Tryz.func32, Tryz.ntmps32
  go_wp2_with (first | fail | fail)
  go_ret
  exact ⟨rfl, (by repeat first | (with_reducible exact Below.refl _ _) | (with_reducible refine below_on ?_ _) | (with_reducible refine below_alloc ?_ _) | (with_reducible refine below_set ?_ (by simp; try omega) _))⟩

set_option maxRecDepth 100000 in
set_option maxHeartbeats 4000000 in
theorem isg_no3 (k l c f t : Int) (w : World) (a1 : 1 ≤ k) (a2 : k ≤ 3) (h : l < 1 ∨ 4 < l ∨ c < -4096 ∨ 4096 < c) : Calls Tryz.prog 32 #[sg k l c f t] w fun e w' => e = .returned (.bool false) ∧ Below w.heap.size w w' := by
  have H : Hid (l < 1 ∨ 4 < l ∨ c < -4096 ∨ 4096 < c) := h
  clear h
  go_enter Tryz.func32, Tryz.ntmps32
  go_wp2_with (first | (go_at_call 58; (with_reducible refine (check_bad l c _ H.out).mono ?_); rintro e wx ⟨rfl, hx⟩; obtain ⟨ux, rfl⟩ := after hx; clear hx) | fail)
  go_ret
  exact ⟨rfl, (by repeat first | (with_reducible exact Below.refl _ _) | (with_reducible refine below_on ?_ _) | (with_reducible refine below_alloc ?_ _) | (with_reducible refine below_set ?_ (by simp; try omega) _))⟩

set_option maxRecDepth 100000 in
set_option maxHeartbeats 4000000 in
theorem isg_no4 (k l c f t : Int) (w : World) (a1 : 1 ≤ k) (a2 : k ≤ 3) (b1 : 1 ≤ l) (b2 : l ≤ 4) (b3 : -4096 ≤ c) (b4 : c ≤ 4096) (h : t ≤ f) : Calls Tryz.prog 32 #[sg k l c f t] w fun e w' => e = .returned (.bool false) ∧ Below w.heap.size w w' := by
  go_enter Tryz.func32, Tryz.ntmps32
  go_wp2_with (first | (go_at_call 58; (with_reducible refine (check_ok l c _ b1 b2 b3 b4).mono ?_); rintro e wx ⟨rfl, hx⟩; obtain ⟨ux, rfl⟩ := after hx; clear hx) | fail)
  go_ret
  exact ⟨congrArg (fun b => Ending.returned (.bool b)) (decide_eq_false (by omega)), (by repeat first | (with_reducible exact Below.refl _ _) | (with_reducible refine below_on ?_ _) | (with_reducible refine below_alloc ?_ _) | (with_reducible refine below_set ?_ (by simp; try omega) _))⟩

theorem isg_no (k l c f t : Int) (w : World) (h : k < 1 ∨ 3 < k ∨ l < 1 ∨ 4 < l ∨ c < -4096 ∨ 4096 < c ∨ t ≤ f) : Calls Tryz.prog 32 #[sg k l c f t] w fun e w' => e = .returned (.bool false) ∧ Below w.heap.size w w' := by
  by_cases q1 : k < 1
  · exact isg_no1 k l c f t w q1
  by_cases q2 : 3 < k
  · exact isg_no2 k l c f t w (by omega) q2
  by_cases q3 : l < 1 ∨ 4 < l ∨ c < -4096 ∨ 4096 < c
  · exact isg_no3 k l c f t w (by omega) (by omega) q3
  exact isg_no4 k l c f t w (by omega) (by omega) (by omega) (by omega) (by omega) (by omega) (by omega)

set_option maxRecDepth 100000 in
set_option maxHeartbeats 4000000 in
theorem stext_1 (l c f t : Int) (w : World) (hT : Tab w) (b1 : 1 ≤ l) (b2 : l ≤ 4) (b3 : -4096 ≤ c) (b4 : c ≤ 4096) (e1 : f < t) (e2 : -4096 ≤ f) (e3 : t ≤ 4096) : Calls Tryz.prog 29 #[sg 1 l c f t] w fun e w' => e = .returned (.string ⟨(textS 1 l c f t).toArray⟩) ∧ Below w.heap.size w w' := by
  have hT' : ∀ W, Below w.heap.size w W → Tab W := fun W hb => tab_below hT hb
  have l1 := itoa_len f (by omega) (by omega)
  have l2 := itoa_len t (by omega) (by omega)
  have l3 := itoa_len c (by omega) (by omega)
  have l4 : (textL l c).length ≤ 23 := by unfold textL; simp; omega
  have hix : ∀ w, (Instr.index 9 (.string ⟨#[109, 118, 97]⟩) (.int .u8 0)).run Tryz.prog w = .ok (.int .u8 109) w := fun _ => by kernel_rfl
  have hcv : ∀ w, (convert 5 9 (.int .u8 109)).run Tryz.prog w = .ok (.string ⟨#[109]⟩) w := fun _ => by kernel_rfl
  have hA : ∀ w, (Op.stringOp .add ⟨#[109]⟩ ⟨#[32]⟩).run Tryz.prog w = .ok (.string ⟨#[109, 32]⟩) w := fun w => run_string_add_lists w [109] [32] (by simp) (by simp)
  have hB : ∀ w, (Op.stringOp .add ⟨#[109, 32]⟩ ⟨(textL l c).toArray⟩).run Tryz.prog w = .ok (.string ⟨([109, 32] ++ textL l c).toArray⟩) w := fun w => run_string_add_lists w [109, 32] _ (by simp) (by omega)
  have hC : ∀ w, (Op.stringOp .add ⟨([109, 32] ++ textL l c).toArray⟩ ⟨#[32]⟩).run Tryz.prog w = .ok (.string ⟨([109, 32] ++ textL l c ++ [32]).toArray⟩) w := fun w => run_string_add_lists w _ [32] (by simp; omega) (by simp)
  have hD : ∀ w, (Op.stringOp .add ⟨([109, 32] ++ textL l c ++ [32]).toArray⟩ ⟨(Lib.itoa f).toArray⟩).run Tryz.prog w = .ok (.string ⟨([109, 32] ++ textL l c ++ [32] ++ Lib.itoa f).toArray⟩) w := fun w => run_string_add_lists w _ _ (by simp; omega) (by omega)
  have hE : ∀ w, (Op.stringOp .add ⟨([109, 32] ++ textL l c ++ [32] ++ Lib.itoa f).toArray⟩ ⟨#[32]⟩).run Tryz.prog w = .ok (.string ⟨([109, 32] ++ textL l c ++ [32] ++ Lib.itoa f ++ [32]).toArray⟩) w := fun w => run_string_add_lists w _ [32] (by simp; omega) (by simp)
  have hF : ∀ w, (Op.stringOp .add ⟨([109, 32] ++ textL l c ++ [32] ++ Lib.itoa f ++ [32]).toArray⟩ ⟨(Lib.itoa t).toArray⟩).run Tryz.prog w = .ok (.string ⟨(textS 1 l c f t).toArray⟩) w := fun w => run_string_add_lists w _ _ (by simp; omega) (by omega)
  clear l1 l2 l3 l4
  generalize hX5 : [109, 32] ++ textL l c ++ [32] ++ Lib.itoa f ++ [32] = X5 at *
  generalize hX4 : [109, 32] ++ textL l c ++ [32] ++ Lib.itoa f = X4 at *
  generalize hX3 : [109, 32] ++ textL l c ++ [32] = X3 at *
  generalize hX2 : [109, 32] ++ textL l c = X2 at *
  clear hX5 hX4 hX3 hX2
  go_enter Tryz.func29, Tryz.ntmps29
  go_wp2_with (first | (go_at_call 32; (with_reducible refine (isg_yes 1 l c f t _ (by omega) (by omega) b1 b2 b3 b4 e1).mono ?_); rintro e wx ⟨rfl, hx⟩; obtain ⟨ux, rfl⟩ := after hx; clear hx) | fail)
  refine region_later (by kernel_rfl) (by kernel_rfl) ?_
  repeat (go_big_quiet_step ((first | (go_at_call 56; with_reducible exact Calls.later (text_ok l c _ (hT' _ (by repeat first | (with_reducible exact Below.refl _ _) | (with_reducible refine below_on ?_ _) | (with_reducible refine below_alloc ?_ _) | (with_reducible refine below_set ?_ (by simp; try omega) _))) b1 b2 b3 b4)) | (go_at_call 57; with_reducible exact Calls.later (itoa_any f _ (hT' _ (by repeat first | (with_reducible exact Below.refl _ _) | (with_reducible refine below_on ?_ _) | (with_reducible refine below_alloc ?_ _) | (with_reducible refine below_set ?_ (by simp; try omega) _))) (by omega) (by omega))) | (go_at_call 57; with_reducible exact Calls.later (itoa_any t _ (hT' _ (by repeat first | (with_reducible exact Below.refl _ _) | (with_reducible refine below_on ?_ _) | (with_reducible refine below_alloc ?_ _) | (with_reducible refine below_set ?_ (by simp; try omega) _))) (by omega) (by omega))))))
  refine wpQuiet_nil ?_
  rintro _ ⟨u3, rfl⟩
  go_wp2
  go_ret
  exact ⟨rfl, (by repeat first | (with_reducible exact Below.refl _ _) | (with_reducible refine below_on ?_ _) | (with_reducible refine below_alloc ?_ _) | (with_reducible refine below_set ?_ (by simp; try omega) _))⟩

set_option maxRecDepth 100000 in
set_option maxHeartbeats 4000000 in
theorem stext_2 (l c f t : Int) (w : World) (hT : Tab w) (b1 : 1 ≤ l) (b2 : l ≤ 4) (b3 : -4096 ≤ c) (b4 : c ≤ 4096) (e1 : f < t) (e2 : -4096 ≤ f) (e3 : t ≤ 4096) : Calls Tryz.prog 29 #[sg 2 l c f t] w fun e w' => e = .returned (.string ⟨(textS 2 l c f t).toArray⟩) ∧ Below w.heap.size w w' := by
  have hT' : ∀ W, Below w.heap.size w W → Tab W := fun W hb => tab_below hT hb
  have l1 := itoa_len f (by omega) (by omega)
  have l2 := itoa_len t (by omega) (by omega)
  have l3 := itoa_len c (by omega) (by omega)
  have l4 : (textL l c).length ≤ 23 := by unfold textL; simp; omega
  have hix : ∀ w, (Instr.index 9 (.string ⟨#[109, 118, 97]⟩) (.int .u8 1)).run Tryz.prog w = .ok (.int .u8 118) w := fun _ => by kernel_rfl
  have hcv : ∀ w, (convert 5 9 (.int .u8 118)).run Tryz.prog w = .ok (.string ⟨#[118]⟩) w := fun _ => by kernel_rfl
  have hA : ∀ w, (Op.stringOp .add ⟨#[118]⟩ ⟨#[32]⟩).run Tryz.prog w = .ok (.string ⟨#[118, 32]⟩) w := fun w => run_string_add_lists w [118] [32] (by simp) (by simp)
  have hB : ∀ w, (Op.stringOp .add ⟨#[118, 32]⟩ ⟨(textL l c).toArray⟩).run Tryz.prog w = .ok (.string ⟨([118, 32] ++ textL l c).toArray⟩) w := fun w => run_string_add_lists w [118, 32] _ (by simp) (by omega)
  have hC : ∀ w, (Op.stringOp .add ⟨([118, 32] ++ textL l c).toArray⟩ ⟨#[32]⟩).run Tryz.prog w = .ok (.string ⟨([118, 32] ++ textL l c ++ [32]).toArray⟩) w := fun w => run_string_add_lists w _ [32] (by simp; omega) (by simp)
  have hD : ∀ w, (Op.stringOp .add ⟨([118, 32] ++ textL l c ++ [32]).toArray⟩ ⟨(Lib.itoa f).toArray⟩).run Tryz.prog w = .ok (.string ⟨([118, 32] ++ textL l c ++ [32] ++ Lib.itoa f).toArray⟩) w := fun w => run_string_add_lists w _ _ (by simp; omega) (by omega)
  have hE : ∀ w, (Op.stringOp .add ⟨([118, 32] ++ textL l c ++ [32] ++ Lib.itoa f).toArray⟩ ⟨#[32]⟩).run Tryz.prog w = .ok (.string ⟨([118, 32] ++ textL l c ++ [32] ++ Lib.itoa f ++ [32]).toArray⟩) w := fun w => run_string_add_lists w _ [32] (by simp; omega) (by simp)
  have hF : ∀ w, (Op.stringOp .add ⟨([118, 32] ++ textL l c ++ [32] ++ Lib.itoa f ++ [32]).toArray⟩ ⟨(Lib.itoa t).toArray⟩).run Tryz.prog w = .ok (.string ⟨(textS 2 l c f t).toArray⟩) w := fun w => run_string_add_lists w _ _ (by simp; omega) (by omega)
  clear l1 l2 l3 l4
  generalize hX5 : [118, 32] ++ textL l c ++ [32] ++ Lib.itoa f ++ [32] = X5 at *
  generalize hX4 : [118, 32] ++ textL l c ++ [32] ++ Lib.itoa f = X4 at *
  generalize hX3 : [118, 32] ++ textL l c ++ [32] = X3 at *
  generalize hX2 : [118, 32] ++ textL l c = X2 at *
  clear hX5 hX4 hX3 hX2
  go_enter Tryz.func29, Tryz.ntmps29
  go_wp2_with (first | (go_at_call 32; (with_reducible refine (isg_yes 2 l c f t _ (by omega) (by omega) b1 b2 b3 b4 e1).mono ?_); rintro e wx ⟨rfl, hx⟩; obtain ⟨ux, rfl⟩ := after hx; clear hx) | fail)
  refine region_later (by kernel_rfl) (by kernel_rfl) ?_
  repeat (go_big_quiet_step ((first | (go_at_call 56; with_reducible exact Calls.later (text_ok l c _ (hT' _ (by repeat first | (with_reducible exact Below.refl _ _) | (with_reducible refine below_on ?_ _) | (with_reducible refine below_alloc ?_ _) | (with_reducible refine below_set ?_ (by simp; try omega) _))) b1 b2 b3 b4)) | (go_at_call 57; with_reducible exact Calls.later (itoa_any f _ (hT' _ (by repeat first | (with_reducible exact Below.refl _ _) | (with_reducible refine below_on ?_ _) | (with_reducible refine below_alloc ?_ _) | (with_reducible refine below_set ?_ (by simp; try omega) _))) (by omega) (by omega))) | (go_at_call 57; with_reducible exact Calls.later (itoa_any t _ (hT' _ (by repeat first | (with_reducible exact Below.refl _ _) | (with_reducible refine below_on ?_ _) | (with_reducible refine below_alloc ?_ _) | (with_reducible refine below_set ?_ (by simp; try omega) _))) (by omega) (by omega))))))
  refine wpQuiet_nil ?_
  rintro _ ⟨u3, rfl⟩
  go_wp2
  go_ret
  exact ⟨rfl, (by repeat first | (with_reducible exact Below.refl _ _) | (with_reducible refine below_on ?_ _) | (with_reducible refine below_alloc ?_ _) | (with_reducible refine below_set ?_ (by simp; try omega) _))⟩

set_option maxRecDepth 100000 in
set_option maxHeartbeats 4000000 in
theorem stext_3 (l c f t : Int) (w : World) (hT : Tab w) (b1 : 1 ≤ l) (b2 : l ≤ 4) (b3 : -4096 ≤ c) (b4 : c ≤ 4096) (e1 : f < t) (e2 : -4096 ≤ f) (e3 : t ≤ 4096) : Calls Tryz.prog 29 #[sg 3 l c f t] w fun e w' => e = .returned (.string ⟨(textS 3 l c f t).toArray⟩) ∧ Below w.heap.size w w' := by
  have hT' : ∀ W, Below w.heap.size w W → Tab W := fun W hb => tab_below hT hb
  have l1 := itoa_len f (by omega) (by omega)
  have l2 := itoa_len t (by omega) (by omega)
  have l3 := itoa_len c (by omega) (by omega)
  have l4 : (textL l c).length ≤ 23 := by unfold textL; simp; omega
  have hix : ∀ w, (Instr.index 9 (.string ⟨#[109, 118, 97]⟩) (.int .u8 2)).run Tryz.prog w = .ok (.int .u8 97) w := fun _ => by kernel_rfl
  have hcv : ∀ w, (convert 5 9 (.int .u8 97)).run Tryz.prog w = .ok (.string ⟨#[97]⟩) w := fun _ => by kernel_rfl
  have hA : ∀ w, (Op.stringOp .add ⟨#[97]⟩ ⟨#[32]⟩).run Tryz.prog w = .ok (.string ⟨#[97, 32]⟩) w := fun w => run_string_add_lists w [97] [32] (by simp) (by simp)
  have hB : ∀ w, (Op.stringOp .add ⟨#[97, 32]⟩ ⟨(textL l c).toArray⟩).run Tryz.prog w = .ok (.string ⟨([97, 32] ++ textL l c).toArray⟩) w := fun w => run_string_add_lists w [97, 32] _ (by simp) (by omega)
  have hC : ∀ w, (Op.stringOp .add ⟨([97, 32] ++ textL l c).toArray⟩ ⟨#[32]⟩).run Tryz.prog w = .ok (.string ⟨([97, 32] ++ textL l c ++ [32]).toArray⟩) w := fun w => run_string_add_lists w _ [32] (by simp; omega) (by simp)
  have hD : ∀ w, (Op.stringOp .add ⟨([97, 32] ++ textL l c ++ [32]).toArray⟩ ⟨(Lib.itoa f).toArray⟩).run Tryz.prog w = .ok (.string ⟨([97, 32] ++ textL l c ++ [32] ++ Lib.itoa f).toArray⟩) w := fun w => run_string_add_lists w _ _ (by simp; omega) (by omega)
  have hE : ∀ w, (Op.stringOp .add ⟨([97, 32] ++ textL l c ++ [32] ++ Lib.itoa f).toArray⟩ ⟨#[32]⟩).run Tryz.prog w = .ok (.string ⟨([97, 32] ++ textL l c ++ [32] ++ Lib.itoa f ++ [32]).toArray⟩) w := fun w => run_string_add_lists w _ [32] (by simp; omega) (by simp)
  have hF : ∀ w, (Op.stringOp .add ⟨([97, 32] ++ textL l c ++ [32] ++ Lib.itoa f ++ [32]).toArray⟩ ⟨(Lib.itoa t).toArray⟩).run Tryz.prog w = .ok (.string ⟨(textS 3 l c f t).toArray⟩) w := fun w => run_string_add_lists w _ _ (by simp; omega) (by omega)
  clear l1 l2 l3 l4
  generalize hX5 : [97, 32] ++ textL l c ++ [32] ++ Lib.itoa f ++ [32] = X5 at *
  generalize hX4 : [97, 32] ++ textL l c ++ [32] ++ Lib.itoa f = X4 at *
  generalize hX3 : [97, 32] ++ textL l c ++ [32] = X3 at *
  generalize hX2 : [97, 32] ++ textL l c = X2 at *
  clear hX5 hX4 hX3 hX2
  go_enter Tryz.func29, Tryz.ntmps29
  go_wp2_with (first | (go_at_call 32; (with_reducible refine (isg_yes 3 l c f t _ (by omega) (by omega) b1 b2 b3 b4 e1).mono ?_); rintro e wx ⟨rfl, hx⟩; obtain ⟨ux, rfl⟩ := after hx; clear hx) | fail)
  refine region_later (by kernel_rfl) (by kernel_rfl) ?_
  repeat (go_big_quiet_step ((first | (go_at_call 56; with_reducible exact Calls.later (text_ok l c _ (hT' _ (by repeat first | (with_reducible exact Below.refl _ _) | (with_reducible refine below_on ?_ _) | (with_reducible refine below_alloc ?_ _) | (with_reducible refine below_set ?_ (by simp; try omega) _))) b1 b2 b3 b4)) | (go_at_call 57; with_reducible exact Calls.later (itoa_any f _ (hT' _ (by repeat first | (with_reducible exact Below.refl _ _) | (with_reducible refine below_on ?_ _) | (with_reducible refine below_alloc ?_ _) | (with_reducible refine below_set ?_ (by simp; try omega) _))) (by omega) (by omega))) | (go_at_call 57; with_reducible exact Calls.later (itoa_any t _ (hT' _ (by repeat first | (with_reducible exact Below.refl _ _) | (with_reducible refine below_on ?_ _) | (with_reducible refine below_alloc ?_ _) | (with_reducible refine below_set ?_ (by simp; try omega) _))) (by omega) (by omega))))))
  refine wpQuiet_nil ?_
  rintro _ ⟨u3, rfl⟩
  go_wp2
  go_ret
  exact ⟨rfl, (by repeat first | (with_reducible exact Below.refl _ _) | (with_reducible refine below_on ?_ _) | (with_reducible refine below_alloc ?_ _) | (with_reducible refine below_set ?_ (by simp; try omega) _))⟩

theorem stext_ok (k l c f t : Int) (w : World) (hT : Tab w) (a1 : 1 ≤ k) (a2 : k ≤ 3) (b1 : 1 ≤ l) (b2 : l ≤ 4) (b3 : -4096 ≤ c) (b4 : c ≤ 4096) (e1 : f < t) (e2 : -4096 ≤ f) (e3 : t ≤ 4096) : Calls Tryz.prog 29 #[sg k l c f t] w fun e w' => e = .returned (.string ⟨(textS k l c f t).toArray⟩) ∧ Below w.heap.size w w' := by
  obtain rfl | rfl | rfl : k = 1 ∨ k = 2 ∨ k = 3 := by omega
  · exact stext_1 l c f t w hT b1 b2 b3 b4 e1 e2 e3
  · exact stext_2 l c f t w hT b1 b2 b3 b4 e1 e2 e3
  · exact stext_3 l c f t w hT b1 b2 b3 b4 e1 e2 e3

set_option maxRecDepth 100000 in
set_option maxHeartbeats 4000000 in
theorem stext_bad1 (k l c f t : Int) (w : World) (h : k < 1 ∨ 3 < k ∨ l < 1 ∨ 4 < l ∨ c < -4096 ∨ 4096 < c ∨ t ≤ f) : Calls Tryz.prog 29 #[sg k l c f t] w fun e w' => e = .returned (.string ⟨#[]⟩) ∧ Below w.heap.size w w' := by
  have H : Hid (k < 1 ∨ 3 < k ∨ l < 1 ∨ 4 < l ∨ c < -4096 ∨ 4096 < c ∨ t ≤ f) := h
  clear h
  go_enter Tryz.func29, Tryz.ntmps29
  go_wp2_with (first | (go_at_call 32; (with_reducible refine (isg_no k l c f t _ H.out).mono ?_); rintro e wx ⟨rfl, hx⟩; obtain ⟨ux, rfl⟩ := after hx; clear hx) | fail)
  go_ret
  exact ⟨rfl, (by repeat first | (with_reducible exact Below.refl _ _) | (with_reducible refine below_on ?_ _) | (with_reducible refine below_alloc ?_ _) | (with_reducible refine below_set ?_ (by simp; try omega) _))⟩

set_option maxRecDepth 100000 in
set_option maxHeartbeats 4000000 in
theorem stext_bad2 (k l c f t : Int) (w : World) (a1 : 1 ≤ k) (a2 : k ≤ 3) (b1 : 1 ≤ l) (b2 : l ≤ 4) (b3 : -4096 ≤ c) (b4 : c ≤ 4096) (e1 : f < t) (h : f < -4096) : Calls Tryz.prog 29 #[sg k l c f t] w fun e w' => e = .returned (.string ⟨#[]⟩) ∧ Below w.heap.size w w' := by
  go_enter Tryz.func29, Tryz.ntmps29
  go_wp2_with (first | (go_at_call 32; (with_reducible refine (isg_yes k l c f t _ a1 a2 b1 b2 b3 b4 e1).mono ?_); rintro e wx ⟨rfl, hx⟩; obtain ⟨ux, rfl⟩ := after hx; clear hx) | fail)
  go_ret
  exact ⟨rfl, (by repeat first | (with_reducible exact Below.refl _ _) | (with_reducible refine below_on ?_ _) | (with_reducible refine below_alloc ?_ _) | (with_reducible refine below_set ?_ (by simp; try omega) _))⟩

set_option maxRecDepth 100000 in
set_option maxHeartbeats 4000000 in
theorem stext_bad3 (k l c f t : Int) (w : World) (a1 : 1 ≤ k) (a2 : k ≤ 3) (b1 : 1 ≤ l) (b2 : l ≤ 4) (b3 : -4096 ≤ c) (b4 : c ≤ 4096) (e1 : f < t) (e2 : -4096 ≤ f) (h : 4096 < t) : Calls Tryz.prog 29 #[sg k l c f t] w fun e w' => e = .returned (.string ⟨#[]⟩) ∧ Below w.heap.size w w' := by
  go_enter Tryz.func29, Tryz.ntmps29
  go_wp2_with (first | (go_at_call 32; (with_reducible refine (isg_yes k l c f t _ a1 a2 b1 b2 b3 b4 e1).mono ?_); rintro e wx ⟨rfl, hx⟩; obtain ⟨ux, rfl⟩ := after hx; clear hx) | fail)
  go_ret
  exact ⟨rfl, (by repeat first | (with_reducible exact Below.refl _ _) | (with_reducible refine below_on ?_ _) | (with_reducible refine below_alloc ?_ _) | (with_reducible refine below_set ?_ (by simp; try omega) _))⟩

theorem stext_bad (k l c f t : Int) (w : World) (h : k < 1 ∨ 3 < k ∨ l < 1 ∨ 4 < l ∨ c < -4096 ∨ 4096 < c ∨ t ≤ f ∨ f < -4096 ∨ 4096 < t) : Calls Tryz.prog 29 #[sg k l c f t] w fun e w' => e = .returned (.string ⟨#[]⟩) ∧ Below w.heap.size w w' := by
  by_cases q1 : k < 1 ∨ 3 < k ∨ l < 1 ∨ 4 < l ∨ c < -4096 ∨ 4096 < c ∨ t ≤ f
  · exact stext_bad1 k l c f t w q1
  by_cases q2 : f < -4096
  · exact stext_bad2 k l c f t w (by omega) (by omega) (by omega) (by omega) (by omega) (by omega) (by omega) q2
  exact stext_bad3 k l c f t w (by omega) (by omega) (by omega) (by omega) (by omega) (by omega) (by omega) (by omega) (by omega)

end Go.Proofs.YtkmmnlhmfiabfaaGreatDoor
