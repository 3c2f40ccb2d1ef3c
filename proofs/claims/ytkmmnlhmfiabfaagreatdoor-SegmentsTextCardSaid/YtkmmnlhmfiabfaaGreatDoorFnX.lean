/-
  Says: what Text gives for every line.
-/
import Derived.Test.YtkmmnlhmfiabfaaGreatDoorRfD
import Derived.Test.YtkmmnlhmfiabfaaGreatDoorShelf
set_option linter.unusedVariables false
set_option linter.unusedSimpArgs false
namespace Go.Proofs.YtkmmnlhmfiabfaaGreatDoor
open Go Go.RowKit

/-- The library's table of powers of ten is as its initialiser laid it. -/
def Tab (w : World) : Prop := Lib.TabIs Tryz.prog w "internal/strconv.uint64pow10" .u64 Lib.pow10Tab
theorem gPow : Tryz.prog.globalNamed "internal/strconv.uint64pow10" = some 4 := by kernel_rfl
theorem tab_below {w w' : World} (h : Tab w) (hb : Below w.heap.size w w') : Tab w' := by
  unfold Tab Lib.TabIs World.var? at h ⊢
  simp only [gPow, Option.bind_some] at h ⊢
  cases ho : w.heap[4]? with
  | none => rw [ho] at h; cases h
  | some o => rw [hb.block _ (held_lt ho)]; exact h
theorem tab_on {W : World} (u : Later W) (h : Tab W) : Tab (on u) := tab_below h u.b
theorem tab_alloc {W : World} (o : Obj) (h : Tab W) : Tab (W.alloc o) := tab_below h ((Below.refl _ _).alloc (Nat.le_refl _) o)
theorem below_grow {w w' : World} (h : ∃ k os, w' = Sort.grow (w.drewN k) os) : Below w.heap.size w w' := by
  obtain ⟨k, os, rfl⟩ := h
  refine ⟨rfl, rfl, rfl, by simp, fun i hi => ?_⟩
  show (w.heap ++ os)[i]? = _
  rw [Array.getElem?_append, if_pos hi]
theorem itoa_any (c : Int) (w : World) (hT : Tab w) (h1 : -100000 ≤ c) (h2 : c ≤ 100000) : Calls Tryz.prog 57 #[.int .i64 c] w fun e w' => e = .returned (.string ⟨(Lib.itoa c).toArray⟩) ∧ Below w.heap.size w w' :=
  (Tryz.strconv_Itoa c (by omega) (by omega) w hT).mono fun e w' ⟨he, hg⟩ => ⟨he, below_grow hg⟩

/-- The letter of a kind; the text of a line. -/
def letter (k : Int) : UInt8 := if k = 1 then 120 else if k = 2 then 121 else if k = 3 then 117 else 100
def textL (k c : Int) : List UInt8 := letter k :: 32 :: Lib.itoa c

set_option maxHeartbeats 400000 in
theorem text_1 (c : Int) (w : World) (hT : Tab w) (h1 : -4096 ≤ c) (h2 : c ≤ 4096) : Calls Tryz.prog 56 #[ln 1 c] w fun e w' => e = .returned (.string ⟨(textL 1 c).toArray⟩) ∧ Below w.heap.size w w' := by
  have hT' : ∀ W, Below w.heap.size w W → Tab W := fun W hb => tab_below hT hb
  have hcv : ∀ w, (convert 21 9 (.int .i32 120)).run Tryz.prog w = .ok (.string ⟨#[120]⟩) w := fun _ => by kernel_rfl
  have hA : ∀ w, (Op.stringOp .add ⟨#[120]⟩ ⟨#[32]⟩).run Tryz.prog w = .ok (.string ⟨#[120, 32]⟩) w := fun w => run_string_add_lists w [120] [32] (by simp) (by simp)
  have hB : ∀ w, (Op.stringOp .add ⟨#[120, 32]⟩ ⟨(Lib.itoa c).toArray⟩).run Tryz.prog w = .ok (.string ⟨(textL 1 c).toArray⟩) w := fun w => by
    have := itoa_len c (by omega) (by omega)
    exact run_string_add_lists w [120, 32] (Lib.itoa c) (by simp) (by omega)
  go_enter Tryz.func56, Tryz.ntmps56
  go_wp2_with (first | (go_at_call 58; refine (check_ok _ _ _ (by omega) (by omega) (by omega) (by omega)).mono ?_; rintro e w1 ⟨rfl, hb1⟩; obtain ⟨u1, rfl⟩ := after hb1; clear hb1) | fail)
  refine region_later (by kernel_rfl) (by kernel_rfl) ?_
  repeat (go_big_quiet_step ((first | (go_at_call 81; with_reducible exact Calls.later (way_1 _)) | (go_at_call 57; with_reducible exact Calls.later (itoa_any _ _ (hT' _ (by repeat first | (with_reducible exact Below.refl _ _) | (with_reducible refine below_on ?_ _) | (with_reducible refine below_alloc ?_ _) | (with_reducible refine below_set ?_ (by simp; try omega) _) | (with_reducible refine below_drew ?_))) (by omega) (by omega))))))
  refine wpQuiet_nil ?_
  rintro _ ⟨u3, rfl⟩
  go_wp2
  go_ret
  exact ⟨rfl, by repeat first | (with_reducible exact Below.refl _ _) | (with_reducible refine below_on ?_ _) | (with_reducible refine below_alloc ?_ _) | (with_reducible refine below_set ?_ (by simp; try omega) _) | (with_reducible refine below_drew ?_)⟩

set_option maxHeartbeats 400000 in
theorem text_2 (c : Int) (w : World) (hT : Tab w) (h1 : -4096 ≤ c) (h2 : c ≤ 4096) : Calls Tryz.prog 56 #[ln 2 c] w fun e w' => e = .returned (.string ⟨(textL 2 c).toArray⟩) ∧ Below w.heap.size w w' := by
  have hT' : ∀ W, Below w.heap.size w W → Tab W := fun W hb => tab_below hT hb
  have hcv : ∀ w, (convert 21 9 (.int .i32 121)).run Tryz.prog w = .ok (.string ⟨#[121]⟩) w := fun _ => by kernel_rfl
  have hA : ∀ w, (Op.stringOp .add ⟨#[121]⟩ ⟨#[32]⟩).run Tryz.prog w = .ok (.string ⟨#[121, 32]⟩) w := fun w => run_string_add_lists w [121] [32] (by simp) (by simp)
  have hB : ∀ w, (Op.stringOp .add ⟨#[121, 32]⟩ ⟨(Lib.itoa c).toArray⟩).run Tryz.prog w = .ok (.string ⟨(textL 2 c).toArray⟩) w := fun w => by
    have := itoa_len c (by omega) (by omega)
    exact run_string_add_lists w [121, 32] (Lib.itoa c) (by simp) (by omega)
  go_enter Tryz.func56, Tryz.ntmps56
  go_wp2_with (first | (go_at_call 58; refine (check_ok _ _ _ (by omega) (by omega) (by omega) (by omega)).mono ?_; rintro e w1 ⟨rfl, hb1⟩; obtain ⟨u1, rfl⟩ := after hb1; clear hb1) | fail)
  refine region_later (by kernel_rfl) (by kernel_rfl) ?_
  repeat (go_big_quiet_step ((first | (go_at_call 81; with_reducible exact Calls.later (way_2 _)) | (go_at_call 57; with_reducible exact Calls.later (itoa_any _ _ (hT' _ (by repeat first | (with_reducible exact Below.refl _ _) | (with_reducible refine below_on ?_ _) | (with_reducible refine below_alloc ?_ _) | (with_reducible refine below_set ?_ (by simp; try omega) _) | (with_reducible refine below_drew ?_))) (by omega) (by omega))))))
  refine wpQuiet_nil ?_
  rintro _ ⟨u3, rfl⟩
  go_wp2
  go_ret
  exact ⟨rfl, by repeat first | (with_reducible exact Below.refl _ _) | (with_reducible refine below_on ?_ _) | (with_reducible refine below_alloc ?_ _) | (with_reducible refine below_set ?_ (by simp; try omega) _) | (with_reducible refine below_drew ?_)⟩

set_option maxHeartbeats 400000 in
theorem text_3 (c : Int) (w : World) (hT : Tab w) (h1 : -4096 ≤ c) (h2 : c ≤ 4096) : Calls Tryz.prog 56 #[ln 3 c] w fun e w' => e = .returned (.string ⟨(textL 3 c).toArray⟩) ∧ Below w.heap.size w w' := by
  have hT' : ∀ W, Below w.heap.size w W → Tab W := fun W hb => tab_below hT hb
  have hcv : ∀ w, (convert 21 9 (.int .i32 117)).run Tryz.prog w = .ok (.string ⟨#[117]⟩) w := fun _ => by kernel_rfl
  have hA : ∀ w, (Op.stringOp .add ⟨#[117]⟩ ⟨#[32]⟩).run Tryz.prog w = .ok (.string ⟨#[117, 32]⟩) w := fun w => run_string_add_lists w [117] [32] (by simp) (by simp)
  have hB : ∀ w, (Op.stringOp .add ⟨#[117, 32]⟩ ⟨(Lib.itoa c).toArray⟩).run Tryz.prog w = .ok (.string ⟨(textL 3 c).toArray⟩) w := fun w => by
    have := itoa_len c (by omega) (by omega)
    exact run_string_add_lists w [117, 32] (Lib.itoa c) (by simp) (by omega)
  go_enter Tryz.func56, Tryz.ntmps56
  go_wp2_with (first | (go_at_call 58; refine (check_ok _ _ _ (by omega) (by omega) (by omega) (by omega)).mono ?_; rintro e w1 ⟨rfl, hb1⟩; obtain ⟨u1, rfl⟩ := after hb1; clear hb1) | fail)
  refine region_later (by kernel_rfl) (by kernel_rfl) ?_
  repeat (go_big_quiet_step ((first | (go_at_call 81; with_reducible exact Calls.later (way_3 _)) | (go_at_call 57; with_reducible exact Calls.later (itoa_any _ _ (hT' _ (by repeat first | (with_reducible exact Below.refl _ _) | (with_reducible refine below_on ?_ _) | (with_reducible refine below_alloc ?_ _) | (with_reducible refine below_set ?_ (by simp; try omega) _) | (with_reducible refine below_drew ?_))) (by omega) (by omega))))))
  refine wpQuiet_nil ?_
  rintro _ ⟨u3, rfl⟩
  go_wp2
  go_ret
  exact ⟨rfl, by repeat first | (with_reducible exact Below.refl _ _) | (with_reducible refine below_on ?_ _) | (with_reducible refine below_alloc ?_ _) | (with_reducible refine below_set ?_ (by simp; try omega) _) | (with_reducible refine below_drew ?_)⟩

set_option maxHeartbeats 400000 in
theorem text_4 (c : Int) (w : World) (hT : Tab w) (h1 : -4096 ≤ c) (h2 : c ≤ 4096) : Calls Tryz.prog 56 #[ln 4 c] w fun e w' => e = .returned (.string ⟨(textL 4 c).toArray⟩) ∧ Below w.heap.size w w' := by
  have hT' : ∀ W, Below w.heap.size w W → Tab W := fun W hb => tab_below hT hb
  have hcv : ∀ w, (convert 21 9 (.int .i32 100)).run Tryz.prog w = .ok (.string ⟨#[100]⟩) w := fun _ => by kernel_rfl
  have hA : ∀ w, (Op.stringOp .add ⟨#[100]⟩ ⟨#[32]⟩).run Tryz.prog w = .ok (.string ⟨#[100, 32]⟩) w := fun w => run_string_add_lists w [100] [32] (by simp) (by simp)
  have hB : ∀ w, (Op.stringOp .add ⟨#[100, 32]⟩ ⟨(Lib.itoa c).toArray⟩).run Tryz.prog w = .ok (.string ⟨(textL 4 c).toArray⟩) w := fun w => by
    have := itoa_len c (by omega) (by omega)
    exact run_string_add_lists w [100, 32] (Lib.itoa c) (by simp) (by omega)
  go_enter Tryz.func56, Tryz.ntmps56
  go_wp2_with (first | (go_at_call 58; refine (check_ok _ _ _ (by omega) (by omega) (by omega) (by omega)).mono ?_; rintro e w1 ⟨rfl, hb1⟩; obtain ⟨u1, rfl⟩ := after hb1; clear hb1) | fail)
  refine region_later (by kernel_rfl) (by kernel_rfl) ?_
  repeat (go_big_quiet_step ((first | (go_at_call 81; with_reducible exact Calls.later (way_4 _)) | (go_at_call 57; with_reducible exact Calls.later (itoa_any _ _ (hT' _ (by repeat first | (with_reducible exact Below.refl _ _) | (with_reducible refine below_on ?_ _) | (with_reducible refine below_alloc ?_ _) | (with_reducible refine below_set ?_ (by simp; try omega) _) | (with_reducible refine below_drew ?_))) (by omega) (by omega))))))
  refine wpQuiet_nil ?_
  rintro _ ⟨u3, rfl⟩
  go_wp2
  go_ret
  exact ⟨rfl, by repeat first | (with_reducible exact Below.refl _ _) | (with_reducible refine below_on ?_ _) | (with_reducible refine below_alloc ?_ _) | (with_reducible refine below_set ?_ (by simp; try omega) _) | (with_reducible refine below_drew ?_)⟩

theorem text_ok (k c : Int) (w : World) (hT : Tab w) (h1 : 1 ≤ k) (h2 : k ≤ 4) (h3 : -4096 ≤ c) (h4 : c ≤ 4096) : Calls Tryz.prog 56 #[ln k c] w fun e w' => e = .returned (.string ⟨(textL k c).toArray⟩) ∧ Below w.heap.size w w' := by
  obtain rfl | rfl | rfl | rfl : k = 1 ∨ k = 2 ∨ k = 3 ∨ k = 4 := by omega
  · exact text_1 c w hT h3 h4
  · exact text_2 c w hT h3 h4
  · exact text_3 c w hT h3 h4
  · exact text_4 c w hT h3 h4

set_option maxHeartbeats 400000 in
theorem text_bad (k c : Int) (w : World) (h : k < 1 ∨ 4 < k ∨ c < -4096 ∨ 4096 < c) : Calls Tryz.prog 56 #[ln k c] w fun e w' => e = .returned (.string ⟨#[]⟩) ∧ Below w.heap.size w w' := by
  have H : Hid (k < 1 ∨ 4 < k ∨ c < -4096 ∨ 4096 < c) := h
  clear h
  go_enter Tryz.func56, Tryz.ntmps56
  go_wp2_with (first | (go_at_call 58; refine (check_bad _ _ _ H.out).mono ?_; rintro e w1 ⟨rfl, hb1⟩; obtain ⟨u1, rfl⟩ := after hb1; clear hb1) | fail)
  go_ret
  exact ⟨rfl, by repeat first | (with_reducible exact Below.refl _ _) | (with_reducible refine below_on ?_ _) | (with_reducible refine below_alloc ?_ _) | (with_reducible refine below_set ?_ (by simp; try omega) _) | (with_reducible refine below_drew ?_)⟩

end Go.Proofs.YtkmmnlhmfiabfaaGreatDoor
