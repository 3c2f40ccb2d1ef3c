/-
  Says: isUnit at sheets.
-/
import Derived.Test.YtbghfcllicfnpaaGreatDoorCu
import Derived.KernelRfl
set_option maxRecDepth 1000000
set_option linter.unusedVariables false
set_option linter.unusedSimpArgs false
namespace Go.Proofs.YtbghfcllicfnpaaGreatDoor
open Go Go.Vx
attribute [local instance] anyKeeps
section
attribute [local instance] anySyms
theorem ua_1_1 (t : Nat → TypeId) : uA t 1 1 = true := by kernel_rfl
theorem ub_1_1 (t : Nat → TypeId) : uB t 1 1 = true := by kernel_rfl
theorem uc_1_1_0 (t : Nat → TypeId) : allL (u4 t 1 1) (List.range' 0 4) = true := by kernel_rfl
theorem ua_1_2 (t : Nat → TypeId) : uA t 1 2 = true := by kernel_rfl
theorem ub_1_2 (t : Nat → TypeId) : uB t 1 2 = true := by kernel_rfl
theorem uc_1_2_0 (t : Nat → TypeId) : allL (u4 t 1 2) (List.range' 0 8) = true := by kernel_rfl
theorem ua_1_3 (t : Nat → TypeId) : uA t 1 3 = true := by kernel_rfl
theorem ub_1_3 (t : Nat → TypeId) : uB t 1 3 = true := by kernel_rfl
theorem uc_1_3_0 (t : Nat → TypeId) : allL (u4 t 1 3) (List.range' 0 12) = true := by kernel_rfl
theorem ua_1_4 (t : Nat → TypeId) : uA t 1 4 = true := by kernel_rfl
theorem ub_1_4 (t : Nat → TypeId) : uB t 1 4 = true := by kernel_rfl
theorem uc_1_4_0 (t : Nat → TypeId) : allL (u4 t 1 4) (List.range' 0 16) = true := by kernel_rfl
theorem ua_1_5 (t : Nat → TypeId) : uA t 1 5 = true := by kernel_rfl
theorem ub_1_5 (t : Nat → TypeId) : uB t 1 5 = true := by kernel_rfl
theorem uc_1_5_0 (t : Nat → TypeId) : allL (u4 t 1 5) (List.range' 0 20) = true := by kernel_rfl
theorem ua_2_1 (t : Nat → TypeId) : uA t 2 1 = true := by kernel_rfl
theorem ub_2_1 (t : Nat → TypeId) : uB t 2 1 = true := by kernel_rfl
theorem uc_2_1_0 (t : Nat → TypeId) : allL (u4 t 2 1) (List.range' 0 8) = true := by kernel_rfl
theorem ua_2_2 (t : Nat → TypeId) : uA t 2 2 = true := by kernel_rfl
theorem ub_2_2 (t : Nat → TypeId) : uB t 2 2 = true := by kernel_rfl
theorem uc_2_2_0 (t : Nat → TypeId) : allL (u4 t 2 2) (List.range' 0 16) = true := by kernel_rfl
theorem ua_2_3 (t : Nat → TypeId) : uA t 2 3 = true := by kernel_rfl
theorem ub_2_3 (t : Nat → TypeId) : uB t 2 3 = true := by kernel_rfl
theorem uc_2_3_0 (t : Nat → TypeId) : allL (u4 t 2 3) (List.range' 0 24) = true := by kernel_rfl
theorem ua_2_4 (t : Nat → TypeId) : uA t 2 4 = true := by kernel_rfl
theorem ub_2_4 (t : Nat → TypeId) : uB t 2 4 = true := by kernel_rfl
theorem uc_2_4_0 (t : Nat → TypeId) : allL (u4 t 2 4) (List.range' 0 32) = true := by kernel_rfl
theorem ua_2_5 (t : Nat → TypeId) : uA t 2 5 = true := by kernel_rfl
theorem ub_2_5 (t : Nat → TypeId) : uB t 2 5 = true := by kernel_rfl
theorem uc_2_5_0 (t : Nat → TypeId) : allL (u4 t 2 5) (List.range' 0 40) = true := by kernel_rfl
theorem ua_3_1 (t : Nat → TypeId) : uA t 3 1 = true := by kernel_rfl
theorem ub_3_1 (t : Nat → TypeId) : uB t 3 1 = true := by kernel_rfl
theorem uc_3_1_0 (t : Nat → TypeId) : allL (u4 t 3 1) (List.range' 0 12) = true := by kernel_rfl
theorem ua_3_2 (t : Nat → TypeId) : uA t 3 2 = true := by kernel_rfl
theorem ub_3_2 (t : Nat → TypeId) : uB t 3 2 = true := by kernel_rfl
theorem uc_3_2_0 (t : Nat → TypeId) : allL (u4 t 3 2) (List.range' 0 24) = true := by kernel_rfl
theorem ua_3_3 (t : Nat → TypeId) : uA t 3 3 = true := by kernel_rfl
theorem ub_3_3 (t : Nat → TypeId) : uB t 3 3 = true := by kernel_rfl
theorem uc_3_3_0 (t : Nat → TypeId) : allL (u4 t 3 3) (List.range' 0 36) = true := by kernel_rfl
theorem ua_3_4 (t : Nat → TypeId) : uA t 3 4 = true := by kernel_rfl
theorem ub_3_4 (t : Nat → TypeId) : uB t 3 4 = true := by kernel_rfl
theorem uc_3_4_0 (t : Nat → TypeId) : allL (u4 t 3 4) (List.range' 0 40) = true := by kernel_rfl
theorem uc_3_4_1 (t : Nat → TypeId) : allL (u4 t 3 4) (List.range' 40 8) = true := by kernel_rfl
theorem ua_3_5 (t : Nat → TypeId) : uA t 3 5 = true := by kernel_rfl
theorem ub_3_5 (t : Nat → TypeId) : uB t 3 5 = true := by kernel_rfl
theorem uc_3_5_0 (t : Nat → TypeId) : allL (u4 t 3 5) (List.range' 0 40) = true := by kernel_rfl
theorem uc_3_5_1 (t : Nat → TypeId) : allL (u4 t 3 5) (List.range' 40 20) = true := by kernel_rfl
end
theorem iu_1_1 (t : Nat → TypeId) (c e : Int) (h_e : 0 ≤ e ∧ e ≤ 255) : Known Tryz.prog (tabG t) 61 [va [vi 1, vi 1], .agg ⟨[.int .i64 c, .int .u8 e]⟩] (.bool (isUB 1 1 c e)) :=
  isUnit_sheet (ua_1_1 t) (ub_1_1 t) (rng_app (c := 4) (uc_1_1_0 t) (fun i hi => absurd hi (Nat.not_lt_zero i)) rfl) c e h_e
theorem iu_1_2 (t : Nat → TypeId) (c e : Int) (h_e : 0 ≤ e ∧ e ≤ 255) : Known Tryz.prog (tabG t) 61 [va [vi 1, vi 2], .agg ⟨[.int .i64 c, .int .u8 e]⟩] (.bool (isUB 1 2 c e)) :=
  isUnit_sheet (ua_1_2 t) (ub_1_2 t) (rng_app (c := 8) (uc_1_2_0 t) (fun i hi => absurd hi (Nat.not_lt_zero i)) rfl) c e h_e
theorem iu_1_3 (t : Nat → TypeId) (c e : Int) (h_e : 0 ≤ e ∧ e ≤ 255) : Known Tryz.prog (tabG t) 61 [va [vi 1, vi 3], .agg ⟨[.int .i64 c, .int .u8 e]⟩] (.bool (isUB 1 3 c e)) :=
  isUnit_sheet (ua_1_3 t) (ub_1_3 t) (rng_app (c := 12) (uc_1_3_0 t) (fun i hi => absurd hi (Nat.not_lt_zero i)) rfl) c e h_e
theorem iu_1_4 (t : Nat → TypeId) (c e : Int) (h_e : 0 ≤ e ∧ e ≤ 255) : Known Tryz.prog (tabG t) 61 [va [vi 1, vi 4], .agg ⟨[.int .i64 c, .int .u8 e]⟩] (.bool (isUB 1 4 c e)) :=
  isUnit_sheet (ua_1_4 t) (ub_1_4 t) (rng_app (c := 16) (uc_1_4_0 t) (fun i hi => absurd hi (Nat.not_lt_zero i)) rfl) c e h_e
theorem iu_1_5 (t : Nat → TypeId) (c e : Int) (h_e : 0 ≤ e ∧ e ≤ 255) : Known Tryz.prog (tabG t) 61 [va [vi 1, vi 5], .agg ⟨[.int .i64 c, .int .u8 e]⟩] (.bool (isUB 1 5 c e)) :=
  isUnit_sheet (ua_1_5 t) (ub_1_5 t) (rng_app (c := 20) (uc_1_5_0 t) (fun i hi => absurd hi (Nat.not_lt_zero i)) rfl) c e h_e
theorem iu_2_1 (t : Nat → TypeId) (c e : Int) (h_e : 0 ≤ e ∧ e ≤ 255) : Known Tryz.prog (tabG t) 61 [va [vi 2, vi 1], .agg ⟨[.int .i64 c, .int .u8 e]⟩] (.bool (isUB 2 1 c e)) :=
  isUnit_sheet (ua_2_1 t) (ub_2_1 t) (rng_app (c := 8) (uc_2_1_0 t) (fun i hi => absurd hi (Nat.not_lt_zero i)) rfl) c e h_e
theorem iu_2_2 (t : Nat → TypeId) (c e : Int) (h_e : 0 ≤ e ∧ e ≤ 255) : Known Tryz.prog (tabG t) 61 [va [vi 2, vi 2], .agg ⟨[.int .i64 c, .int .u8 e]⟩] (.bool (isUB 2 2 c e)) :=
  isUnit_sheet (ua_2_2 t) (ub_2_2 t) (rng_app (c := 16) (uc_2_2_0 t) (fun i hi => absurd hi (Nat.not_lt_zero i)) rfl) c e h_e
theorem iu_2_3 (t : Nat → TypeId) (c e : Int) (h_e : 0 ≤ e ∧ e ≤ 255) : Known Tryz.prog (tabG t) 61 [va [vi 2, vi 3], .agg ⟨[.int .i64 c, .int .u8 e]⟩] (.bool (isUB 2 3 c e)) :=
  isUnit_sheet (ua_2_3 t) (ub_2_3 t) (rng_app (c := 24) (uc_2_3_0 t) (fun i hi => absurd hi (Nat.not_lt_zero i)) rfl) c e h_e
theorem iu_2_4 (t : Nat → TypeId) (c e : Int) (h_e : 0 ≤ e ∧ e ≤ 255) : Known Tryz.prog (tabG t) 61 [va [vi 2, vi 4], .agg ⟨[.int .i64 c, .int .u8 e]⟩] (.bool (isUB 2 4 c e)) :=
  isUnit_sheet (ua_2_4 t) (ub_2_4 t) (rng_app (c := 32) (uc_2_4_0 t) (fun i hi => absurd hi (Nat.not_lt_zero i)) rfl) c e h_e
theorem iu_2_5 (t : Nat → TypeId) (c e : Int) (h_e : 0 ≤ e ∧ e ≤ 255) : Known Tryz.prog (tabG t) 61 [va [vi 2, vi 5], .agg ⟨[.int .i64 c, .int .u8 e]⟩] (.bool (isUB 2 5 c e)) :=
  isUnit_sheet (ua_2_5 t) (ub_2_5 t) (rng_app (c := 40) (uc_2_5_0 t) (fun i hi => absurd hi (Nat.not_lt_zero i)) rfl) c e h_e
theorem iu_3_1 (t : Nat → TypeId) (c e : Int) (h_e : 0 ≤ e ∧ e ≤ 255) : Known Tryz.prog (tabG t) 61 [va [vi 3, vi 1], .agg ⟨[.int .i64 c, .int .u8 e]⟩] (.bool (isUB 3 1 c e)) :=
  isUnit_sheet (ua_3_1 t) (ub_3_1 t) (rng_app (c := 12) (uc_3_1_0 t) (fun i hi => absurd hi (Nat.not_lt_zero i)) rfl) c e h_e
theorem iu_3_2 (t : Nat → TypeId) (c e : Int) (h_e : 0 ≤ e ∧ e ≤ 255) : Known Tryz.prog (tabG t) 61 [va [vi 3, vi 2], .agg ⟨[.int .i64 c, .int .u8 e]⟩] (.bool (isUB 3 2 c e)) :=
  isUnit_sheet (ua_3_2 t) (ub_3_2 t) (rng_app (c := 24) (uc_3_2_0 t) (fun i hi => absurd hi (Nat.not_lt_zero i)) rfl) c e h_e
theorem iu_3_3 (t : Nat → TypeId) (c e : Int) (h_e : 0 ≤ e ∧ e ≤ 255) : Known Tryz.prog (tabG t) 61 [va [vi 3, vi 3], .agg ⟨[.int .i64 c, .int .u8 e]⟩] (.bool (isUB 3 3 c e)) :=
  isUnit_sheet (ua_3_3 t) (ub_3_3 t) (rng_app (c := 36) (uc_3_3_0 t) (fun i hi => absurd hi (Nat.not_lt_zero i)) rfl) c e h_e
theorem iu_3_4 (t : Nat → TypeId) (c e : Int) (h_e : 0 ≤ e ∧ e ≤ 255) : Known Tryz.prog (tabG t) 61 [va [vi 3, vi 4], .agg ⟨[.int .i64 c, .int .u8 e]⟩] (.bool (isUB 3 4 c e)) :=
  isUnit_sheet (ua_3_4 t) (ub_3_4 t) (rng_app (c := 48) (uc_3_4_1 t) (rng_app (c := 40) (uc_3_4_0 t) (fun i hi => absurd hi (Nat.not_lt_zero i)) rfl) rfl) c e h_e
theorem iu_3_5 (t : Nat → TypeId) (c e : Int) (h_e : 0 ≤ e ∧ e ≤ 255) : Known Tryz.prog (tabG t) 61 [va [vi 3, vi 5], .agg ⟨[.int .i64 c, .int .u8 e]⟩] (.bool (isUB 3 5 c e)) :=
  isUnit_sheet (ua_3_5 t) (ub_3_5 t) (rng_app (c := 60) (uc_3_5_1 t) (rng_app (c := 40) (uc_3_5_0 t) (fun i hi => absurd hi (Nat.not_lt_zero i)) rfl) rfl) c e h_e

end Go.Proofs.YtbghfcllicfnpaaGreatDoor
