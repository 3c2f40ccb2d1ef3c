/-
  Says: isUnit at sheets.
-/
import Derived.Test.YtbghfcllicfnpaaGreatDoorCu
import Derived.KernelRfl
set_option maxRecDepth 1000000
set_option linter.unusedVariables false
set_option linter.unusedSimpArgs false
namespace Go.Proofs.YtbghfcllicfnpaaGreatDoor
open Go Go.Vx
attribute [local instance] anyKeeps
section
attribute [local instance] anySyms
theorem ua_4_1 (t : Nat → TypeId) : uA t 4 1 = true := by kernel_rfl
theorem ub_4_1 (t : Nat → TypeId) : uB t 4 1 = true := by kernel_rfl
theorem uc_4_1_0 (t : Nat → TypeId) : allL (u4 t 4 1) (List.range' 0 16) = true := by kernel_rfl
theorem ua_4_2 (t : Nat → TypeId) : uA t 4 2 = true := by kernel_rfl
theorem ub_4_2 (t : Nat → TypeId) : uB t 4 2 = true := by kernel_rfl
theorem uc_4_2_0 (t : Nat → TypeId) : allL (u4 t 4 2) (List.range' 0 32) = true := by kernel_rfl
theorem ua_4_3 (t : Nat → TypeId) : uA t 4 3 = true := by kernel_rfl
theorem ub_4_3 (t : Nat → TypeId) : uB t 4 3 = true := by kernel_rfl
theorem uc_4_3_0 (t : Nat → TypeId) : allL (u4 t 4 3) (List.range' 0 40) = true := by kernel_rfl
theorem uc_4_3_1 (t : Nat → TypeId) : allL (u4 t 4 3) (List.range' 40 8) = true := by kernel_rfl
theorem ua_4_4 (t : Nat → TypeId) : uA t 4 4 = true := by kernel_rfl
theorem ub_4_4 (t : Nat → TypeId) : uB t 4 4 = true := by kernel_rfl
theorem uc_4_4_0 (t : Nat → TypeId) : allL (u4 t 4 4) (List.range' 0 40) = true := by kernel_rfl
theorem uc_4_4_1 (t : Nat → TypeId) : allL (u4 t 4 4) (List.range' 40 24) = true := by kernel_rfl
theorem ua_4_5 (t : Nat → TypeId) : uA t 4 5 = true := by kernel_rfl
theorem ub_4_5 (t : Nat → TypeId) : uB t 4 5 = true := by kernel_rfl
theorem uc_4_5_0 (t : Nat → TypeId) : allL (u4 t 4 5) (List.range' 0 40) = true := by kernel_rfl
theorem uc_4_5_1 (t : Nat → TypeId) : allL (u4 t 4 5) (List.range' 40 40) = true := by kernel_rfl
end
theorem iu_4_1 (t : Nat → TypeId) (c e : Int) (h_e : 0 ≤ e ∧ e ≤ 255) : Known Tryz.prog (tabG t) 61 [va [vi 4, vi 1], .agg ⟨[.int .i64 c, .int .u8 e]⟩] (.bool (isUB 4 1 c e)) :=
  isUnit_sheet (ua_4_1 t) (ub_4_1 t) (rng_app (c := 16) (uc_4_1_0 t) (fun i hi => absurd hi (Nat.not_lt_zero i)) rfl) c e h_e
theorem iu_4_2 (t : Nat → TypeId) (c e : Int) (h_e : 0 ≤ e ∧ e ≤ 255) : Known Tryz.prog (tabG t) 61 [va [vi 4, vi 2], .agg ⟨[.int .i64 c, .int .u8 e]⟩] (.bool (isUB 4 2 c e)) :=
  isUnit_sheet (ua_4_2 t) (ub_4_2 t) (rng_app (c := 32) (uc_4_2_0 t) (fun i hi => absurd hi (Nat.not_lt_zero i)) rfl) c e h_e
theorem iu_4_3 (t : Nat → TypeId) (c e : Int) (h_e : 0 ≤ e ∧ e ≤ 255) : Known Tryz.prog (tabG t) 61 [va [vi 4, vi 3], .agg ⟨[.int .i64 c, .int .u8 e]⟩] (.bool (isUB 4 3 c e)) :=
  isUnit_sheet (ua_4_3 t) (ub_4_3 t) (rng_app (c := 48) (uc_4_3_1 t) (rng_app (c := 40) (uc_4_3_0 t) (fun i hi => absurd hi (Nat.not_lt_zero i)) rfl) rfl) c e h_e
theorem iu_4_4 (t : Nat → TypeId) (c e : Int) (h_e : 0 ≤ e ∧ e ≤ 255) : Known Tryz.prog (tabG t) 61 [va [vi 4, vi 4], .agg ⟨[.int .i64 c, .int .u8 e]⟩] (.bool (isUB 4 4 c e)) :=
  isUnit_sheet (ua_4_4 t) (ub_4_4 t) (rng_app (c := 64) (uc_4_4_1 t) (rng_app (c := 40) (uc_4_4_0 t) (fun i hi => absurd hi (Nat.not_lt_zero i)) rfl) rfl) c e h_e
theorem iu_4_5 (t : Nat → TypeId) (c e : Int) (h_e : 0 ≤ e ∧ e ≤ 255) : Known Tryz.prog (tabG t) 61 [va [vi 4, vi 5], .agg ⟨[.int .i64 c, .int .u8 e]⟩] (.bool (isUB 4 5 c e)) :=
  isUnit_sheet (ua_4_5 t) (ub_4_5 t) (rng_app (c := 80) (uc_4_5_1 t) (rng_app (c := 40) (uc_4_5_0 t) (fun i hi => absurd hi (Nat.not_lt_zero i)) rfl) rfl) c e h_e

end Go.Proofs.YtbghfcllicfnpaaGreatDoor
