/-
  Says: isUnit at sheets.
-/
import Derived.Test.YtbghfcllicfnpaaGreatDoorCu
import Derived.KernelRfl
set_option maxRecDepth 1000000
set_option linter.unusedVariables false
set_option linter.unusedSimpArgs false
namespace Go.Proofs.YtbghfcllicfnpaaGreatDoor
open Go Go.Vx
attribute [local instance] anyKeeps
section
attribute [local instance] anySyms
theorem ua_5_1 (t : Nat → TypeId) : uA t 5 1 = true := by kernel_rfl
theorem ub_5_1 (t : Nat → TypeId) : uB t 5 1 = true := by kernel_rfl
theorem uc_5_1_0 (t : Nat → TypeId) : allL (u4 t 5 1) (List.range' 0 20) = true := by kernel_rfl
theorem ua_5_2 (t : Nat → TypeId) : uA t 5 2 = true := by kernel_rfl
theorem ub_5_2 (t : Nat → TypeId) : uB t 5 2 = true := by kernel_rfl
theorem uc_5_2_0 (t : Nat → TypeId) : allL (u4 t 5 2) (List.range' 0 40) = true := by kernel_rfl
theorem ua_5_3 (t : Nat → TypeId) : uA t 5 3 = true := by kernel_rfl
theorem ub_5_3 (t : Nat → TypeId) : uB t 5 3 = true := by kernel_rfl
theorem uc_5_3_0 (t : Nat → TypeId) : allL (u4 t 5 3) (List.range' 0 40) = true := by kernel_rfl
theorem uc_5_3_1 (t : Nat → TypeId) : allL (u4 t 5 3) (List.range' 40 20) = true := by kernel_rfl
theorem ua_5_4 (t : Nat → TypeId) : uA t 5 4 = true := by kernel_rfl
theorem ub_5_4 (t : Nat → TypeId) : uB t 5 4 = true := by kernel_rfl
theorem uc_5_4_0 (t : Nat → TypeId) : allL (u4 t 5 4) (List.range' 0 40) = true := by kernel_rfl
theorem uc_5_4_1 (t : Nat → TypeId) : allL (u4 t 5 4) (List.range' 40 40) = true := by kernel_rfl
theorem ua_5_5 (t : Nat → TypeId) : uA t 5 5 = true := by kernel_rfl
theorem ub_5_5 (t : Nat → TypeId) : uB t 5 5 = true := by kernel_rfl
theorem uc_5_5_0 (t : Nat → TypeId) : allL (u4 t 5 5) (List.range' 0 40) = true := by kernel_rfl
theorem uc_5_5_1 (t : Nat → TypeId) : allL (u4 t 5 5) (List.range' 40 40) = true := by kernel_rfl
theorem uc_5_5_2 (t : Nat → TypeId) : allL (u4 t 5 5) (List.range' 80 20) = true := by kernel_rfl
end
theorem iu_5_1 (t : Nat → TypeId) (c e : Int) (h_e : 0 ≤ e ∧ e ≤ 255) : Known Tryz.prog (tabG t) 61 [va [vi 5, vi 1], .agg ⟨[.int .i64 c, .int .u8 e]⟩] (.bool (isUB 5 1 c e)) :=
  isUnit_sheet (ua_5_1 t) (ub_5_1 t) (rng_app (c := 20) (uc_5_1_0 t) (fun i hi => absurd hi (Nat.not_lt_zero i)) rfl) c e h_e
theorem iu_5_2 (t : Nat → TypeId) (c e : Int) (h_e : 0 ≤ e ∧ e ≤ 255) : Known Tryz.prog (tabG t) 61 [va [vi 5, vi 2], .agg ⟨[.int .i64 c, .int .u8 e]⟩] (.bool (isUB 5 2 c e)) :=
  isUnit_sheet (ua_5_2 t) (ub_5_2 t) (rng_app (c := 40) (uc_5_2_0 t) (fun i hi => absurd hi (Nat.not_lt_zero i)) rfl) c e h_e
theorem iu_5_3 (t : Nat → TypeId) (c e : Int) (h_e : 0 ≤ e ∧ e ≤ 255) : Known Tryz.prog (tabG t) 61 [va [vi 5, vi 3], .agg ⟨[.int .i64 c, .int .u8 e]⟩] (.bool (isUB 5 3 c e)) :=
  isUnit_sheet (ua_5_3 t) (ub_5_3 t) (rng_app (c := 60) (uc_5_3_1 t) (rng_app (c := 40) (uc_5_3_0 t) (fun i hi => absurd hi (Nat.not_lt_zero i)) rfl) rfl) c e h_e
theorem iu_5_4 (t : Nat → TypeId) (c e : Int) (h_e : 0 ≤ e ∧ e ≤ 255) : Known Tryz.prog (tabG t) 61 [va [vi 5, vi 4], .agg ⟨[.int .i64 c, .int .u8 e]⟩] (.bool (isUB 5 4 c e)) :=
  isUnit_sheet (ua_5_4 t) (ub_5_4 t) (rng_app (c := 80) (uc_5_4_1 t) (rng_app (c := 40) (uc_5_4_0 t) (fun i hi => absurd hi (Nat.not_lt_zero i)) rfl) rfl) c e h_e
theorem iu_5_5 (t : Nat → TypeId) (c e : Int) (h_e : 0 ≤ e ∧ e ≤ 255) : Known Tryz.prog (tabG t) 61 [va [vi 5, vi 5], .agg ⟨[.int .i64 c, .int .u8 e]⟩] (.bool (isUB 5 5 c e)) :=
  isUnit_sheet (ua_5_5 t) (ub_5_5 t) (rng_app (c := 100) (uc_5_5_2 t) (rng_app (c := 80) (uc_5_5_1 t) (rng_app (c := 40) (uc_5_5_0 t) (fun i hi => absurd hi (Nat.not_lt_zero i)) rfl) rfl) rfl) c e h_e

end Go.Proofs.YtbghfcllicfnpaaGreatDoor
