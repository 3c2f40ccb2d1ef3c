/-
  Says: valid sheets, for any two numbers.
-/
import Derived.Test.YtbghfcllicfnpaaGreatDoorPkC
import Derived.Test.YtbghfcllicfnpaaGreatDoorKl
import Derived.KernelRfl
set_option linter.unusedVariables false
set_option linter.unusedSimpArgs false
namespace Go.Proofs.YtbghfcllicfnpaaGreatDoor
open Go Go.RowKit

open Go.Vx
section
attribute [local instance] anySyms
theorem rv0 (t : Nat → TypeId) : isVal (vi 0) (@run (tabPrims [(13, vy 0, vi 1, vt)] []) Tryz.prog (orElse (valOrc (fun _ => false) (tabG t) (ansT [])) (noOrc (tabG t))) 1000000 (.call 28 [va [vy 0, vy 1]] (tabG t))) = true := by kernel_rfl
theorem rv1 (t : Nat → TypeId) : isVal (vi 0) (@run (tabPrims [(13, vy 0, vi 1, vf), (13, vy 1, vi 1, vt)] []) Tryz.prog (orElse (valOrc (fun _ => false) (tabG t) (ansT [])) (noOrc (tabG t))) 1000000 (.call 28 [va [vy 0, vy 1]] (tabG t))) = true := by kernel_rfl
theorem rv2 (t : Nat → TypeId) : isVal (vi 0) (@run (tabPrims [(13, vy 0, vi 1, vf), (13, vy 1, vi 1, vf), (15, vy 0, vi 256, vt)] []) Tryz.prog (orElse (valOrc (fun _ => false) (tabG t) (ansT [])) (noOrc (tabG t))) 1000000 (.call 28 [va [vy 0, vy 1]] (tabG t))) = true := by kernel_rfl
theorem rv3 (t : Nat → TypeId) : isVal (vi 0) (@run (tabPrims [(13, vy 0, vi 1, vf), (13, vy 1, vi 1, vf), (15, vy 0, vi 256, vf), (15, vy 1, vi 256, vt)] []) Tryz.prog (orElse (valOrc (fun _ => false) (tabG t) (ansT [])) (noOrc (tabG t))) 1000000 (.call 28 [va [vy 0, vy 1]] (tabG t))) = true := by kernel_rfl
theorem rv4 (t : Nat → TypeId) : isVal (vi 0) (@run (tabPrims [(13, vy 0, vi 1, vf), (13, vy 1, vi 1, vf), (15, vy 0, vi 256, vf), (15, vy 1, vi 256, vf), (2, vy 0, vy 1, vy 2), (15, vy 2, vi 256, vt)] []) Tryz.prog (orElse (valOrc (fun _ => false) (tabG t) (ansT [])) (noOrc (tabG t))) 1000000 (.call 28 [va [vy 0, vy 1]] (tabG t))) = true := by kernel_rfl
theorem rv5 (t : Nat → TypeId) : isVal (vi 1) (@run (tabPrims [(13, vy 0, vi 1, vf), (13, vy 1, vi 1, vf), (15, vy 0, vi 256, vf), (15, vy 1, vi 256, vf), (2, vy 0, vy 1, vy 2), (15, vy 2, vi 256, vf)] []) Tryz.prog (orElse (valOrc (fun _ => false) (tabG t) (ansT [])) (noOrc (tabG t))) 1000000 (.call 28 [va [vy 0, vy 1]] (tabG t))) = true := by kernel_rfl
theorem rc0 (t : Nat → TypeId) : isVal (vi 1) (@run (tabPrims [(13, vy 0, vi 1, vt)] []) Tryz.prog (orElse (valOrc (fun _ => false) (tabG t) (ansT [])) (noOrc (tabG t))) 1000000 (.call 52 [va [vy 0, vy 1]] (tabG t))) = true := by kernel_rfl
theorem rc1 (t : Nat → TypeId) : isVal (vi 1) (@run (tabPrims [(13, vy 0, vi 1, vf), (13, vy 1, vi 1, vt)] []) Tryz.prog (orElse (valOrc (fun _ => false) (tabG t) (ansT [])) (noOrc (tabG t))) 1000000 (.call 52 [va [vy 0, vy 1]] (tabG t))) = true := by kernel_rfl
theorem rc2 (t : Nat → TypeId) : isVal (vi 1) (@run (tabPrims [(13, vy 0, vi 1, vf), (13, vy 1, vi 1, vf), (3, vi 256, vy 0, vy 2), (15, vy 1, vy 2, vt)] []) Tryz.prog (orElse (valOrc (fun _ => false) (tabG t) (ansT [])) (noOrc (tabG t))) 1000000 (.call 52 [va [vy 0, vy 1]] (tabG t))) = true := by kernel_rfl
theorem rc3 (t : Nat → TypeId) : isVal (vi 0) (@run (tabPrims [(13, vy 0, vi 1, vf), (13, vy 1, vi 1, vf), (3, vi 256, vy 0, vy 2), (15, vy 1, vy 2, vf)] []) Tryz.prog (orElse (valOrc (fun _ => false) (tabG t) (ansT [])) (noOrc (tabG t))) 1000000 (.call 52 [va [vy 0, vy 1]] (tabG t))) = true := by kernel_rfl
end
attribute [local instance] anyKeeps
/-- A valid sheet. -/
def OkS (W H : Int) : Prop := 1 ≤ W ∧ 1 ≤ H ∧ W ≤ 256 ∧ H ≤ 256 ∧ W * H ≤ 256
theorem okS_iff {W H : Int} (h1 : 1 ≤ W) (h2 : 1 ≤ H) : OkS W H ↔ H ≤ 256 / W := by
  rw [Int.le_ediv_iff_mul_le (by omega)]
  unfold OkS
  have e : H * W = W * H := Int.mul_comm ..
  constructor
  · intro h
    omega
  · intro h
    rw [e] at h
    have a1 : W * 1 ≤ W * H := Int.mul_le_mul_of_nonneg_left h2 (by omega)
    have a2 : 1 * H ≤ W * H := Int.mul_le_mul_of_nonneg_right h1 (by omega)
    omega
theorem kVno (t : Nat → TypeId) (W H : Int) (h : ¬ OkS W H) : Known Tryz.prog (tabG t) 28 [.agg ⟨[.int .i64 W, .int .i64 H]⟩] (vi 0) := by
  by_cases a1 : W < 1
  · exact path_more (ρ := ofInts [(.i64, W), (.i64, H)]) (tabs_G t) (size_V t) (floor_V t) (ofInts_plain _) (bt := [(13, vy 0, vi 1, vt)]) (ct := []) ⟨bh_lss (a := W) (b := 1) rfl rfl rfl rfl (lt_tt (by omega)), trivial⟩ trivial (el := []) trivial (Q2 := noOrc (tabG t)) (hQ2 := nothing_known (base_G t)) (args := [va [vy 0, vy 1]]) (v := vi 0) rfl rfl (by kernel_rfl) (rv0 t)
  by_cases a2 : H < 1
  · exact path_more (ρ := ofInts [(.i64, W), (.i64, H)]) (tabs_G t) (size_V t) (floor_V t) (ofInts_plain _) (bt := [(13, vy 0, vi 1, vf), (13, vy 1, vi 1, vt)]) (ct := []) ⟨bh_lss (a := W) (b := 1) rfl rfl rfl rfl (lt_ff (by omega)), bh_lss (a := H) (b := 1) rfl rfl rfl rfl (lt_tt (by omega)), trivial⟩ trivial (el := []) trivial (Q2 := noOrc (tabG t)) (hQ2 := nothing_known (base_G t)) (args := [va [vy 0, vy 1]]) (v := vi 0) rfl rfl (by kernel_rfl) (rv1 t)
  by_cases a3 : 256 < W
  · exact path_more (ρ := ofInts [(.i64, W), (.i64, H)]) (tabs_G t) (size_V t) (floor_V t) (ofInts_plain _) (bt := [(13, vy 0, vi 1, vf), (13, vy 1, vi 1, vf), (15, vy 0, vi 256, vt)]) (ct := []) ⟨bh_lss (a := W) (b := 1) rfl rfl rfl rfl (lt_ff (by omega)), bh_lss (a := H) (b := 1) rfl rfl rfl rfl (lt_ff (by omega)), bh_gtr (a := W) (b := 256) rfl rfl rfl rfl (lt_tt (by omega)), trivial⟩ trivial (el := []) trivial (Q2 := noOrc (tabG t)) (hQ2 := nothing_known (base_G t)) (args := [va [vy 0, vy 1]]) (v := vi 0) rfl rfl (by kernel_rfl) (rv2 t)
  by_cases a4 : 256 < H
  · exact path_more (ρ := ofInts [(.i64, W), (.i64, H)]) (tabs_G t) (size_V t) (floor_V t) (ofInts_plain _) (bt := [(13, vy 0, vi 1, vf), (13, vy 1, vi 1, vf), (15, vy 0, vi 256, vf), (15, vy 1, vi 256, vt)]) (ct := []) ⟨bh_lss (a := W) (b := 1) rfl rfl rfl rfl (lt_ff (by omega)), bh_lss (a := H) (b := 1) rfl rfl rfl rfl (lt_ff (by omega)), bh_gtr (a := W) (b := 256) rfl rfl rfl rfl (lt_ff (by omega)), bh_gtr (a := H) (b := 256) rfl rfl rfl rfl (lt_tt (by omega)), trivial⟩ trivial (el := []) trivial (Q2 := noOrc (tabG t)) (hQ2 := nothing_known (base_G t)) (args := [va [vy 0, vy 1]]) (v := vi 0) rfl rfl (by kernel_rfl) (rv3 t)
  have a5 : ¬ W * H ≤ 256 := fun a5 => h ⟨by omega, by omega, by omega, by omega, a5⟩
  have a6 : W * H ≤ 256 * H := Int.mul_le_mul_of_nonneg_right (by omega) (by omega)
  exact path_more (ρ := ofInts [(.i64, W), (.i64, H), (.i64, W * H)]) (tabs_G t) (size_V t) (floor_V t) (ofInts_plain _) (bt := [(13, vy 0, vi 1, vf), (13, vy 1, vi 1, vf), (15, vy 0, vi 256, vf), (15, vy 1, vi 256, vf), (2, vy 0, vy 1, vy 2), (15, vy 2, vi 256, vt)]) (ct := []) ⟨bh_lss (a := W) (b := 1) rfl rfl rfl rfl (lt_ff (by omega)), bh_lss (a := H) (b := 1) rfl rfl rfl rfl (lt_ff (by omega)), bh_gtr (a := W) (b := 256) rfl rfl rfl rfl (lt_ff (by omega)), bh_gtr (a := H) (b := 256) rfl rfl rfl rfl (lt_ff (by omega)), b6_mul (a := W) (b := H) (c := W * H) rfl rfl rfl rfl rfl rfl rfl (by omega) (by omega), bh_gtr (a := W * H) (b := 256) rfl rfl rfl rfl (lt_tt (by omega)), trivial⟩ trivial (el := []) trivial (Q2 := noOrc (tabG t)) (hQ2 := nothing_known (base_G t)) (args := [va [vy 0, vy 1]]) (v := vi 0) rfl rfl (by kernel_rfl) (rv4 t)
theorem kVok (t : Nat → TypeId) (W H : Int) (h : OkS W H) : Known Tryz.prog (tabG t) 28 [.agg ⟨[.int .i64 W, .int .i64 H]⟩] (vi 1) := by
  obtain ⟨a1, a2, a3, a4, a5⟩ := h
  have a6 : W * 1 ≤ W * H := Int.mul_le_mul_of_nonneg_left a2 (by omega)
  exact path_more (ρ := ofInts [(.i64, W), (.i64, H), (.i64, W * H)]) (tabs_G t) (size_V t) (floor_V t) (ofInts_plain _) (bt := [(13, vy 0, vi 1, vf), (13, vy 1, vi 1, vf), (15, vy 0, vi 256, vf), (15, vy 1, vi 256, vf), (2, vy 0, vy 1, vy 2), (15, vy 2, vi 256, vf)]) (ct := []) ⟨bh_lss (a := W) (b := 1) rfl rfl rfl rfl (lt_ff (by omega)), bh_lss (a := H) (b := 1) rfl rfl rfl rfl (lt_ff (by omega)), bh_gtr (a := W) (b := 256) rfl rfl rfl rfl (lt_ff (by omega)), bh_gtr (a := H) (b := 256) rfl rfl rfl rfl (lt_ff (by omega)), b6_mul (a := W) (b := H) (c := W * H) rfl rfl rfl rfl rfl rfl rfl (by omega) (by omega), bh_gtr (a := W * H) (b := 256) rfl rfl rfl rfl (lt_ff (by omega)), trivial⟩ trivial (el := []) trivial (Q2 := noOrc (tabG t)) (hQ2 := nothing_known (base_G t)) (args := [va [vy 0, vy 1]]) (v := vi 1) rfl rfl (by kernel_rfl) (rv5 t)
theorem kCno (t : Nat → TypeId) (W H : Int) (h : ¬ OkS W H) : Known Tryz.prog (tabG t) 52 [.agg ⟨[.int .i64 W, .int .i64 H]⟩] (vi 1) := by
  by_cases a1 : W < 1
  · exact path_more (ρ := ofInts [(.i64, W), (.i64, H)]) (tabs_G t) (size_V t) (floor_V t) (ofInts_plain _) (bt := [(13, vy 0, vi 1, vt)]) (ct := []) ⟨bh_lss (a := W) (b := 1) rfl rfl rfl rfl (lt_tt (by omega)), trivial⟩ trivial (el := []) trivial (Q2 := noOrc (tabG t)) (hQ2 := nothing_known (base_G t)) (args := [va [vy 0, vy 1]]) (v := vi 1) rfl rfl (by kernel_rfl) (rc0 t)
  by_cases a2 : H < 1
  · exact path_more (ρ := ofInts [(.i64, W), (.i64, H)]) (tabs_G t) (size_V t) (floor_V t) (ofInts_plain _) (bt := [(13, vy 0, vi 1, vf), (13, vy 1, vi 1, vt)]) (ct := []) ⟨bh_lss (a := W) (b := 1) rfl rfl rfl rfl (lt_ff (by omega)), bh_lss (a := H) (b := 1) rfl rfl rfl rfl (lt_tt (by omega)), trivial⟩ trivial (el := []) trivial (Q2 := noOrc (tabG t)) (hQ2 := nothing_known (base_G t)) (args := [va [vy 0, vy 1]]) (v := vi 1) rfl rfl (by kernel_rfl) (rc1 t)
  have a3 : ¬ H ≤ 256 / W := fun a3 => h ((okS_iff (by omega) (by omega)).2 a3)
  exact path_more (ρ := ofInts [(.i64, W), (.i64, H), (.i64, 256 / W)]) (tabs_G t) (size_V t) (floor_V t) (ofInts_plain _) (bt := [(13, vy 0, vi 1, vf), (13, vy 1, vi 1, vf), (3, vi 256, vy 0, vy 2), (15, vy 1, vy 2, vt)]) (ct := []) ⟨bh_lss (a := W) (b := 1) rfl rfl rfl rfl (lt_ff (by omega)), bh_lss (a := H) (b := 1) rfl rfl rfl rfl (lt_ff (by omega)), b6_quo (a := 256) (b := W) (c := 256 / W) rfl rfl rfl rfl rfl (by omega) (by omega) (by omega) rfl rfl, bh_gtr (a := H) (b := 256 / W) rfl rfl rfl rfl (lt_tt (by omega)), trivial⟩ trivial (el := []) trivial (Q2 := noOrc (tabG t)) (hQ2 := nothing_known (base_G t)) (args := [va [vy 0, vy 1]]) (v := vi 1) rfl rfl (by kernel_rfl) (rc2 t)
theorem kCok (t : Nat → TypeId) (W H : Int) (h : OkS W H) : Known Tryz.prog (tabG t) 52 [.agg ⟨[.int .i64 W, .int .i64 H]⟩] (vi 0) := by
  have a3 := (okS_iff h.1 h.2.1).1 h
  obtain ⟨a1, a2, _⟩ := h
  exact path_more (ρ := ofInts [(.i64, W), (.i64, H), (.i64, 256 / W)]) (tabs_G t) (size_V t) (floor_V t) (ofInts_plain _) (bt := [(13, vy 0, vi 1, vf), (13, vy 1, vi 1, vf), (3, vi 256, vy 0, vy 2), (15, vy 1, vy 2, vf)]) (ct := []) ⟨bh_lss (a := W) (b := 1) rfl rfl rfl rfl (lt_ff (by omega)), bh_lss (a := H) (b := 1) rfl rfl rfl rfl (lt_ff (by omega)), b6_quo (a := 256) (b := W) (c := 256 / W) rfl rfl rfl rfl rfl (by omega) (by omega) (by omega) rfl rfl, bh_gtr (a := H) (b := 256 / W) rfl rfl rfl rfl (lt_ff (by omega)), trivial⟩ trivial (el := []) trivial (Q2 := noOrc (tabG t)) (hQ2 := nothing_known (base_G t)) (args := [va [vy 0, vy 1]]) (v := vi 0) rfl rfl (by kernel_rfl) (rc3 t)
theorem valid_no (W H : Int) (h : ¬ OkS W H) (V : World) (hL : Lay V) : Calls Tryz.prog 28 #[.agg #[.int .i64 W, .int .i64 H]] V fun e V' => e = .returned (.int .i64 0) ∧ Below V.heap.size V V' := by
  haveI := anySyms
  exact (kVno (typ V) W H h).calls (lies_G hL)
theorem valid_yes (W H : Int) (h : OkS W H) (V : World) (hL : Lay V) : Calls Tryz.prog 28 #[.agg #[.int .i64 W, .int .i64 H]] V fun e V' => e = .returned (.int .i64 1) ∧ Below V.heap.size V V' := by
  haveI := anySyms
  exact (kVok (typ V) W H h).calls (lies_G hL)
theorem scheck_no (W H : Int) (h : ¬ OkS W H) (V : World) (hL : Lay V) : Calls Tryz.prog 52 #[.agg #[.int .i64 W, .int .i64 H]] V fun e V' => e = .returned (.int .i64 1) ∧ Below V.heap.size V V' := by
  haveI := anySyms
  exact (kCno (typ V) W H h).calls (lies_G hL)
theorem scheck_yes (W H : Int) (h : OkS W H) (V : World) (hL : Lay V) : Calls Tryz.prog 52 #[.agg #[.int .i64 W, .int .i64 H]] V fun e V' => e = .returned (.int .i64 0) ∧ Below V.heap.size V V' := by
  haveI := anySyms
  exact (kCok (typ V) W H h).calls (lies_G hL)
theorem okS_small {a b : Nat} (h1 : 1 ≤ a) (h2 : a ≤ 5) (h3 : 1 ≤ b) (h4 : b ≤ 5) : OkS (a : Int) (b : Int) := by
  have : a * b ≤ 5 * 5 := Nat.mul_le_mul h2 h4
  have e : ((a : Int) * (b : Int)) = ((a * b : Nat) : Int) := by simp
  refine ⟨by omega, by omega, by omega, by omega, ?_⟩
  rw [e]
  omega

end Go.Proofs.YtbghfcllicfnpaaGreatDoor
