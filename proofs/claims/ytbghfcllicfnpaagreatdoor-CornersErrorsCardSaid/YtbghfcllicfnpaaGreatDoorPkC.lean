/-
  Says: what the functions of patterns.Check return.
-/
import Derived.Test.YtbghfcllicfnpaaGreatDoorKC1
import Derived.Test.YtbghfcllicfnpaaGreatDoorCuA
import Derived.Test.YtbghfcllicfnpaaGreatDoorKl
import Derived.KernelRfl
set_option linter.unusedVariables false
set_option linter.unusedSimpArgs false
namespace Go.Proofs.YtbghfcllicfnpaaGreatDoor
open Go Go.RowKit

open Go.Vx
section
attribute [local instance] anySyms
noncomputable def rSC (t : Nat → TypeId) (p : Nat × Nat) : Bool := isVal (vi 0) (@run (tabPrims [] []) Tryz.prog (orElse (valOrc (fun _ => false) (tabG t) (ansT [])) (noOrc (tabG t))) 1000000 (.call 52 [va [vi p.1, vi p.2]] (tabG t)))
noncomputable def rVA (t : Nat → TypeId) (p : Nat × Nat) : Bool := isVal (vi 1) (@run (tabPrims [] []) Tryz.prog (orElse (valOrc (fun _ => false) (tabG t) (ansT [])) (noOrc (tabG t))) 1000000 (.call 28 [va [vi p.1, vi p.2]] (tabG t)))
def all25 : List (Nat × Nat) := [(1, 1), (1, 2), (1, 3), (1, 4), (1, 5), (2, 1), (2, 2), (2, 3), (2, 4), (2, 5), (3, 1), (3, 2), (3, 3), (3, 4), (3, 5), (4, 1), (4, 2), (4, 3), (4, 4), (4, 5), (5, 1), (5, 2), (5, 3), (5, 4), (5, 5)]
theorem rSC_ok (t : Nat → TypeId) : allL (rSC t) all25 = true := by kernel_rfl
theorem rVA_ok (t : Nat → TypeId) : allL (rVA t) all25 = true := by kernel_rfl
end
theorem any25 : ∀ w < 6, ∀ h < 6, 1 ≤ w → 1 ≤ h → (all25.any fun p => p.1 == w && p.2 == h) = true := by decide +kernel
theorem mem25 : ∀ w < 6, ∀ h < 6, 1 ≤ w → 1 ≤ h → (w, h) ∈ all25 := fun i hi j hj a b => by
  obtain ⟨⟨p, q⟩, h1, h2⟩ := List.any_eq_true.1 (any25 i hi j hj a b)
  simp at h2
  rw [← h2.1, ← h2.2]
  exact h1
attribute [local instance] anyKeeps
section
variable {w h : Nat} (h1 : 1 ≤ w) (h2 : w ≤ 5) (h3 : 1 ≤ h) (h4 : h ≤ 5)
include h1 h2 h3 h4
theorem kSC (t : Nat → TypeId) : Known Tryz.prog (tabG t) 52 [va [vi w, vi h]] (vi 0) := by
  have hr := allU_of (rSC_ok t) (w, h) (mem25 w (by omega) h (by omega) h1 h3)
  exact path_more (ρ := ofInts []) (tabs_G t) (size_V t) (floor_V t) (ofInts_plain _) (bt := []) (ct := []) trivial trivial (el := []) trivial (Q2 := noOrc (tabG t)) (hQ2 := nothing_known (base_G t)) (args := [va [vi w, vi h]]) (v := vi 0) rfl rfl (by kernel_rfl) hr
theorem kVA (t : Nat → TypeId) : Known Tryz.prog (tabG t) 28 [va [vi w, vi h]] (vi 1) := by
  have hr := allU_of (rVA_ok t) (w, h) (mem25 w (by omega) h (by omega) h1 h3)
  exact path_more (ρ := ofInts []) (tabs_G t) (size_V t) (floor_V t) (ofInts_plain _) (bt := []) (ct := []) trivial trivial (el := []) trivial (Q2 := noOrc (tabG t)) (hQ2 := nothing_known (base_G t)) (args := [va [vi w, vi h]]) (v := vi 1) rfl rfl (by kernel_rfl) hr
theorem scheck_ok (W : World) (hL : Lay W) : Calls Tryz.prog 52 #[.agg #[.int .i64 (w : Int), .int .i64 (h : Int)]] W fun e W' => e = .returned (.int .i64 0) ∧ Below W.heap.size W W' := by
  haveI := anySyms
  exact (kSC h1 h2 h3 h4 (typ W)).calls (lies_G hL)
theorem valid_ok (W : World) (hL : Lay W) : Calls Tryz.prog 28 #[.agg #[.int .i64 (w : Int), .int .i64 (h : Int)]] W fun e W' => e = .returned (.int .i64 1) ∧ Below W.heap.size W W' := by
  haveI := anySyms
  exact (kVA h1 h2 h3 h4 (typ W)).calls (lies_G hL)
theorem isUnit_ok (c e : Int) (he : 0 ≤ e ∧ e ≤ 255) (b : Bool) (hb : isUB w h c e = b) (W : World) (hL : Lay W) : Calls Tryz.prog 61 #[.agg #[.int .i64 (w : Int), .int .i64 (h : Int)], .agg #[.int .i64 c, .int .u8 e]] W fun r W' => r = .returned (.bool b) ∧ Below W.heap.size W W' := by
  haveI := anySyms
  subst hb
  exact (isUnit_any (typ W) h1 h2 h3 h4 c e he).calls (lies_G hL)
end
theorem isKind_ok (k : Int) (hk : 0 ≤ k ∧ k ≤ 255) (b : Bool) (hb : decide (1 ≤ k ∧ k ≤ 3) = b) (W : World) (hL : Lay W) : Calls Tryz.prog 60 #[.int .u8 k] W fun r W' => r = .returned (.bool b) ∧ Below W.heap.size W W' := by
  haveI := anySyms
  have h := (s60 (typ W) k hk).calls (lies_G hL)
  have e : F60 k = .bool b := by
    subst hb
    unfold F60
    by_cases h1 : k < 1
    · rw [lt_tt h1]
      simp
      omega
    · rw [lt_ff (by omega)]
      by_cases h3 : 3 < k
      · rw [lt_tt h3]
        simp
        omega
      · rw [lt_ff (by omega)]
        simp
        omega
  rw [e] at h
  exact h
theorem unitOf_ok (c e k : Int) (he : 0 ≤ e ∧ e ≤ 255) (hk : 0 ≤ k ∧ k ≤ 255) (W : World) (hL : Lay W) : Calls Tryz.prog 46 #[.agg #[.int .i64 c, .int .u8 e, .int .u8 k]] W fun r W' => r = .returned (.agg #[.int .i64 c, .int .u8 e]) ∧ Below W.heap.size W W' := by
  haveI := anySyms
  exact (s46 (typ W) c e k he hk).calls (lies_G hL)
/-- The order of units. -/
def cmpU (c e x y : Int) : Int := if c < x ∨ c = x ∧ e < y then -1 else if c = x ∧ e = y then 0 else 1
theorem compare_ok (c e x y : Int) (he : 0 ≤ e ∧ e ≤ 255) (hy : 0 ≤ y ∧ y ≤ 255) (v : Int) (hv : cmpU c e x y = v) (W : World) (hL : Lay W) : Calls Tryz.prog 50 #[.agg #[.int .i64 c, .int .u8 e], .agg #[.int .i64 x, .int .u8 y]] W fun r W' => r = .returned (.int .i64 v) ∧ Below W.heap.size W W' := by
  haveI := anySyms
  have h := (s50 (typ W) c e x y he hy).calls (lies_G hL)
  have e : F50 c e x y = .int .i64 v := by
    subst hv
    unfold F50 cmpU
    have z1 : ltI c x = decide (c < x) := ltI_eq ..
    have z2 : ltI x c = decide (x < c) := ltI_eq ..
    have z3 : ltI e y = decide (e < y) := ltI_eq ..
    have z4 : ltI y e = decide (y < e) := ltI_eq ..
    rw [z1, z2, z3, z4]
    by_cases a1 : c < x
    · have a2 : ¬ x < c := by omega
      by_cases a3 : e < y <;> by_cases a4 : y < e <;> simp [a1, a2, a3, a4]
    · by_cases a2 : x < c
      · have a5 : ¬ c = x := by omega
        by_cases a3 : e < y <;> by_cases a4 : y < e <;> simp [a1, a2, a3, a4, a5]
      · have a5 : c = x := by omega
        subst a5
        by_cases a3 : e < y
        · have a4 : ¬ y < e := by omega
          simp [a3, a4]
        · by_cases a4 : y < e
          · have a6 : ¬ e = y := by omega
            simp [a3, a4, a6]
          · have a6 : e = y := by omega
            simp [a6]
  rw [e] at h
  exact h

end Go.Proofs.YtbghfcllicfnpaaGreatDoor
