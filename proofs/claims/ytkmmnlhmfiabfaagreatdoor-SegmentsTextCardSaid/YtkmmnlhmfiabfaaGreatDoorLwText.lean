/-
  Says: SegmentsText answers true at every input, where the package-level variables stand as they were laid.
-/
import Derived.Test.YtkmmnlhmfiabfaaGreatDoorLwT1
import Derived.Test.YtkmmnlhmfiabfaaGreatDoorLwT2
import Derived.Test.YtkmmnlhmfiabfaaGreatDoorLwT3
import Derived.Test.YtkmmnlhmfiabfaaGreatDoorLv7
import Derived.Test.YtkmmnlhmfiabfaaGreatDoorSg4
import Derived.Test.YtkmmnlhmfiabfaaGreatDoorSg1
import Derived.Test.YtkmmnlhmfiabfaaGreatDoorRfA
import Derived.Deep.RegionHeld3
import Derived.RowKit3
set_option linter.unusedVariables false
set_option linter.unusedSimpArgs false
namespace Go.Proofs.YtkmmnlhmfiabfaaGreatDoor
open Go Go.RowKit

theorem segtext_law (k l c f t : Int) (s : ByteArray) (w : World) (hA : All w) : Calls Tryz.prog 8 #[sg k l c f t, .string s] w fun e w' => e = .returned (.bool true) ∧ Below w.heap.size w w' := by
  by_cases hl : 40 < (s.size : Int)
  · exact stx_long k l c f t s w hl
  have hl' : (s.size : Int) ≤ 40 := by omega
  have hT : ∀ (K L C F T : Int), 1 ≤ K → K ≤ 3 → 1 ≤ L → L ≤ 4 → -4096 ≤ C → C ≤ 4096 → F < T → -4096 ≤ F → T ≤ 4096 → s = ⟨(textS K L C F T).toArray⟩ → ∀ w, Calls Tryz.prog 27 #[sg K L C F T] w fun e w' => e = .returned (.string s) ∧ Below w.heap.size w w' := fun K L C F T p1 p2 p3 p4 p5 p6 p7 p8 p9 e W => by
    rw [e]; exact rt7_ok K L C F T W p1 p2 p3 p4 p5 p6 p7 p8 p9
  by_cases g : 1 ≤ k ∧ k ≤ 3 ∧ 1 ≤ l ∧ l ≤ 4 ∧ -4096 ≤ c ∧ c ≤ 4096 ∧ f < t ∧ -4096 ≤ f ∧ t ≤ 4096
  · obtain ⟨a1, a2, b1, b2, b3, b4, e1, e2, e3⟩ := g
    rcases sparse_split s (by omega) with ⟨K, L, C, F, T, p1, p2, p3, p4, p5, p6, p7, p8, p9, e, hp⟩ | hp
    · exact stx_0A k l c f t s K L C F T w hA a1 a2 b1 b2 b3 b4 e1 e2 e3 hl' p1 p2 p3 p4 p5 p6 p7 p8 p9 (hT K L C F T p1 p2 p3 p4 p5 p6 p7 p8 p9 e) hp
    · exact stx_0B k l c f t s w hA a1 a2 b1 b2 b3 b4 e1 e2 e3 hl' hp
  have HB : Hid (k < 1 ∨ 3 < k ∨ l < 1 ∨ 4 < l ∨ c < -4096 ∨ 4096 < c ∨ t ≤ f ∨ f < -4096 ∨ 4096 < t) := by
    have : k < 1 ∨ 3 < k ∨ l < 1 ∨ 4 < l ∨ c < -4096 ∨ 4096 < c ∨ t ≤ f ∨ f < -4096 ∨ 4096 < t := by omega
    exact this
  have HB2 : k < 1 ∨ 3 < k ∨ l < 1 ∨ 4 < l ∨ c < -4096 ∨ 4096 < c ∨ t ≤ f ∨ f < -4096 ∨ 4096 < t := by omega
  by_cases q1 : k < 1
  · rcases sparse_split s (by omega) with ⟨K, L, C, F, T, p1, p2, p3, p4, p5, p6, p7, p8, p9, e, hp⟩ | hp
    · exact stx_1A k l c f t s K L C F T w hA q1 HB hl' p1 p2 p3 p4 p5 p6 p7 p8 p9 (hT K L C F T p1 p2 p3 p4 p5 p6 p7 p8 p9 e) hp
    · exact stx_1B k l c f t s w hA q1 HB hl' hp
  by_cases q2 : 3 < k
  · rcases sparse_split s (by omega) with ⟨K, L, C, F, T, p1, p2, p3, p4, p5, p6, p7, p8, p9, e, hp⟩ | hp
    · exact stx_2A k l c f t s K L C F T w hA (by omega) q2 HB hl' p1 p2 p3 p4 p5 p6 p7 p8 p9 (hT K L C F T p1 p2 p3 p4 p5 p6 p7 p8 p9 e) hp
    · exact stx_2B k l c f t s w hA (by omega) q2 HB hl' hp
  by_cases q3 : l < 1 ∨ 4 < l ∨ c < -4096 ∨ 4096 < c
  · rcases sparse_split s (by omega) with ⟨K, L, C, F, T, p1, p2, p3, p4, p5, p6, p7, p8, p9, e, hp⟩ | hp
    · exact stx_3A k l c f t s K L C F T w hA (by omega) (by omega) q3 HB hl' p1 p2 p3 p4 p5 p6 p7 p8 p9 (hT K L C F T p1 p2 p3 p4 p5 p6 p7 p8 p9 e) hp
    · exact stx_3B k l c f t s w hA (by omega) (by omega) q3 HB hl' hp
  by_cases q4 : t ≤ f
  · rcases sparse_split s (by omega) with ⟨K, L, C, F, T, p1, p2, p3, p4, p5, p6, p7, p8, p9, e, hp⟩ | hp
    · exact stx_4A k l c f t s K L C F T w hA (by omega) (by omega) (by omega) (by omega) (by omega) (by omega) q4 HB hl' p1 p2 p3 p4 p5 p6 p7 p8 p9 (hT K L C F T p1 p2 p3 p4 p5 p6 p7 p8 p9 e) hp
    · exact stx_4B k l c f t s w hA (by omega) (by omega) (by omega) (by omega) (by omega) (by omega) q4 HB hl' hp
  by_cases q5 : f < -4096
  · rcases sparse_split s (by omega) with ⟨K, L, C, F, T, p1, p2, p3, p4, p5, p6, p7, p8, p9, e, hp⟩ | hp
    · exact stx_5A k l c f t s K L C F T w hA (by omega) (by omega) (by omega) (by omega) (by omega) (by omega) (by omega) q5 HB hl' p1 p2 p3 p4 p5 p6 p7 p8 p9 (hT K L C F T p1 p2 p3 p4 p5 p6 p7 p8 p9 e) hp
    · exact stx_5B k l c f t s w hA (by omega) (by omega) (by omega) (by omega) (by omega) (by omega) (by omega) q5 HB hl' hp
  rcases sparse_split s (by omega) with ⟨K, L, C, F, T, p1, p2, p3, p4, p5, p6, p7, p8, p9, e, hp⟩ | hp
  · exact stx_6A k l c f t s K L C F T w hA (by omega) (by omega) (by omega) (by omega) (by omega) (by omega) (by omega) (by omega) (by omega) HB hl' p1 p2 p3 p4 p5 p6 p7 p8 p9 (hT K L C F T p1 p2 p3 p4 p5 p6 p7 p8 p9 e) hp
  · exact stx_6B k l c f t s w hA (by omega) (by omega) (by omega) (by omega) (by omega) (by omega) (by omega) (by omega) (by omega) HB hl' hp

end Go.Proofs.YtkmmnlhmfiabfaaGreatDoor
