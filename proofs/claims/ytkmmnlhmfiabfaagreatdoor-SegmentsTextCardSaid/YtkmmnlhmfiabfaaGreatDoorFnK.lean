/-
  Says: which kind kindOf finds for a letter.
-/
import Derived.Test.YtkmmnlhmfiabfaaGreatDoorFnX
import Derived.Test.YtkmmnlhmfiabfaaGreatDoorFnT
set_option linter.unusedVariables false
set_option linter.unusedSimpArgs false
namespace Go.Proofs.YtkmmnlhmfiabfaaGreatDoor
open Go Go.RowKit

/-- The kind that has a letter, or 0. -/
def kindR (r : Int) : Int := if r = 120 then 1 else if r = 121 then 2 else if r = 117 then 3 else if r = 100 then 4 else 0
def letN (k : Int) : Int := if k = 1 then 120 else if k = 2 then 121 else if k = 3 then 117 else 100
/-- Where the search stands: none of the kinds below k has the letter r. -/
def Seek (r k : Int) : Prop := 1 ≤ k ∧ k ≤ 5 ∧ (1 < k → r ≠ 120) ∧ (2 < k → r ≠ 121) ∧ (3 < k → r ≠ 117) ∧ (4 < k → r ≠ 100)
set_option maxHeartbeats 1600000 in
theorem kindOf_any (r : Int) (w : World) : Calls Tryz.prog 155 #[.int .i32 r] w fun e w' => e = .returned (.int .u8 (kindR r)) ∧ Below w.heap.size w w' := by
  go_enter Tryz.func155, Tryz.ntmps155
  go_wp2
  go_loopw [3] (fun k wr => ∃ kk : Int, k = .int .u8 kk ∧ Seek r kk ∧ Below w.heap.size w wr) (fun k _ => (5 - intOf k).toNat)
  case atStart => exact ⟨1, rfl, by unfold Seek; omega, Below.refl _ _⟩
  case round =>
    obtain ⟨kk, rfl, hs, hb⟩ := hrel
    have HS : Hid (Seek r kk) := hs
    have hk1 := hs.1
    have hk2 := hs.2.1
    clear hs
    obtain rfl | rfl | rfl | rfl | rfl : kk = 1 ∨ kk = 2 ∨ kk = 3 ∨ kk = 4 ∨ kk = 5 := by omega
    · clear hk1 hk2
      by_cases hr : r = 120
      · subst hr
        go_wp2_with (first | (go_at_call 83; refine (kind_yes _ _ (by omega) (by omega)).mono ?_; rintro e w0 ⟨rfl, rfl⟩) | (go_at_call 81; refine (way_1 _).mono ?_; rintro e w3 ⟨rfl, hb3⟩; obtain ⟨u3, rfl⟩ := after hb3; clear hb3))
        go_ret
        exact ⟨rfl, below_on hb u3⟩
      · have he : ((120 : Int) == r) = false := by simpa using Ne.symm hr
        have HR : Hid (r ≠ 120) := hr
        clear hr
        go_wp2_with (first | (go_at_call 83; refine (kind_yes _ _ (by omega) (by omega)).mono ?_; rintro e w0 ⟨rfl, rfl⟩) | (go_at_call 81; refine (way_1 _).mono ?_; rintro e w3 ⟨rfl, hb3⟩; obtain ⟨u3, rfl⟩ := after hb3; clear hb3))
        go_roundw
        case rel => exact ⟨1 + 1, rfl, by have h1 := HS.out; have h2 := HR.out; unfold Seek at h1 ⊢; omega, below_on hb u3⟩
        case measure => simp [intOf]
    · clear hk1 hk2
      by_cases hr : r = 121
      · subst hr
        go_wp2_with (first | (go_at_call 83; refine (kind_yes _ _ (by omega) (by omega)).mono ?_; rintro e w0 ⟨rfl, rfl⟩) | (go_at_call 81; refine (way_2 _).mono ?_; rintro e w3 ⟨rfl, hb3⟩; obtain ⟨u3, rfl⟩ := after hb3; clear hb3))
        go_ret
        exact ⟨rfl, below_on hb u3⟩
      · have he : ((121 : Int) == r) = false := by simpa using Ne.symm hr
        have HR : Hid (r ≠ 121) := hr
        clear hr
        go_wp2_with (first | (go_at_call 83; refine (kind_yes _ _ (by omega) (by omega)).mono ?_; rintro e w0 ⟨rfl, rfl⟩) | (go_at_call 81; refine (way_2 _).mono ?_; rintro e w3 ⟨rfl, hb3⟩; obtain ⟨u3, rfl⟩ := after hb3; clear hb3))
        go_roundw
        case rel => exact ⟨2 + 1, rfl, by have h1 := HS.out; have h2 := HR.out; unfold Seek at h1 ⊢; omega, below_on hb u3⟩
        case measure => simp [intOf]
    · clear hk1 hk2
      by_cases hr : r = 117
      · subst hr
        go_wp2_with (first | (go_at_call 83; refine (kind_yes _ _ (by omega) (by omega)).mono ?_; rintro e w0 ⟨rfl, rfl⟩) | (go_at_call 81; refine (way_3 _).mono ?_; rintro e w3 ⟨rfl, hb3⟩; obtain ⟨u3, rfl⟩ := after hb3; clear hb3))
        go_ret
        exact ⟨rfl, below_on hb u3⟩
      · have he : ((117 : Int) == r) = false := by simpa using Ne.symm hr
        have HR : Hid (r ≠ 117) := hr
        clear hr
        go_wp2_with (first | (go_at_call 83; refine (kind_yes _ _ (by omega) (by omega)).mono ?_; rintro e w0 ⟨rfl, rfl⟩) | (go_at_call 81; refine (way_3 _).mono ?_; rintro e w3 ⟨rfl, hb3⟩; obtain ⟨u3, rfl⟩ := after hb3; clear hb3))
        go_roundw
        case rel => exact ⟨3 + 1, rfl, by have h1 := HS.out; have h2 := HR.out; unfold Seek at h1 ⊢; omega, below_on hb u3⟩
        case measure => simp [intOf]
    · clear hk1 hk2
      by_cases hr : r = 100
      · subst hr
        go_wp2_with (first | (go_at_call 83; refine (kind_yes _ _ (by omega) (by omega)).mono ?_; rintro e w0 ⟨rfl, rfl⟩) | (go_at_call 81; refine (way_4 _).mono ?_; rintro e w3 ⟨rfl, hb3⟩; obtain ⟨u3, rfl⟩ := after hb3; clear hb3))
        go_ret
        exact ⟨rfl, below_on hb u3⟩
      · have he : ((100 : Int) == r) = false := by simpa using Ne.symm hr
        have HR : Hid (r ≠ 100) := hr
        clear hr
        go_wp2_with (first | (go_at_call 83; refine (kind_yes _ _ (by omega) (by omega)).mono ?_; rintro e w0 ⟨rfl, rfl⟩) | (go_at_call 81; refine (way_4 _).mono ?_; rintro e w3 ⟨rfl, hb3⟩; obtain ⟨u3, rfl⟩ := after hb3; clear hb3))
        go_roundw
        case rel => exact ⟨4 + 1, rfl, by have h1 := HS.out; have h2 := HR.out; unfold Seek at h1 ⊢; omega, below_on hb u3⟩
        case measure => simp [intOf]
    · have HZ : Hid (kindR r = 0) := by
        have h1 := HS.out
        unfold Seek at h1
        show kindR r = 0
        unfold kindR
        rw [if_neg (by omega), if_neg (by omega), if_neg (by omega), if_neg (by omega)]
      clear hk1 hk2
      go_wp2_with (go_at_call 83; refine (kind_no _ _ (by omega)).mono ?_; rintro e w0 ⟨rfl, rfl⟩)
      go_ret
      exact ⟨by rw [HZ.out]; rfl, hb⟩

end Go.Proofs.YtkmmnlhmfiabfaaGreatDoor
