/-
  Says: LinesThrough answers true at every kind and every point, where the librarys table stands as it was laid.
-/
import Derived.Test.YtbcmfenekpllhaaDoorLwThr1
import Derived.Test.YtbcmfenekpllhaaDoorLwThr2
import Derived.Test.YtbcmfenekpllhaaDoorLwThr3
import Derived.Test.YtbcmfenekpllhaaDoorLwThr4
set_option linter.unusedVariables false
set_option linter.unusedSimpArgs false
namespace Go.Proofs.YtbcmfenekpllhaaDoor
open Go Go.RowKit

attribute [local go_sem] World.cell?_alloc_some

set_option maxRecDepth 100000 in
set_option maxHeartbeats 8000000 in
theorem thr_badlo (k x y : Int) (w : World) (hT : Tab w) (h : k < 1) : Calls Tryd.prog 23 #[.int .u8 k, pt x y] w fun e w' => e = .returned (.bool true) ∧ Below w.heap.size w w' := by
  have hT' : ∀ W, Below w.heap.size w W → Tab W := fun W hb => tab_below hT hb
  have H : Hid (k < 1 ∨ 4 < k) := (Or.inl h : k < 1 ∨ 4 < k)
  go_enter Tryd.func23, Tryd.ntmps23
  go_wp2_with (first | (go_at_call 51; with_reducible refine (through_badk k x y _ H.out).mono ?_; rintro e wx ⟨rfl, hx⟩; obtain ⟨ux, rfl⟩ := after hx; clear hx) | (go_at_call 14; with_reducible refine (lives_ok _ (hT' _ (by repeat first | (with_reducible exact Below.refl _ _) | (with_reducible refine below_on ?_ _) | (with_reducible refine below_alloc ?_ _) | (with_reducible refine below_set ?_ (by simp; try omega) _) | (with_reducible refine below_drew ?_)))).mono ?_; rintro e wx ⟨rfl, hx⟩; obtain ⟨ux, rfl⟩ := after hx; clear hx) | fail)
  go_ret
  exact ⟨rfl, by repeat first | (with_reducible exact Below.refl _ _) | (with_reducible refine below_on ?_ _) | (with_reducible refine below_alloc ?_ _) | (with_reducible refine below_set ?_ (by simp; try omega) _) | (with_reducible refine below_drew ?_)⟩

set_option maxRecDepth 100000 in
set_option maxHeartbeats 8000000 in
theorem thr_badhi (k x y : Int) (w : World) (hT : Tab w) (h : 4 < k) : Calls Tryd.prog 23 #[.int .u8 k, pt x y] w fun e w' => e = .returned (.bool true) ∧ Below w.heap.size w w' := by
  have hT' : ∀ W, Below w.heap.size w W → Tab W := fun W hb => tab_below hT hb
  have H : Hid (k < 1 ∨ 4 < k) := (Or.inr h : k < 1 ∨ 4 < k)
  have g : ¬ (k < 1) := by omega
  go_enter Tryd.func23, Tryd.ntmps23
  go_wp2_with (first | (go_at_call 51; with_reducible refine (through_badk k x y _ H.out).mono ?_; rintro e wx ⟨rfl, hx⟩; obtain ⟨ux, rfl⟩ := after hx; clear hx) | (go_at_call 14; with_reducible refine (lives_ok _ (hT' _ (by repeat first | (with_reducible exact Below.refl _ _) | (with_reducible refine below_on ?_ _) | (with_reducible refine below_alloc ?_ _) | (with_reducible refine below_set ?_ (by simp; try omega) _) | (with_reducible refine below_drew ?_)))).mono ?_; rintro e wx ⟨rfl, hx⟩; obtain ⟨ux, rfl⟩ := after hx; clear hx) | fail)
  go_ret
  exact ⟨rfl, by repeat first | (with_reducible exact Below.refl _ _) | (with_reducible refine below_on ?_ _) | (with_reducible refine below_alloc ?_ _) | (with_reducible refine below_set ?_ (by simp; try omega) _) | (with_reducible refine below_drew ?_)⟩

set_option maxRecDepth 100000 in
set_option maxHeartbeats 8000000 in
theorem thr_badp (k x y : Int) (w : World) (hT : Tab w) (h1 : 1 ≤ k) (h2 : k ≤ 4) (h9 : x < -65536 ∨ 65536 < x ∨ y < -65536 ∨ 65536 < y) : Calls Tryd.prog 23 #[.int .u8 k, pt x y] w fun e w' => e = .returned (.bool true) ∧ Below w.heap.size w w' := by
  have hT' : ∀ W, Below w.heap.size w W → Tab W := fun W hb => tab_below hT hb
  have G : Hid (x < -65536 ∨ 65536 < x ∨ y < -65536 ∨ 65536 < y) := h9
  clear h9
  have g1 : ¬ (k < 1) := by omega
  have g2 : ¬ (4 < k) := by omega
  go_enter Tryd.func23, Tryd.ntmps23
  go_wp2_with (first | (go_at_call 51; with_reducible refine (through_badp k x y _ h1 h2 G.out).mono ?_; rintro e wx ⟨rfl, hx⟩; obtain ⟨ux, rfl⟩ := after hx; clear hx) | (go_at_call 39; with_reducible refine (inside_no x y _ G.out).mono ?_; rintro e wx ⟨rfl, hx⟩; obtain ⟨ux, rfl⟩ := after hx; clear hx) | (go_at_call 14; with_reducible refine (lives_ok _ (hT' _ (by repeat first | (with_reducible exact Below.refl _ _) | (with_reducible refine below_on ?_ _) | (with_reducible refine below_alloc ?_ _) | (with_reducible refine below_set ?_ (by simp; try omega) _) | (with_reducible refine below_drew ?_)))).mono ?_; rintro e wx ⟨rfl, hx⟩; obtain ⟨ux, rfl⟩ := after hx; clear hx) | fail)
  go_ret
  exact ⟨rfl, by repeat first | (with_reducible exact Below.refl _ _) | (with_reducible refine below_on ?_ _) | (with_reducible refine below_alloc ?_ _) | (with_reducible refine below_set ?_ (by simp; try omega) _) | (with_reducible refine below_drew ?_)⟩

theorem thr_law (k x y : Int) (w : World) (hT : Tab w) : Calls Tryd.prog 23 #[.int .u8 k, pt x y] w fun e w' => e = .returned (.bool true) ∧ Below w.heap.size w w' := by
  by_cases a : k < 1
  · exact thr_badlo k x y w hT a
  by_cases a2 : 4 < k
  · exact thr_badhi k x y w hT a2
  by_cases b : -65536 ≤ x ∧ x ≤ 65536 ∧ -65536 ≤ y ∧ y ≤ 65536
  · obtain ⟨b1, b2, b3, b4⟩ := b
    obtain rfl | rfl | rfl | rfl : k = 1 ∨ k = 2 ∨ k = 3 ∨ k = 4 := by omega
    · exact thr_all1 x y w hT b1 b2 b3 b4
    · exact thr_all2 x y w hT b1 b2 b3 b4
    · exact thr_all3 x y w hT b1 b2 b3 b4
    · exact thr_all4 x y w hT b1 b2 b3 b4
  · exact thr_badp k x y w hT (by omega) (by omega) (by omega)

end Go.Proofs.YtbcmfenekpllhaaDoor
