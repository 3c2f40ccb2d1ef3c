/-
  Says: what Parse gives for every string.
-/
import Derived.Test.YtkmmnlhmfiabfaaGreatDoorRdt
set_option linter.unusedVariables false
set_option linter.unusedSimpArgs false
namespace Go.Proofs.YtkmmnlhmfiabfaaGreatDoor
open Go Go.RowKit

/-- What read makes of a string: a kind and a number. -/
def rdK (s : ByteArray) : Int := (rdF s s.size 0 (0, 1, 0)).1
def rdC (s : ByteArray) : Int := (rdF s s.size 0 (0, 1, 0)).2.2 * (rdF s s.size 0 (0, 1, 0)).2.1
theorem read_kc (s : ByteArray) (w : World) (hs : s.size ≤ maxLen) : Calls Tryz.prog 117 #[.string s] w fun e w' => e = .returned (ln (rdK s) (rdC s)) ∧ Below w.heap.size w w' := read_any s w hs
set_option maxHeartbeats 800000 in
theorem parse_ok (s : ByteArray) (k c : Int) (w : World) (hT : Tab w) (h1 : 1 ≤ k) (h2 : k ≤ 4) (h3 : -4096 ≤ c) (h4 : c ≤ 4096) (hs : s.size ≤ maxLen) (hk : rdK s = k) (hc : rdC s = c) (ht : (textL k c == s.toList) = true) : Calls Tryz.prog 78 #[.string s] w fun e w' => e = .returned (.tuple #[ln k c, .int .i64 0]) ∧ Below w.heap.size w w' := by
  have HR : Hid (∀ w, Calls Tryz.prog 117 #[.string s] w fun e w' => e = .returned (ln k c) ∧ Below w.heap.size w w') := fun w => by rw [← hk, ← hc]; exact read_kc s w hs
  have hT' : ∀ W, Below w.heap.size w W → Tab W := fun W hb => tab_below hT hb
  clear hk hc
  go_enter Tryz.func78, Tryz.ntmps78
  go_wp2_with (first | (go_at_call 117; refine (HR.out _).mono ?_; rintro e w3 ⟨rfl, hb3⟩; obtain ⟨u3, rfl⟩ := after hb3; have z3 : w.heap.size < (on u3).heap.size := (by have := on_size u3; simp at this; omega); clear hb3) | (go_at_call 58; refine (check_ok _ _ _ (by omega) (by omega) (by omega) (by omega)).mono ?_; rintro e w1 ⟨rfl, hb1⟩; obtain ⟨u1, rfl⟩ := after hb1; clear hb1) | (go_at_call 56; refine (text_ok _ _ _ (hT' _ (by repeat first | (with_reducible exact Below.refl _ _) | (with_reducible refine below_on ?_ _) | (with_reducible refine below_alloc ?_ _) | (with_reducible refine below_set ?_ (by simp; try omega) _) | (with_reducible refine below_drew ?_))) (by omega) (by omega) (by omega) (by omega)).mono ?_; rintro e w5 ⟨rfl, hb5⟩; obtain ⟨u5, rfl⟩ := after hb5; clear hb5) | fail)
  exact bodyPost_ret (v := .tuple #[ln k c, .int .i64 0]) (by simp [results, Tryz.results78, go_sem, z3]) rfl ⟨rfl, by repeat first | (with_reducible exact Below.refl _ _) | (with_reducible refine below_on ?_ _) | (with_reducible refine below_alloc ?_ _) | (with_reducible refine below_set ?_ (by simp; try omega) _) | (with_reducible refine below_drew ?_)⟩
set_option maxHeartbeats 800000 in
theorem parse_other (s : ByteArray) (k c : Int) (w : World) (hT : Tab w) (h1 : 1 ≤ k) (h2 : k ≤ 4) (h3 : -4096 ≤ c) (h4 : c ≤ 4096) (hs : s.size ≤ maxLen) (hk : rdK s = k) (hc : rdC s = c) (ht : (textL k c == s.toList) = false) : Calls Tryz.prog 78 #[.string s] w fun e w' => e = .returned (.tuple #[ln 0 0, .int .i64 4]) ∧ Below w.heap.size w w' := by
  have HR : Hid (∀ w, Calls Tryz.prog 117 #[.string s] w fun e w' => e = .returned (ln k c) ∧ Below w.heap.size w w') := fun w => by rw [← hk, ← hc]; exact read_kc s w hs
  have hT' : ∀ W, Below w.heap.size w W → Tab W := fun W hb => tab_below hT hb
  clear hk hc
  go_enter Tryz.func78, Tryz.ntmps78
  go_wp2_with (first | (go_at_call 117; refine (HR.out _).mono ?_; rintro e w3 ⟨rfl, hb3⟩; obtain ⟨u3, rfl⟩ := after hb3; have z3 : w.heap.size < (on u3).heap.size := (by have := on_size u3; simp at this; omega); clear hb3) | (go_at_call 58; refine (check_ok _ _ _ (by omega) (by omega) (by omega) (by omega)).mono ?_; rintro e w1 ⟨rfl, hb1⟩; obtain ⟨u1, rfl⟩ := after hb1; clear hb1) | (go_at_call 56; refine (text_ok _ _ _ (hT' _ (by repeat first | (with_reducible exact Below.refl _ _) | (with_reducible refine below_on ?_ _) | (with_reducible refine below_alloc ?_ _) | (with_reducible refine below_set ?_ (by simp; try omega) _) | (with_reducible refine below_drew ?_))) (by omega) (by omega) (by omega) (by omega)).mono ?_; rintro e w5 ⟨rfl, hb5⟩; obtain ⟨u5, rfl⟩ := after hb5; clear hb5) | fail)
  exact bodyPost_ret (v := .tuple #[ln 0 0, .int .i64 4]) (by simp [results, Tryz.results78, go_sem, z3]) rfl ⟨rfl, by repeat first | (with_reducible exact Below.refl _ _) | (with_reducible refine below_on ?_ _) | (with_reducible refine below_alloc ?_ _) | (with_reducible refine below_set ?_ (by simp; try omega) _) | (with_reducible refine below_drew ?_)⟩
set_option maxHeartbeats 800000 in
theorem parse_bad (s : ByteArray) (k c : Int) (w : World) (hT : Tab w) (h : k < 1 ∨ 4 < k ∨ c < -4096 ∨ 4096 < c) (hs : s.size ≤ maxLen) (hk : rdK s = k) (hc : rdC s = c) : Calls Tryz.prog 78 #[.string s] w fun e w' => e = .returned (.tuple #[ln 0 0, .int .i64 4]) ∧ Below w.heap.size w w' := by
  have H : Hid (k < 1 ∨ 4 < k ∨ c < -4096 ∨ 4096 < c) := h
  clear h
  have HR : Hid (∀ w, Calls Tryz.prog 117 #[.string s] w fun e w' => e = .returned (ln k c) ∧ Below w.heap.size w w') := fun w => by rw [← hk, ← hc]; exact read_kc s w hs
  have hT' : ∀ W, Below w.heap.size w W → Tab W := fun W hb => tab_below hT hb
  clear hk hc
  go_enter Tryz.func78, Tryz.ntmps78
  go_wp2_with (first | (go_at_call 117; refine (HR.out _).mono ?_; rintro e w3 ⟨rfl, hb3⟩; obtain ⟨u3, rfl⟩ := after hb3; have z3 : w.heap.size < (on u3).heap.size := (by have := on_size u3; simp at this; omega); clear hb3) | (go_at_call 58; refine (check_bad _ _ _ H.out).mono ?_; rintro e w1 ⟨rfl, hb1⟩; obtain ⟨u1, rfl⟩ := after hb1; clear hb1) | fail)
  exact bodyPost_ret (v := .tuple #[ln 0 0, .int .i64 4]) (by simp [results, Tryz.results78, go_sem, z3]) rfl ⟨rfl, by repeat first | (with_reducible exact Below.refl _ _) | (with_reducible refine below_on ?_ _) | (with_reducible refine below_alloc ?_ _) | (with_reducible refine below_set ?_ (by simp; try omega) _) | (with_reducible refine below_drew ?_)⟩
theorem toList_mk (l : List UInt8) : (ByteArray.mk l.toArray).toList = l := by simp
/-- Parse, at every string: the line whose text it is; else ErrForm. -/
def ParsePost (s : ByteArray) (w : World) (e : Ending) (w' : World) : Prop :=
  ((∃ k c : Int, 1 ≤ k ∧ k ≤ 4 ∧ -4096 ≤ c ∧ c ≤ 4096 ∧ s.toList = textL k c ∧ e = .returned (.tuple #[ln k c, .int .i64 0])) ∨ e = .returned (.tuple #[ln 0 0, .int .i64 4])) ∧ Below w.heap.size w w'
theorem parse_any (s : ByteArray) (w : World) (hT : Tab w) (hs : s.size ≤ maxLen) : Calls Tryz.prog 78 #[.string s] w (ParsePost s w) := by
  by_cases h : 1 ≤ rdK s ∧ rdK s ≤ 4 ∧ -4096 ≤ rdC s ∧ rdC s ≤ 4096
  · cases ht : textL (rdK s) (rdC s) == s.toList with
    | true => exact (parse_ok s _ _ w hT h.1 h.2.1 h.2.2.1 h.2.2.2 hs rfl rfl ht).mono fun e w' ⟨he, hb⟩ => ⟨.inl ⟨_, _, h.1, h.2.1, h.2.2.1, h.2.2.2, (eq_of_beq ht).symm, he⟩, hb⟩
    | false => exact (parse_other s _ _ w hT h.1 h.2.1 h.2.2.1 h.2.2.2 hs rfl rfl ht).mono fun e w' ⟨he, hb⟩ => ⟨.inr he, hb⟩
  · exact (parse_bad s _ _ w hT (by omega) hs rfl rfl).mono fun e w' ⟨he, hb⟩ => ⟨.inr he, hb⟩
theorem parse_text (k c : Int) (w : World) (hT : Tab w) (h1 : 1 ≤ k) (h2 : k ≤ 4) (h3 : -4096 ≤ c) (h4 : c ≤ 4096) : Calls Tryz.prog 78 #[.string ⟨(textL k c).toArray⟩] w fun e w' => e = .returned (.tuple #[ln k c, .int .i64 0]) ∧ Below w.heap.size w w' := by
  have hr := rd_text k c h1 h2 h3 h4
  have hl := itoa_len c (by omega) (by omega)
  refine parse_ok _ k c w hT h1 h2 h3 h4 (by show (textL k c).toArray.size ≤ _; unfold maxLen textL; simp; omega) (by unfold rdK; rw [hr]) (by unfold rdC; rw [hr]; show (if c < 0 then -c else c) * (if c < 0 then -1 else 1) = c; split <;> omega) (by rw [toList_mk]; simp)
theorem parse_k1 (w : World) (hT : Tab w) : Calls Tryz.prog 78 #[.string ⟨#[121, 32, 45, 50]⟩] w fun e w' => e = .returned (.tuple #[ln 2 (-2), .int .i64 0]) ∧ Below w.heap.size w w' := by
  have := parse_text 2 (-2) w hT (by omega) (by omega) (by omega) (by omega)
  rwa [show textL 2 (-2) = [121, 32, 45, 50] by unfold textL Lib.itoa; rw [if_pos (by omega)]; show _ :: 32 :: 45 :: Lib.decDigits 2 = _; rw [Lib.decDigits_one (by omega)]; rfl] at this
theorem parse_k2 (w : World) (hT : Tab w) : Calls Tryz.prog 78 #[.string ⟨#[121, 32, 45, 48]⟩] w fun e w' => e = .returned (.tuple #[ln 0 0, .int .i64 4]) ∧ Below w.heap.size w w' :=
  parse_other _ 2 0 w hT (by omega) (by omega) (by omega) (by omega) (by unfold maxLen; decide) (by decide +kernel) (by decide +kernel) (by
    rw [show (⟨#[121, 32, 45, 48]⟩ : ByteArray).toList = [121, 32, 45, 48] from toList_mk [121, 32, 45, 48]]
    rw [show textL 2 0 = [121, 32, 48] by unfold textL Lib.itoa; rw [if_neg (by omega)]; show _ :: 32 :: Lib.decDigits 0 = _; rw [Lib.decDigits_one (by omega)]; rfl]
    rfl)
theorem parse_k3 (w : World) (hT : Tab w) : Calls Tryz.prog 78 #[.string ⟨#[120, 32, 52, 48, 57, 55]⟩] w fun e w' => e = .returned (.tuple #[ln 0 0, .int .i64 4]) ∧ Below w.heap.size w w' :=
  parse_bad _ 1 4097 w hT (by omega) (by unfold maxLen; decide) (by decide +kernel) (by decide +kernel)
theorem parse_k4 (w : World) (hT : Tab w) : Calls Tryz.prog 78 #[.string ⟨#[122, 32, 49]⟩] w fun e w' => e = .returned (.tuple #[ln 0 0, .int .i64 4]) ∧ Below w.heap.size w w' :=
  parse_bad _ 0 1 w hT (by omega) (by unfold maxLen; decide) (by decide +kernel) (by decide +kernel)

end Go.Proofs.YtkmmnlhmfiabfaaGreatDoor
