/-
  Says: the examples of the chapter hold: lives answers true, and changes no memory that was there.
-/
import Derived.Test.YtbcmfenekpllhaaDoorLv0
import Derived.Deep.RegionHeld3
set_option linter.unusedVariables false
set_option linter.unusedSimpArgs false
namespace Go.Proofs.YtbcmfenekpllhaaDoor
open Go Go.RowKit

attribute [local go_sem] World.cell?_alloc_some
set_option maxRecDepth 100000 in
set_option maxHeartbeats 16000000 in
theorem lives_ok (w : World) (hT : Tab w) : Calls Tryd.prog 14 #[] w fun e w' => e = .returned (.bool true) ∧ Below w.heap.size w w' := by
  have hT' : ∀ W, Below w.heap.size w W → Tab W := fun W hb => tab_below hT hb
  go_enter Tryd.func14, Tryd.ntmps14
  go_wp2_with (first | (go_at_call 26; with_reducible refine (line_any _ _ _).mono ?_; rintro e wx ⟨rfl, hx⟩; obtain ⟨ux, rfl⟩ := after hx; clear hx) | (go_at_call 18; with_reducible refine (point_any (3) (9) _).mono ?_; rintro e wx ⟨rfl, hx⟩; obtain ⟨ux, rfl⟩ := after hx; clear hx) | (go_at_call 18; with_reducible refine (point_any (4) (0) _).mono ?_; rintro e wx ⟨rfl, hx⟩; obtain ⟨ux, rfl⟩ := after hx; clear hx) | (go_at_call 18; with_reducible refine (point_any (5) (0) _).mono ?_; rintro e wx ⟨rfl, hx⟩; obtain ⟨ux, rfl⟩ := after hx; clear hx) | (go_at_call 18; with_reducible refine (point_any (5) (5) _).mono ?_; rintro e wx ⟨rfl, hx⟩; obtain ⟨ux, rfl⟩ := after hx; clear hx) | (go_at_call 18; with_reducible refine (point_any (0) (0) _).mono ?_; rintro e wx ⟨rfl, hx⟩; obtain ⟨ux, rfl⟩ := after hx; clear hx) | (go_at_call 48; with_reducible refine (lv_s1 _).mono ?_; rintro e wx ⟨rfl, hx⟩; obtain ⟨ux, rfl⟩ := after hx; clear hx) | (go_at_call 48; with_reducible refine (lv_s2 _).mono ?_; rintro e wx ⟨rfl, hx⟩; obtain ⟨ux, rfl⟩ := after hx; clear hx) | (go_at_call 48; with_reducible refine (lv_s3 _).mono ?_; rintro e wx ⟨rfl, hx⟩; obtain ⟨ux, rfl⟩ := after hx; clear hx) | (go_at_call 48; with_reducible refine (lv_s4 _).mono ?_; rintro e wx ⟨rfl, hx⟩; obtain ⟨ux, rfl⟩ := after hx; clear hx) | (go_at_call 48; with_reducible refine (lv_s5 _).mono ?_; rintro e wx ⟨rfl, hx⟩; obtain ⟨ux, rfl⟩ := after hx; clear hx) | fail)
  have hB1 : Below w.heap.size w ((on ux).alloc (.cells #[.int .u8 1, .int .i64 2, .int .u8 2, .int .i64 2, .int .u8 3, .int .i64 2, .int .u8 4, .int .i64 2] 24)) := by repeat first | (with_reducible exact Below.refl _ _) | (with_reducible refine below_on ?_ _) | (with_reducible refine below_alloc ?_ _) | (with_reducible refine below_set ?_ (by simp; try omega) _) | (with_reducible refine below_drew ?_)
  have z1 : (on ux).heap.size < ((on ux).alloc (.cells #[.int .u8 1, .int .i64 2, .int .u8 2, .int .i64 2, .int .u8 3, .int .i64 2, .int .u8 4, .int .i64 2] 24)).heap.size := by simp
  have p0 : ((on ux).alloc (.cells #[.int .u8 1, .int .i64 2, .int .u8 2, .int .i64 2, .int .u8 3, .int .i64 2, .int .u8 4, .int .i64 2] 24)).cell? ⟨(on ux).heap.size, 0, none⟩ = some (.int .u8 1) := by simp [go_sem]
  have p1 : ((on ux).alloc (.cells #[.int .u8 1, .int .i64 2, .int .u8 2, .int .i64 2, .int .u8 3, .int .i64 2, .int .u8 4, .int .i64 2] 24)).cell? ⟨(on ux).heap.size, 1, none⟩ = some (.int .i64 2) := by simp [go_sem]
  have p2 : ((on ux).alloc (.cells #[.int .u8 1, .int .i64 2, .int .u8 2, .int .i64 2, .int .u8 3, .int .i64 2, .int .u8 4, .int .i64 2] 24)).cell? ⟨(on ux).heap.size, 2, none⟩ = some (.int .u8 2) := by simp [go_sem]
  have p3 : ((on ux).alloc (.cells #[.int .u8 1, .int .i64 2, .int .u8 2, .int .i64 2, .int .u8 3, .int .i64 2, .int .u8 4, .int .i64 2] 24)).cell? ⟨(on ux).heap.size, 3, none⟩ = some (.int .i64 2) := by simp [go_sem]
  have p4 : ((on ux).alloc (.cells #[.int .u8 1, .int .i64 2, .int .u8 2, .int .i64 2, .int .u8 3, .int .i64 2, .int .u8 4, .int .i64 2] 24)).cell? ⟨(on ux).heap.size, 4, none⟩ = some (.int .u8 3) := by simp [go_sem]
  have p5 : ((on ux).alloc (.cells #[.int .u8 1, .int .i64 2, .int .u8 2, .int .i64 2, .int .u8 3, .int .i64 2, .int .u8 4, .int .i64 2] 24)).cell? ⟨(on ux).heap.size, 5, none⟩ = some (.int .i64 2) := by simp [go_sem]
  have p6 : ((on ux).alloc (.cells #[.int .u8 1, .int .i64 2, .int .u8 2, .int .i64 2, .int .u8 3, .int .i64 2, .int .u8 4, .int .i64 2] 24)).cell? ⟨(on ux).heap.size, 6, none⟩ = some (.int .u8 4) := by simp [go_sem]
  have p7 : ((on ux).alloc (.cells #[.int .u8 1, .int .i64 2, .int .u8 2, .int .i64 2, .int .u8 3, .int .i64 2, .int .u8 4, .int .i64 2] 24)).cell? ⟨(on ux).heap.size, 7, none⟩ = some (.int .i64 2) := by simp [go_sem]
  generalize (on ux).alloc (.cells #[.int .u8 1, .int .i64 2, .int .u8 2, .int .i64 2, .int .u8 3, .int .i64 2, .int .u8 4, .int .i64 2] 24) = W1 at *
  generalize (on ux).heap.size = b1 at *
  clear ux
  go_wp2_with (first | (go_at_call 18; with_reducible refine (point_any (7) (3) _).mono ?_; rintro e wx ⟨rfl, hx⟩; obtain ⟨ux, rfl⟩ := after hx; clear hx) | (go_at_call 18; with_reducible refine (point_any (1) (5) _).mono ?_; rintro e wx ⟨rfl, hx⟩; obtain ⟨ux, rfl⟩ := after hx; clear hx) | (go_at_call 18; with_reducible refine (point_any (1) (3) _).mono ?_; rintro e wx ⟨rfl, hx⟩; obtain ⟨ux, rfl⟩ := after hx; clear hx) | (go_at_call 18; with_reducible refine (point_any (-1) (5) _).mono ?_; rintro e wx ⟨rfl, hx⟩; obtain ⟨ux, rfl⟩ := after hx; clear hx) | fail)
  have hB2 : Below w.heap.size w ((on ux).alloc (.cells #[.int .i64 (7), .int .i64 (3), .int .i64 (1), .int .i64 (5), .int .i64 (1), .int .i64 (3), .int .i64 (-1), .int .i64 (5)] 31)) := by
    have bw : Below w.heap.size w W1 := hB1
    repeat first | exact bw | (with_reducible refine below_on ?_ _) | (with_reducible refine below_alloc ?_ _)
  have hB12 : Below W1.heap.size W1 ((on ux).alloc (.cells #[.int .i64 (7), .int .i64 (3), .int .i64 (1), .int .i64 (5), .int .i64 (1), .int .i64 (3), .int .i64 (-1), .int .i64 (5)] 31)) := by
    repeat first | (with_reducible exact Below.refl _ _) | (with_reducible refine below_on ?_ _) | (with_reducible refine below_alloc ?_ _)
  have z2 : (on ux).heap.size < ((on ux).alloc (.cells #[.int .i64 (7), .int .i64 (3), .int .i64 (1), .int .i64 (5), .int .i64 (1), .int .i64 (3), .int .i64 (-1), .int .i64 (5)] 31)).heap.size := by simp
  have p0' : ((on ux).alloc (.cells #[.int .i64 (7), .int .i64 (3), .int .i64 (1), .int .i64 (5), .int .i64 (1), .int .i64 (3), .int .i64 (-1), .int .i64 (5)] 31)).cell? ⟨b1, 0, none⟩ = some (.int .u8 1) := by simp [go_sem, p0]
  have p1' : ((on ux).alloc (.cells #[.int .i64 (7), .int .i64 (3), .int .i64 (1), .int .i64 (5), .int .i64 (1), .int .i64 (3), .int .i64 (-1), .int .i64 (5)] 31)).cell? ⟨b1, 1, none⟩ = some (.int .i64 2) := by simp [go_sem, p1]
  have p2' : ((on ux).alloc (.cells #[.int .i64 (7), .int .i64 (3), .int .i64 (1), .int .i64 (5), .int .i64 (1), .int .i64 (3), .int .i64 (-1), .int .i64 (5)] 31)).cell? ⟨b1, 2, none⟩ = some (.int .u8 2) := by simp [go_sem, p2]
  have p3' : ((on ux).alloc (.cells #[.int .i64 (7), .int .i64 (3), .int .i64 (1), .int .i64 (5), .int .i64 (1), .int .i64 (3), .int .i64 (-1), .int .i64 (5)] 31)).cell? ⟨b1, 3, none⟩ = some (.int .i64 2) := by simp [go_sem, p3]
  have p4' : ((on ux).alloc (.cells #[.int .i64 (7), .int .i64 (3), .int .i64 (1), .int .i64 (5), .int .i64 (1), .int .i64 (3), .int .i64 (-1), .int .i64 (5)] 31)).cell? ⟨b1, 4, none⟩ = some (.int .u8 3) := by simp [go_sem, p4]
  have p5' : ((on ux).alloc (.cells #[.int .i64 (7), .int .i64 (3), .int .i64 (1), .int .i64 (5), .int .i64 (1), .int .i64 (3), .int .i64 (-1), .int .i64 (5)] 31)).cell? ⟨b1, 5, none⟩ = some (.int .i64 2) := by simp [go_sem, p5]
  have p6' : ((on ux).alloc (.cells #[.int .i64 (7), .int .i64 (3), .int .i64 (1), .int .i64 (5), .int .i64 (1), .int .i64 (3), .int .i64 (-1), .int .i64 (5)] 31)).cell? ⟨b1, 6, none⟩ = some (.int .u8 4) := by simp [go_sem, p6]
  have p7' : ((on ux).alloc (.cells #[.int .i64 (7), .int .i64 (3), .int .i64 (1), .int .i64 (5), .int .i64 (1), .int .i64 (3), .int .i64 (-1), .int .i64 (5)] 31)).cell? ⟨b1, 7, none⟩ = some (.int .i64 2) := by simp [go_sem, p7]
  have q0 : ((on ux).alloc (.cells #[.int .i64 (7), .int .i64 (3), .int .i64 (1), .int .i64 (5), .int .i64 (1), .int .i64 (3), .int .i64 (-1), .int .i64 (5)] 31)).cell? ⟨(on ux).heap.size, 0, none⟩ = some (.int .i64 (7)) := by simp [go_sem]
  have q1 : ((on ux).alloc (.cells #[.int .i64 (7), .int .i64 (3), .int .i64 (1), .int .i64 (5), .int .i64 (1), .int .i64 (3), .int .i64 (-1), .int .i64 (5)] 31)).cell? ⟨(on ux).heap.size, 1, none⟩ = some (.int .i64 (3)) := by simp [go_sem]
  have q2 : ((on ux).alloc (.cells #[.int .i64 (7), .int .i64 (3), .int .i64 (1), .int .i64 (5), .int .i64 (1), .int .i64 (3), .int .i64 (-1), .int .i64 (5)] 31)).cell? ⟨(on ux).heap.size, 2, none⟩ = some (.int .i64 (1)) := by simp [go_sem]
  have q3 : ((on ux).alloc (.cells #[.int .i64 (7), .int .i64 (3), .int .i64 (1), .int .i64 (5), .int .i64 (1), .int .i64 (3), .int .i64 (-1), .int .i64 (5)] 31)).cell? ⟨(on ux).heap.size, 3, none⟩ = some (.int .i64 (5)) := by simp [go_sem]
  have q4 : ((on ux).alloc (.cells #[.int .i64 (7), .int .i64 (3), .int .i64 (1), .int .i64 (5), .int .i64 (1), .int .i64 (3), .int .i64 (-1), .int .i64 (5)] 31)).cell? ⟨(on ux).heap.size, 4, none⟩ = some (.int .i64 (1)) := by simp [go_sem]
  have q5 : ((on ux).alloc (.cells #[.int .i64 (7), .int .i64 (3), .int .i64 (1), .int .i64 (5), .int .i64 (1), .int .i64 (3), .int .i64 (-1), .int .i64 (5)] 31)).cell? ⟨(on ux).heap.size, 5, none⟩ = some (.int .i64 (3)) := by simp [go_sem]
  have q6 : ((on ux).alloc (.cells #[.int .i64 (7), .int .i64 (3), .int .i64 (1), .int .i64 (5), .int .i64 (1), .int .i64 (3), .int .i64 (-1), .int .i64 (5)] 31)).cell? ⟨(on ux).heap.size, 6, none⟩ = some (.int .i64 (-1)) := by simp [go_sem]
  have q7 : ((on ux).alloc (.cells #[.int .i64 (7), .int .i64 (3), .int .i64 (1), .int .i64 (5), .int .i64 (1), .int .i64 (3), .int .i64 (-1), .int .i64 (5)] 31)).cell? ⟨(on ux).heap.size, 7, none⟩ = some (.int .i64 (5)) := by simp [go_sem]
  clear p0 p1 p2 p3 p4 p5 p6 p7 hB1
  generalize (on ux).alloc (.cells #[.int .i64 (7), .int .i64 (3), .int .i64 (1), .int .i64 (5), .int .i64 (1), .int .i64 (3), .int .i64 (-1), .int .i64 (5)] 31) = W2 at *
  generalize (on ux).heap.size = b2 at *
  clear ux
  have z1' : b1 < W2.heap.size := by have := hB12.size; omega
  clear z1 hB12
  go_loopw [3] (fun kv wr => ∃ kk : Int, 0 ≤ kk ∧ kk ≤ 4 ∧ kv = .int .i64 kk ∧ ∃ u : Later W2, wr = on u) (fun kv _ => (4 - intOf kv).toNat)
  case atStart => exact ⟨0, by omega, by omega, rfl, ⟨W2, Below.refl _ _⟩, rfl⟩
  case round =>
    obtain ⟨kk, hk0, hk4, rfl, u0, rfl⟩ := hrel
    obtain rfl | rfl | rfl | rfl | rfl : kk = 0 ∨ kk = 1 ∨ kk = 2 ∨ kk = 3 ∨ kk = 4 := by omega
    · clear hk0 hk4
      have s0 : W2.heap.size ≤ (on u0).heap.size := on_size u0
      have n1 : ¬ (on u0).heap.size = b1 := by omega
      have n2 : ¬ (on u0).heap.size = b2 := by omega
      go_wp2_with fail
      go_region_held3 (fun w' => w'.cell? ⟨b1, 0, none⟩ = some (.int .u8 1) ∧ w'.cell? ⟨b1, 1, none⟩ = some (.int .i64 2)) ((first | (simp [go_sem, *]; done) | fail)) ((first | (go_at_call 18; with_reducible refine (point_any _ _ _).mono ?_; rintro e wx ⟨rfl, hx⟩; obtain ⟨ux, rfl⟩ := after hx; clear hx; have s0 : W2.heap.size ≤ (on ux).heap.size := (by have := on_size ux; (try simp at this); omega); have n1 : ¬ (on ux).heap.size = b1 := (by omega); have n2 : ¬ (on ux).heap.size = b2 := (by omega)) | (go_at_call 49; with_reducible refine (lv_r1 _).mono ?_; rintro e wx ⟨rfl, hx⟩; obtain ⟨ux, rfl⟩ := after hx; clear hx; have s0 : W2.heap.size ≤ (on ux).heap.size := (by have := on_size ux; (try simp at this); omega); have n1 : ¬ (on ux).heap.size = b1 := (by omega); have n2 : ¬ (on ux).heap.size = b2 := (by omega))))
      all_goals go_wp2_with fail
      all_goals refine region_later (by kernel_rfl) (by kernel_rfl) ?_
      all_goals repeat (go_big_quiet_step ((go_at_call 18; with_reducible exact Calls.later (point_any _ _ _))))
      all_goals refine wpQuiet_nil ?_
      all_goals rintro _ ⟨u9, rfl⟩
      all_goals go_wp2_with fail
      all_goals go_roundw
      case rel => exact ⟨0 + 1, by omega, by omega, rfl, after (by repeat first | (with_reducible exact Below.refl _ _) | (with_reducible refine below_on ?_ _) | (with_reducible refine below_drew ?_) | (with_reducible refine below_alloc ?_ _) | (with_reducible refine below_set ?_ (by simp; omega) _))⟩
      case measure => simp [intOf]
      case rel => exact ⟨0 + 1, by omega, by omega, rfl, after (by repeat first | (with_reducible exact Below.refl _ _) | (with_reducible refine below_on ?_ _) | (with_reducible refine below_drew ?_) | (with_reducible refine below_alloc ?_ _) | (with_reducible refine below_set ?_ (by simp; omega) _))⟩
      case measure => simp [intOf]
      case rel => exact ⟨0 + 1, by omega, by omega, rfl, after (by repeat first | (with_reducible exact Below.refl _ _) | (with_reducible refine below_on ?_ _) | (with_reducible refine below_drew ?_) | (with_reducible refine below_alloc ?_ _) | (with_reducible refine below_set ?_ (by simp; omega) _))⟩
      case measure => simp [intOf]
    · clear hk0 hk4
      have s0 : W2.heap.size ≤ (on u0).heap.size := on_size u0
      have n1 : ¬ (on u0).heap.size = b1 := by omega
      have n2 : ¬ (on u0).heap.size = b2 := by omega
      go_wp2_with fail
      go_region_held3 (fun w' => w'.cell? ⟨b1, 2, none⟩ = some (.int .u8 2) ∧ w'.cell? ⟨b1, 3, none⟩ = some (.int .i64 2)) ((first | (simp [go_sem, *]; done) | fail)) ((first | (go_at_call 18; with_reducible refine (point_any _ _ _).mono ?_; rintro e wx ⟨rfl, hx⟩; obtain ⟨ux, rfl⟩ := after hx; clear hx; have s0 : W2.heap.size ≤ (on ux).heap.size := (by have := on_size ux; (try simp at this); omega); have n1 : ¬ (on ux).heap.size = b1 := (by omega); have n2 : ¬ (on ux).heap.size = b2 := (by omega)) | (go_at_call 49; with_reducible refine (lv_r2 _).mono ?_; rintro e wx ⟨rfl, hx⟩; obtain ⟨ux, rfl⟩ := after hx; clear hx; have s0 : W2.heap.size ≤ (on ux).heap.size := (by have := on_size ux; (try simp at this); omega); have n1 : ¬ (on ux).heap.size = b1 := (by omega); have n2 : ¬ (on ux).heap.size = b2 := (by omega))))
      all_goals go_wp2_with fail
      all_goals refine region_later (by kernel_rfl) (by kernel_rfl) ?_
      all_goals repeat (go_big_quiet_step ((go_at_call 18; with_reducible exact Calls.later (point_any _ _ _))))
      all_goals refine wpQuiet_nil ?_
      all_goals rintro _ ⟨u9, rfl⟩
      all_goals go_wp2_with fail
      all_goals go_roundw
      case rel => exact ⟨1 + 1, by omega, by omega, rfl, after (by repeat first | (with_reducible exact Below.refl _ _) | (with_reducible refine below_on ?_ _) | (with_reducible refine below_drew ?_) | (with_reducible refine below_alloc ?_ _) | (with_reducible refine below_set ?_ (by simp; omega) _))⟩
      case measure => simp [intOf]
      case rel => exact ⟨1 + 1, by omega, by omega, rfl, after (by repeat first | (with_reducible exact Below.refl _ _) | (with_reducible refine below_on ?_ _) | (with_reducible refine below_drew ?_) | (with_reducible refine below_alloc ?_ _) | (with_reducible refine below_set ?_ (by simp; omega) _))⟩
      case measure => simp [intOf]
      case rel => exact ⟨1 + 1, by omega, by omega, rfl, after (by repeat first | (with_reducible exact Below.refl _ _) | (with_reducible refine below_on ?_ _) | (with_reducible refine below_drew ?_) | (with_reducible refine below_alloc ?_ _) | (with_reducible refine below_set ?_ (by simp; omega) _))⟩
      case measure => simp [intOf]
    · clear hk0 hk4
      have s0 : W2.heap.size ≤ (on u0).heap.size := on_size u0
      have n1 : ¬ (on u0).heap.size = b1 := by omega
      have n2 : ¬ (on u0).heap.size = b2 := by omega
      go_wp2_with fail
      go_region_held3 (fun w' => w'.cell? ⟨b1, 4, none⟩ = some (.int .u8 3) ∧ w'.cell? ⟨b1, 5, none⟩ = some (.int .i64 2)) ((first | (simp [go_sem, *]; done) | fail)) ((first | (go_at_call 18; with_reducible refine (point_any _ _ _).mono ?_; rintro e wx ⟨rfl, hx⟩; obtain ⟨ux, rfl⟩ := after hx; clear hx; have s0 : W2.heap.size ≤ (on ux).heap.size := (by have := on_size ux; (try simp at this); omega); have n1 : ¬ (on ux).heap.size = b1 := (by omega); have n2 : ¬ (on ux).heap.size = b2 := (by omega)) | (go_at_call 49; with_reducible refine (lv_r3 _).mono ?_; rintro e wx ⟨rfl, hx⟩; obtain ⟨ux, rfl⟩ := after hx; clear hx; have s0 : W2.heap.size ≤ (on ux).heap.size := (by have := on_size ux; (try simp at this); omega); have n1 : ¬ (on ux).heap.size = b1 := (by omega); have n2 : ¬ (on ux).heap.size = b2 := (by omega))))
      all_goals go_wp2_with fail
      all_goals refine region_later (by kernel_rfl) (by kernel_rfl) ?_
      all_goals repeat (go_big_quiet_step ((go_at_call 18; with_reducible exact Calls.later (point_any _ _ _))))
      all_goals refine wpQuiet_nil ?_
      all_goals rintro _ ⟨u9, rfl⟩
      all_goals go_wp2_with fail
      all_goals go_roundw
      case rel => exact ⟨2 + 1, by omega, by omega, rfl, after (by repeat first | (with_reducible exact Below.refl _ _) | (with_reducible refine below_on ?_ _) | (with_reducible refine below_drew ?_) | (with_reducible refine below_alloc ?_ _) | (with_reducible refine below_set ?_ (by simp; omega) _))⟩
      case measure => simp [intOf]
      case rel => exact ⟨2 + 1, by omega, by omega, rfl, after (by repeat first | (with_reducible exact Below.refl _ _) | (with_reducible refine below_on ?_ _) | (with_reducible refine below_drew ?_) | (with_reducible refine below_alloc ?_ _) | (with_reducible refine below_set ?_ (by simp; omega) _))⟩
      case measure => simp [intOf]
      case rel => exact ⟨2 + 1, by omega, by omega, rfl, after (by repeat first | (with_reducible exact Below.refl _ _) | (with_reducible refine below_on ?_ _) | (with_reducible refine below_drew ?_) | (with_reducible refine below_alloc ?_ _) | (with_reducible refine below_set ?_ (by simp; omega) _))⟩
      case measure => simp [intOf]
    · clear hk0 hk4
      have s0 : W2.heap.size ≤ (on u0).heap.size := on_size u0
      have n1 : ¬ (on u0).heap.size = b1 := by omega
      have n2 : ¬ (on u0).heap.size = b2 := by omega
      go_wp2_with fail
      go_region_held3 (fun w' => w'.cell? ⟨b1, 6, none⟩ = some (.int .u8 4) ∧ w'.cell? ⟨b1, 7, none⟩ = some (.int .i64 2)) ((first | (simp [go_sem, *]; done) | fail)) ((first | (go_at_call 18; with_reducible refine (point_any _ _ _).mono ?_; rintro e wx ⟨rfl, hx⟩; obtain ⟨ux, rfl⟩ := after hx; clear hx; have s0 : W2.heap.size ≤ (on ux).heap.size := (by have := on_size ux; (try simp at this); omega); have n1 : ¬ (on ux).heap.size = b1 := (by omega); have n2 : ¬ (on ux).heap.size = b2 := (by omega)) | (go_at_call 49; with_reducible refine (lv_r4 _).mono ?_; rintro e wx ⟨rfl, hx⟩; obtain ⟨ux, rfl⟩ := after hx; clear hx; have s0 : W2.heap.size ≤ (on ux).heap.size := (by have := on_size ux; (try simp at this); omega); have n1 : ¬ (on ux).heap.size = b1 := (by omega); have n2 : ¬ (on ux).heap.size = b2 := (by omega))))
      all_goals go_wp2_with fail
      all_goals refine region_later (by kernel_rfl) (by kernel_rfl) ?_
      all_goals repeat (go_big_quiet_step ((go_at_call 18; with_reducible exact Calls.later (point_any _ _ _))))
      all_goals refine wpQuiet_nil ?_
      all_goals rintro _ ⟨u9, rfl⟩
      all_goals go_wp2_with fail
      all_goals go_roundw
      case rel => exact ⟨3 + 1, by omega, by omega, rfl, after (by repeat first | (with_reducible exact Below.refl _ _) | (with_reducible refine below_on ?_ _) | (with_reducible refine below_drew ?_) | (with_reducible refine below_alloc ?_ _) | (with_reducible refine below_set ?_ (by simp; omega) _))⟩
      case measure => simp [intOf]
      case rel => exact ⟨3 + 1, by omega, by omega, rfl, after (by repeat first | (with_reducible exact Below.refl _ _) | (with_reducible refine below_on ?_ _) | (with_reducible refine below_drew ?_) | (with_reducible refine below_alloc ?_ _) | (with_reducible refine below_set ?_ (by simp; omega) _))⟩
      case measure => simp [intOf]
      case rel => exact ⟨3 + 1, by omega, by omega, rfl, after (by repeat first | (with_reducible exact Below.refl _ _) | (with_reducible refine below_on ?_ _) | (with_reducible refine below_drew ?_) | (with_reducible refine below_alloc ?_ _) | (with_reducible refine below_set ?_ (by simp; omega) _))⟩
      case measure => simp [intOf]
    · clear hk0 hk4
      have hB3 : Below w.heap.size w (on u0) := below_on hB2 u0
      clear p0' p1' p2' p3' p4' p5' p6' p7' q0 q1 q2 q3 q4 q5 q6 q7 hB2 z1' z2
      generalize on u0 = W3 at *
      clear u0
      go_wp2_with fail
      (go_at_call 26; with_reducible refine (line_any (3) (3) _).mono ?_; rintro e wx ⟨rfl, hx⟩; obtain ⟨ux, rfl⟩ := after hx; clear hx)
      go_wp2_with fail
      (go_at_call 26; with_reducible refine (line_any (1) (1) _).mono ?_; rintro e wx ⟨rfl, hx⟩; obtain ⟨ux, rfl⟩ := after hx; clear hx)
      go_wp2_with fail
      (go_at_call 12; with_reducible refine (lv_i1 _).mono ?_; rintro e wx ⟨rfl, hx⟩; obtain ⟨ux, rfl⟩ := after hx; clear hx)
      go_wp2_with fail
      have hB4 : Below w.heap.size w ((on ux).alloc (.cells #[.int .u8 2, .int .i64 2] 24)) := by
        have bw : Below w.heap.size w W3 := hB3
        repeat first | exact bw | (with_reducible refine below_on ?_ _) | (with_reducible refine below_alloc ?_ _)
      have a0 : ((on ux).alloc (.cells #[.int .u8 2, .int .i64 2] 24)).cell? ⟨(on ux).heap.size, 0, none⟩ = some (.int .u8 2) := by simp [go_sem]
      have a1 : ((on ux).alloc (.cells #[.int .u8 2, .int .i64 2] 24)).cell? ⟨(on ux).heap.size, 1, none⟩ = some (.int .i64 2) := by simp [go_sem]
      clear  hB3
      generalize (on ux).alloc (.cells #[.int .u8 2, .int .i64 2] 24) = W4 at *
      generalize (on ux).heap.size = Ba at *
      clear ux
      go_wp2_with fail
      (go_at_call 26; with_reducible refine (line_any (3) (3) _).mono ?_; rintro e wx ⟨rfl, hx⟩; obtain ⟨ux, rfl⟩ := after hx; clear hx)
      go_wp2_with fail
      (go_at_call 26; with_reducible refine (line_any (3) (1) _).mono ?_; rintro e wx ⟨rfl, hx⟩; obtain ⟨ux, rfl⟩ := after hx; clear hx)
      go_wp2_with fail
      (go_at_call 12; with_reducible refine (lv_i2 _).mono ?_; rintro e wx ⟨rfl, hx⟩; obtain ⟨ux, rfl⟩ := after hx; clear hx)
      go_wp2_with fail
      have hB5 : Below w.heap.size w ((on ux).alloc (.cells #[.int .u8 3, .int .i64 5] 24)) := by
        have bw : Below w.heap.size w W4 := hB4
        repeat first | exact bw | (with_reducible refine below_on ?_ _) | (with_reducible refine below_alloc ?_ _)
      have a0_ : ((on ux).alloc (.cells #[.int .u8 3, .int .i64 5] 24)).cell? ⟨Ba, 0, none⟩ = some (.int .u8 2) := by simp [go_sem, a0]
      have a1_ : ((on ux).alloc (.cells #[.int .u8 3, .int .i64 5] 24)).cell? ⟨Ba, 1, none⟩ = some (.int .i64 2) := by simp [go_sem, a1]
      have b0 : ((on ux).alloc (.cells #[.int .u8 3, .int .i64 5] 24)).cell? ⟨(on ux).heap.size, 0, none⟩ = some (.int .u8 3) := by simp [go_sem]
      have b1 : ((on ux).alloc (.cells #[.int .u8 3, .int .i64 5] 24)).cell? ⟨(on ux).heap.size, 1, none⟩ = some (.int .i64 5) := by simp [go_sem]
      clear a0 a1 hB4
      generalize (on ux).alloc (.cells #[.int .u8 3, .int .i64 5] 24) = W5 at *
      generalize (on ux).heap.size = Bb at *
      clear ux
      go_wp2_with fail
      (go_at_call 26; with_reducible refine (line_any (3) (3) _).mono ?_; rintro e wx ⟨rfl, hx⟩; obtain ⟨ux, rfl⟩ := after hx; clear hx)
      go_wp2_with fail
      (go_at_call 26; with_reducible refine (line_any (4) (1) _).mono ?_; rintro e wx ⟨rfl, hx⟩; obtain ⟨ux, rfl⟩ := after hx; clear hx)
      go_wp2_with fail
      (go_at_call 12; with_reducible refine (lv_i3 _).mono ?_; rintro e wx ⟨rfl, hx⟩; obtain ⟨ux, rfl⟩ := after hx; clear hx)
      go_wp2_with fail
      have hB6 : Below w.heap.size w ((on ux).alloc (.cells #[.int .u8 4, .int .i64 1] 24)) := by
        have bw : Below w.heap.size w W5 := hB5
        repeat first | exact bw | (with_reducible refine below_on ?_ _) | (with_reducible refine below_alloc ?_ _)
      have a0__ : ((on ux).alloc (.cells #[.int .u8 4, .int .i64 1] 24)).cell? ⟨Ba, 0, none⟩ = some (.int .u8 2) := by simp [go_sem, a0_]
      have a1__ : ((on ux).alloc (.cells #[.int .u8 4, .int .i64 1] 24)).cell? ⟨Ba, 1, none⟩ = some (.int .i64 2) := by simp [go_sem, a1_]
      have b0_ : ((on ux).alloc (.cells #[.int .u8 4, .int .i64 1] 24)).cell? ⟨Bb, 0, none⟩ = some (.int .u8 3) := by simp [go_sem, b0]
      have b1_ : ((on ux).alloc (.cells #[.int .u8 4, .int .i64 1] 24)).cell? ⟨Bb, 1, none⟩ = some (.int .i64 5) := by simp [go_sem, b1]
      have c0 : ((on ux).alloc (.cells #[.int .u8 4, .int .i64 1] 24)).cell? ⟨(on ux).heap.size, 0, none⟩ = some (.int .u8 4) := by simp [go_sem]
      have c1 : ((on ux).alloc (.cells #[.int .u8 4, .int .i64 1] 24)).cell? ⟨(on ux).heap.size, 1, none⟩ = some (.int .i64 1) := by simp [go_sem]
      clear a0_ a1_ b0 b1 hB5
      generalize (on ux).alloc (.cells #[.int .u8 4, .int .i64 1] 24) = W6 at *
      generalize (on ux).heap.size = Bc at *
      clear ux
      go_wp2_with fail
      (go_at_call 26; with_reducible refine (line_any (1) (1) _).mono ?_; rintro e wx ⟨rfl, hx⟩; obtain ⟨ux, rfl⟩ := after hx; clear hx)
      go_wp2_with fail
      (go_at_call 26; with_reducible refine (line_any (3) (3) _).mono ?_; rintro e wx ⟨rfl, hx⟩; obtain ⟨ux, rfl⟩ := after hx; clear hx)
      go_wp2_with fail
      (go_at_call 12; with_reducible refine (lv_i4 _).mono ?_; rintro e wx ⟨rfl, hx⟩; obtain ⟨ux, rfl⟩ := after hx; clear hx)
      go_wp2_with fail
      have hB7 : Below w.heap.size w ((on ux).alloc (.cells #[.int .u8 4, .int .i64 1] 24)) := by
        have bw : Below w.heap.size w W6 := hB6
        repeat first | exact bw | (with_reducible refine below_on ?_ _) | (with_reducible refine below_alloc ?_ _)
      have a0___ : ((on ux).alloc (.cells #[.int .u8 4, .int .i64 1] 24)).cell? ⟨Ba, 0, none⟩ = some (.int .u8 2) := by simp [go_sem, a0__]
      have a1___ : ((on ux).alloc (.cells #[.int .u8 4, .int .i64 1] 24)).cell? ⟨Ba, 1, none⟩ = some (.int .i64 2) := by simp [go_sem, a1__]
      have b0__ : ((on ux).alloc (.cells #[.int .u8 4, .int .i64 1] 24)).cell? ⟨Bb, 0, none⟩ = some (.int .u8 3) := by simp [go_sem, b0_]
      have b1__ : ((on ux).alloc (.cells #[.int .u8 4, .int .i64 1] 24)).cell? ⟨Bb, 1, none⟩ = some (.int .i64 5) := by simp [go_sem, b1_]
      have c0_ : ((on ux).alloc (.cells #[.int .u8 4, .int .i64 1] 24)).cell? ⟨Bc, 0, none⟩ = some (.int .u8 4) := by simp [go_sem, c0]
      have c1_ : ((on ux).alloc (.cells #[.int .u8 4, .int .i64 1] 24)).cell? ⟨Bc, 1, none⟩ = some (.int .i64 1) := by simp [go_sem, c1]
      have d0 : ((on ux).alloc (.cells #[.int .u8 4, .int .i64 1] 24)).cell? ⟨(on ux).heap.size, 0, none⟩ = some (.int .u8 4) := by simp [go_sem]
      have d1 : ((on ux).alloc (.cells #[.int .u8 4, .int .i64 1] 24)).cell? ⟨(on ux).heap.size, 1, none⟩ = some (.int .i64 1) := by simp [go_sem]
      clear a0__ a1__ b0_ b1_ c0 c1 hB6
      generalize (on ux).alloc (.cells #[.int .u8 4, .int .i64 1] 24) = W7 at *
      generalize (on ux).heap.size = Bd at *
      clear ux
      go_wp2_with fail
      (go_at_call 26; with_reducible refine (line_any (1) (1) _).mono ?_; rintro e wx ⟨rfl, hx⟩; obtain ⟨ux, rfl⟩ := after hx; clear hx)
      go_wp2_with fail
      (go_at_call 26; with_reducible refine (line_any (4) (3) _).mono ?_; rintro e wx ⟨rfl, hx⟩; obtain ⟨ux, rfl⟩ := after hx; clear hx)
      go_wp2_with fail
      (go_at_call 12; with_reducible refine (lv_i5 _).mono ?_; rintro e wx ⟨rfl, hx⟩; obtain ⟨ux, rfl⟩ := after hx; clear hx)
      go_wp2_with fail
      have hB8 : Below w.heap.size w ((on ux).alloc (.cells #[.int .u8 3, .int .i64 5] 24)) := by
        have bw : Below w.heap.size w W7 := hB7
        repeat first | exact bw | (with_reducible refine below_on ?_ _) | (with_reducible refine below_alloc ?_ _)
      have a0____ : ((on ux).alloc (.cells #[.int .u8 3, .int .i64 5] 24)).cell? ⟨Ba, 0, none⟩ = some (.int .u8 2) := by simp [go_sem, a0___]
      have a1____ : ((on ux).alloc (.cells #[.int .u8 3, .int .i64 5] 24)).cell? ⟨Ba, 1, none⟩ = some (.int .i64 2) := by simp [go_sem, a1___]
      have b0___ : ((on ux).alloc (.cells #[.int .u8 3, .int .i64 5] 24)).cell? ⟨Bb, 0, none⟩ = some (.int .u8 3) := by simp [go_sem, b0__]
      have b1___ : ((on ux).alloc (.cells #[.int .u8 3, .int .i64 5] 24)).cell? ⟨Bb, 1, none⟩ = some (.int .i64 5) := by simp [go_sem, b1__]
      have c0__ : ((on ux).alloc (.cells #[.int .u8 3, .int .i64 5] 24)).cell? ⟨Bc, 0, none⟩ = some (.int .u8 4) := by simp [go_sem, c0_]
      have c1__ : ((on ux).alloc (.cells #[.int .u8 3, .int .i64 5] 24)).cell? ⟨Bc, 1, none⟩ = some (.int .i64 1) := by simp [go_sem, c1_]
      have d0_ : ((on ux).alloc (.cells #[.int .u8 3, .int .i64 5] 24)).cell? ⟨Bd, 0, none⟩ = some (.int .u8 4) := by simp [go_sem, d0]
      have d1_ : ((on ux).alloc (.cells #[.int .u8 3, .int .i64 5] 24)).cell? ⟨Bd, 1, none⟩ = some (.int .i64 1) := by simp [go_sem, d1]
      have e0 : ((on ux).alloc (.cells #[.int .u8 3, .int .i64 5] 24)).cell? ⟨(on ux).heap.size, 0, none⟩ = some (.int .u8 3) := by simp [go_sem]
      have e1 : ((on ux).alloc (.cells #[.int .u8 3, .int .i64 5] 24)).cell? ⟨(on ux).heap.size, 1, none⟩ = some (.int .i64 5) := by simp [go_sem]
      clear a0___ a1___ b0__ b1__ c0_ c1_ d0 d1 hB7
      generalize (on ux).alloc (.cells #[.int .u8 3, .int .i64 5] 24) = W8 at *
      generalize (on ux).heap.size = Be at *
      clear ux
      go_wp2_with fail
      (go_at_call 26; with_reducible refine (line_any (2) (4096) _).mono ?_; rintro e wx ⟨rfl, hx⟩; obtain ⟨ux, rfl⟩ := after hx; clear hx)
      go_wp2_with fail
      (go_at_call 26; with_reducible refine (line_any (2) (-1) _).mono ?_; rintro e wx ⟨rfl, hx⟩; obtain ⟨ux, rfl⟩ := after hx; clear hx)
      go_wp2_with fail
      (go_at_call 12; with_reducible refine (lv_i6 _).mono ?_; rintro e wx ⟨rfl, hx⟩; obtain ⟨ux, rfl⟩ := after hx; clear hx)
      go_wp2_with fail
      have hB9 : Below w.heap.size w ((on ux).alloc (.cells #[.int .u8 0, .int .i64 0] 24)) := by
        have bw : Below w.heap.size w W8 := hB8
        repeat first | exact bw | (with_reducible refine below_on ?_ _) | (with_reducible refine below_alloc ?_ _)
      have a0_____ : ((on ux).alloc (.cells #[.int .u8 0, .int .i64 0] 24)).cell? ⟨Ba, 0, none⟩ = some (.int .u8 2) := by simp [go_sem, a0____]
      have a1_____ : ((on ux).alloc (.cells #[.int .u8 0, .int .i64 0] 24)).cell? ⟨Ba, 1, none⟩ = some (.int .i64 2) := by simp [go_sem, a1____]
      have b0____ : ((on ux).alloc (.cells #[.int .u8 0, .int .i64 0] 24)).cell? ⟨Bb, 0, none⟩ = some (.int .u8 3) := by simp [go_sem, b0___]
      have b1____ : ((on ux).alloc (.cells #[.int .u8 0, .int .i64 0] 24)).cell? ⟨Bb, 1, none⟩ = some (.int .i64 5) := by simp [go_sem, b1___]
      have c0___ : ((on ux).alloc (.cells #[.int .u8 0, .int .i64 0] 24)).cell? ⟨Bc, 0, none⟩ = some (.int .u8 4) := by simp [go_sem, c0__]
      have c1___ : ((on ux).alloc (.cells #[.int .u8 0, .int .i64 0] 24)).cell? ⟨Bc, 1, none⟩ = some (.int .i64 1) := by simp [go_sem, c1__]
      have d0__ : ((on ux).alloc (.cells #[.int .u8 0, .int .i64 0] 24)).cell? ⟨Bd, 0, none⟩ = some (.int .u8 4) := by simp [go_sem, d0_]
      have d1__ : ((on ux).alloc (.cells #[.int .u8 0, .int .i64 0] 24)).cell? ⟨Bd, 1, none⟩ = some (.int .i64 1) := by simp [go_sem, d1_]
      have e0_ : ((on ux).alloc (.cells #[.int .u8 0, .int .i64 0] 24)).cell? ⟨Be, 0, none⟩ = some (.int .u8 3) := by simp [go_sem, e0]
      have e1_ : ((on ux).alloc (.cells #[.int .u8 0, .int .i64 0] 24)).cell? ⟨Be, 1, none⟩ = some (.int .i64 5) := by simp [go_sem, e1]
      clear a0____ a1____ b0___ b1___ c0__ c1__ d0_ d1_ e0 e1 hB8
      generalize (on ux).alloc (.cells #[.int .u8 0, .int .i64 0] 24) = W9 at *
      generalize (on ux).heap.size = Bf at *
      clear ux
      go_wp2_with fail
      refine region_later (by kernel_rfl) (by kernel_rfl) ?_
      repeat (go_big_quiet_step ((first | (go_at_call 26; with_reducible exact Calls.later (line_any _ _ _)) | (go_at_call 18; with_reducible exact Calls.later (point_any _ _ _)))))
      refine wpQuiet_nil ?_
      rintro _ ⟨ux, rfl⟩
      clear a0_____ a1_____ b0____ b1____ c0___ c1___ d0__ d1__ e0_ e1_
      have hB10 : Below w.heap.size w (on ux) := below_on hB9 ux
      clear hB9
      generalize on ux = W10 at *
      clear ux
      go_wp2_with fail
      (go_at_call 26; with_reducible refine (line_any (1) (1) _).mono ?_; rintro e wx ⟨rfl, hx⟩; obtain ⟨ux, rfl⟩ := after hx; clear hx)
      go_wp2_with fail
      (go_at_call 26; with_reducible refine (line_any (3) (4) _).mono ?_; rintro e wx ⟨rfl, hx⟩; obtain ⟨ux, rfl⟩ := after hx; clear hx)
      go_wp2_with fail
      (go_at_call 50; with_reducible refine (lv_m1 _).mono ?_; rintro e wx ⟨rfl, hx⟩; obtain ⟨ux, rfl⟩ := after hx; clear hx)
      go_wp2_with fail
      have hB11 : Below w.heap.size w ((on ux).alloc (.cells #[.int .i64 2, .int .i64 6] 31)) := by
        have bw : Below w.heap.size w W10 := hB10
        repeat first | exact bw | (with_reducible refine below_on ?_ _) | (with_reducible refine below_alloc ?_ _)
      have g0 : ((on ux).alloc (.cells #[.int .i64 2, .int .i64 6] 31)).cell? ⟨(on ux).heap.size, 0, none⟩ = some (.int .i64 2) := by simp [go_sem]
      have g1 : ((on ux).alloc (.cells #[.int .i64 2, .int .i64 6] 31)).cell? ⟨(on ux).heap.size, 1, none⟩ = some (.int .i64 6) := by simp [go_sem]
      clear  hB10
      generalize (on ux).alloc (.cells #[.int .i64 2, .int .i64 6] 31) = W11 at *
      generalize (on ux).heap.size = Bg at *
      clear ux
      go_wp2_with fail
      (go_at_call 26; with_reducible refine (line_any (3) (3) _).mono ?_; rintro e wx ⟨rfl, hx⟩; obtain ⟨ux, rfl⟩ := after hx; clear hx)
      go_wp2_with fail
      (go_at_call 26; with_reducible refine (line_any (4) (2) _).mono ?_; rintro e wx ⟨rfl, hx⟩; obtain ⟨ux, rfl⟩ := after hx; clear hx)
      go_wp2_with fail
      (go_at_call 50; with_reducible refine (lv_m2 _).mono ?_; rintro e wx ⟨rfl, hx⟩; obtain ⟨ux, rfl⟩ := after hx; clear hx)
      go_wp2_with fail
      have hB12 : Below w.heap.size w ((on ux).alloc (.cells #[.int .i64 1, .int .i64 5] 31)) := by
        have bw : Below w.heap.size w W11 := hB11
        repeat first | exact bw | (with_reducible refine below_on ?_ _) | (with_reducible refine below_alloc ?_ _)
      have g0_ : ((on ux).alloc (.cells #[.int .i64 1, .int .i64 5] 31)).cell? ⟨Bg, 0, none⟩ = some (.int .i64 2) := by simp [go_sem, g0]
      have g1_ : ((on ux).alloc (.cells #[.int .i64 1, .int .i64 5] 31)).cell? ⟨Bg, 1, none⟩ = some (.int .i64 6) := by simp [go_sem, g1]
      have h0 : ((on ux).alloc (.cells #[.int .i64 1, .int .i64 5] 31)).cell? ⟨(on ux).heap.size, 0, none⟩ = some (.int .i64 1) := by simp [go_sem]
      have h1 : ((on ux).alloc (.cells #[.int .i64 1, .int .i64 5] 31)).cell? ⟨(on ux).heap.size, 1, none⟩ = some (.int .i64 5) := by simp [go_sem]
      clear g0 g1 hB11
      generalize (on ux).alloc (.cells #[.int .i64 1, .int .i64 5] 31) = W12 at *
      generalize (on ux).heap.size = Bh at *
      clear ux
      go_wp2_with fail
      (go_at_call 26; with_reducible refine (line_any (1) (1) _).mono ?_; rintro e wx ⟨rfl, hx⟩; obtain ⟨ux, rfl⟩ := after hx; clear hx)
      go_wp2_with fail
      (go_at_call 26; with_reducible refine (line_any (1) (2) _).mono ?_; rintro e wx ⟨rfl, hx⟩; obtain ⟨ux, rfl⟩ := after hx; clear hx)
      go_wp2_with fail
      (go_at_call 50; with_reducible refine (lv_m3 _).mono ?_; rintro e wx ⟨rfl, hx⟩; obtain ⟨ux, rfl⟩ := after hx; clear hx)
      go_wp2_with fail
      have hB13 : Below w.heap.size w ((on ux).alloc (.cells #[.int .i64 0, .int .i64 0] 31)) := by
        have bw : Below w.heap.size w W12 := hB12
        repeat first | exact bw | (with_reducible refine below_on ?_ _) | (with_reducible refine below_alloc ?_ _)
      have g0__ : ((on ux).alloc (.cells #[.int .i64 0, .int .i64 0] 31)).cell? ⟨Bg, 0, none⟩ = some (.int .i64 2) := by simp [go_sem, g0_]
      have g1__ : ((on ux).alloc (.cells #[.int .i64 0, .int .i64 0] 31)).cell? ⟨Bg, 1, none⟩ = some (.int .i64 6) := by simp [go_sem, g1_]
      have h0_ : ((on ux).alloc (.cells #[.int .i64 0, .int .i64 0] 31)).cell? ⟨Bh, 0, none⟩ = some (.int .i64 1) := by simp [go_sem, h0]
      have h1_ : ((on ux).alloc (.cells #[.int .i64 0, .int .i64 0] 31)).cell? ⟨Bh, 1, none⟩ = some (.int .i64 5) := by simp [go_sem, h1]
      clear g0_ g1_ h0 h1 hB12
      generalize (on ux).alloc (.cells #[.int .i64 0, .int .i64 0] 31) = W13 at *
      generalize (on ux).heap.size = Bi at *
      clear ux
      go_wp2_with fail
      (go_at_call 18; with_reducible refine (point_any (3) (0) _).mono ?_; rintro e wx ⟨rfl, hx⟩; obtain ⟨ux, rfl⟩ := after hx; clear hx)
      go_wp2_with fail
      (go_at_call 51; with_reducible refine (lv_t1 _).mono ?_; rintro e wx ⟨rfl, hx⟩; obtain ⟨ux, rfl⟩ := after hx; clear hx)
      go_wp2_with fail
      have hB14 : Below w.heap.size w ((on ux).alloc (.cells #[.int .u8 0, .int .i64 0] 24)) := by
        have bw : Below w.heap.size w W13 := hB13
        repeat first | exact bw | (with_reducible refine below_on ?_ _) | (with_reducible refine below_alloc ?_ _)
      have g0___ : ((on ux).alloc (.cells #[.int .u8 0, .int .i64 0] 24)).cell? ⟨Bg, 0, none⟩ = some (.int .i64 2) := by simp [go_sem, g0__]
      have g1___ : ((on ux).alloc (.cells #[.int .u8 0, .int .i64 0] 24)).cell? ⟨Bg, 1, none⟩ = some (.int .i64 6) := by simp [go_sem, g1__]
      have h0__ : ((on ux).alloc (.cells #[.int .u8 0, .int .i64 0] 24)).cell? ⟨Bh, 0, none⟩ = some (.int .i64 1) := by simp [go_sem, h0_]
      have h1__ : ((on ux).alloc (.cells #[.int .u8 0, .int .i64 0] 24)).cell? ⟨Bh, 1, none⟩ = some (.int .i64 5) := by simp [go_sem, h1_]
      clear g0__ g1__ h0_ h1_ hB13
      generalize (on ux).alloc (.cells #[.int .u8 0, .int .i64 0] 24) = W14 at *
      generalize (on ux).heap.size = Bj at *
      clear ux
      go_wp2_with fail
      (go_at_call 18; with_reducible refine (point_any (3) (1) _).mono ?_; rintro e wx ⟨rfl, hx⟩; obtain ⟨ux, rfl⟩ := after hx; clear hx)
      go_wp2_with fail
      (go_at_call 51; with_reducible refine (lv_t2 _).mono ?_; rintro e wx ⟨rfl, hx⟩; obtain ⟨ux, rfl⟩ := after hx; clear hx)
      go_wp2_with fail
      have hB15 : Below w.heap.size w ((on ux).alloc (.cells #[.int .u8 3, .int .i64 2] 24)) := by
        have bw : Below w.heap.size w W14 := hB14
        repeat first | exact bw | (with_reducible refine below_on ?_ _) | (with_reducible refine below_alloc ?_ _)
      have g0____ : ((on ux).alloc (.cells #[.int .u8 3, .int .i64 2] 24)).cell? ⟨Bg, 0, none⟩ = some (.int .i64 2) := by simp [go_sem, g0___]
      have g1____ : ((on ux).alloc (.cells #[.int .u8 3, .int .i64 2] 24)).cell? ⟨Bg, 1, none⟩ = some (.int .i64 6) := by simp [go_sem, g1___]
      have h0___ : ((on ux).alloc (.cells #[.int .u8 3, .int .i64 2] 24)).cell? ⟨Bh, 0, none⟩ = some (.int .i64 1) := by simp [go_sem, h0__]
      have h1___ : ((on ux).alloc (.cells #[.int .u8 3, .int .i64 2] 24)).cell? ⟨Bh, 1, none⟩ = some (.int .i64 5) := by simp [go_sem, h1__]
      have k0 : ((on ux).alloc (.cells #[.int .u8 3, .int .i64 2] 24)).cell? ⟨(on ux).heap.size, 0, none⟩ = some (.int .u8 3) := by simp [go_sem]
      have k1 : ((on ux).alloc (.cells #[.int .u8 3, .int .i64 2] 24)).cell? ⟨(on ux).heap.size, 1, none⟩ = some (.int .i64 2) := by simp [go_sem]
      clear g0___ g1___ h0__ h1__ hB14
      generalize (on ux).alloc (.cells #[.int .u8 3, .int .i64 2] 24) = W15 at *
      generalize (on ux).heap.size = Bk at *
      clear ux
      go_wp2_with fail
      (go_at_call 18; with_reducible refine (point_any (3) (1) _).mono ?_; rintro e wx ⟨rfl, hx⟩; obtain ⟨ux, rfl⟩ := after hx; clear hx)
      go_wp2_with fail
      (go_at_call 51; with_reducible refine (lv_t3 _).mono ?_; rintro e wx ⟨rfl, hx⟩; obtain ⟨ux, rfl⟩ := after hx; clear hx)
      go_wp2_with fail
      have hB16 : Below w.heap.size w ((on ux).alloc (.cells #[.int .u8 4, .int .i64 (-1)] 24)) := by
        have bw : Below w.heap.size w W15 := hB15
        repeat first | exact bw | (with_reducible refine below_on ?_ _) | (with_reducible refine below_alloc ?_ _)
      have g0_____ : ((on ux).alloc (.cells #[.int .u8 4, .int .i64 (-1)] 24)).cell? ⟨Bg, 0, none⟩ = some (.int .i64 2) := by simp [go_sem, g0____]
      have g1_____ : ((on ux).alloc (.cells #[.int .u8 4, .int .i64 (-1)] 24)).cell? ⟨Bg, 1, none⟩ = some (.int .i64 6) := by simp [go_sem, g1____]
      have h0____ : ((on ux).alloc (.cells #[.int .u8 4, .int .i64 (-1)] 24)).cell? ⟨Bh, 0, none⟩ = some (.int .i64 1) := by simp [go_sem, h0___]
      have h1____ : ((on ux).alloc (.cells #[.int .u8 4, .int .i64 (-1)] 24)).cell? ⟨Bh, 1, none⟩ = some (.int .i64 5) := by simp [go_sem, h1___]
      have k0_ : ((on ux).alloc (.cells #[.int .u8 4, .int .i64 (-1)] 24)).cell? ⟨Bk, 0, none⟩ = some (.int .u8 3) := by simp [go_sem, k0]
      have k1_ : ((on ux).alloc (.cells #[.int .u8 4, .int .i64 (-1)] 24)).cell? ⟨Bk, 1, none⟩ = some (.int .i64 2) := by simp [go_sem, k1]
      have l0 : ((on ux).alloc (.cells #[.int .u8 4, .int .i64 (-1)] 24)).cell? ⟨(on ux).heap.size, 0, none⟩ = some (.int .u8 4) := by simp [go_sem]
      have l1 : ((on ux).alloc (.cells #[.int .u8 4, .int .i64 (-1)] 24)).cell? ⟨(on ux).heap.size, 1, none⟩ = some (.int .i64 (-1)) := by simp [go_sem]
      clear g0____ g1____ h0___ h1___ k0 k1 hB15
      generalize (on ux).alloc (.cells #[.int .u8 4, .int .i64 (-1)] 24) = W16 at *
      generalize (on ux).heap.size = Bl at *
      clear ux
      go_wp2_with fail
      refine region_later (by kernel_rfl) (by kernel_rfl) ?_
      repeat (go_big_quiet_step ((first | (go_at_call 26; with_reducible exact Calls.later (line_any _ _ _)) | (go_at_call 18; with_reducible exact Calls.later (point_any _ _ _)))))
      refine wpQuiet_nil ?_
      rintro _ ⟨ux, rfl⟩
      clear g0_____ g1_____ h0____ h1____ k0_ k1_ l0 l1
      have hB17 : Below w.heap.size w (on ux) := below_on hB16 ux
      clear hB16
      generalize on ux = W17 at *
      clear ux
      go_wp2_with fail
      (go_at_call 52; with_reducible refine (parse_k1 _ (hT' _ hB17)).mono ?_; rintro e wx ⟨rfl, hx⟩; obtain ⟨ux, rfl⟩ := after hx; clear hx)
      go_wp2_with fail
      have hB18 : Below w.heap.size w ((on ux).alloc (.cells #[.int .u8 2, .int .i64 (-2)] 24)) := by
        have bw : Below w.heap.size w W17 := hB17
        repeat first | exact bw | (with_reducible refine below_on ?_ _) | (with_reducible refine below_alloc ?_ _)
      have m0 : ((on ux).alloc (.cells #[.int .u8 2, .int .i64 (-2)] 24)).cell? ⟨(on ux).heap.size, 0, none⟩ = some (.int .u8 2) := by simp [go_sem]
      have m1 : ((on ux).alloc (.cells #[.int .u8 2, .int .i64 (-2)] 24)).cell? ⟨(on ux).heap.size, 1, none⟩ = some (.int .i64 (-2)) := by simp [go_sem]
      clear  hB17
      generalize (on ux).alloc (.cells #[.int .u8 2, .int .i64 (-2)] 24) = W18 at *
      generalize (on ux).heap.size = Bm at *
      clear ux
      go_wp2_with fail
      (go_at_call 52; with_reducible refine (parse_k2 _ (hT' _ hB18)).mono ?_; rintro e wx ⟨rfl, hx⟩; obtain ⟨ux, rfl⟩ := after hx; clear hx)
      go_wp2_with fail
      have hB19 : Below w.heap.size w ((on ux).alloc (.cells #[.int .u8 0, .int .i64 (0)] 24)) := by
        have bw : Below w.heap.size w W18 := hB18
        repeat first | exact bw | (with_reducible refine below_on ?_ _) | (with_reducible refine below_alloc ?_ _)
      have m0_ : ((on ux).alloc (.cells #[.int .u8 0, .int .i64 (0)] 24)).cell? ⟨Bm, 0, none⟩ = some (.int .u8 2) := by simp [go_sem, m0]
      have m1_ : ((on ux).alloc (.cells #[.int .u8 0, .int .i64 (0)] 24)).cell? ⟨Bm, 1, none⟩ = some (.int .i64 (-2)) := by simp [go_sem, m1]
      clear m0 m1 hB18
      generalize (on ux).alloc (.cells #[.int .u8 0, .int .i64 (0)] 24) = W19 at *
      generalize (on ux).heap.size = Bn at *
      clear ux
      go_wp2_with fail
      (go_at_call 52; with_reducible refine (parse_k3 _ (hT' _ hB19)).mono ?_; rintro e wx ⟨rfl, hx⟩; obtain ⟨ux, rfl⟩ := after hx; clear hx)
      go_wp2_with fail
      have hB20 : Below w.heap.size w ((on ux).alloc (.cells #[.int .u8 0, .int .i64 (0)] 24)) := by
        have bw : Below w.heap.size w W19 := hB19
        repeat first | exact bw | (with_reducible refine below_on ?_ _) | (with_reducible refine below_alloc ?_ _)
      have m0__ : ((on ux).alloc (.cells #[.int .u8 0, .int .i64 (0)] 24)).cell? ⟨Bm, 0, none⟩ = some (.int .u8 2) := by simp [go_sem, m0_]
      have m1__ : ((on ux).alloc (.cells #[.int .u8 0, .int .i64 (0)] 24)).cell? ⟨Bm, 1, none⟩ = some (.int .i64 (-2)) := by simp [go_sem, m1_]
      clear m0_ m1_ hB19
      generalize (on ux).alloc (.cells #[.int .u8 0, .int .i64 (0)] 24) = W20 at *
      generalize (on ux).heap.size = Bo at *
      clear ux
      go_wp2_with fail
      (go_at_call 52; with_reducible refine (parse_k4 _ (hT' _ hB20)).mono ?_; rintro e wx ⟨rfl, hx⟩; obtain ⟨ux, rfl⟩ := after hx; clear hx)
      go_wp2_with fail
      have hB21 : Below w.heap.size w ((on ux).alloc (.cells #[.int .u8 0, .int .i64 (0)] 24)) := by
        have bw : Below w.heap.size w W20 := hB20
        repeat first | exact bw | (with_reducible refine below_on ?_ _) | (with_reducible refine below_alloc ?_ _)
      have m0___ : ((on ux).alloc (.cells #[.int .u8 0, .int .i64 (0)] 24)).cell? ⟨Bm, 0, none⟩ = some (.int .u8 2) := by simp [go_sem, m0__]
      have m1___ : ((on ux).alloc (.cells #[.int .u8 0, .int .i64 (0)] 24)).cell? ⟨Bm, 1, none⟩ = some (.int .i64 (-2)) := by simp [go_sem, m1__]
      clear m0__ m1__ hB20
      generalize (on ux).alloc (.cells #[.int .u8 0, .int .i64 (0)] 24) = W21 at *
      generalize (on ux).heap.size = Bp at *
      clear ux
      go_wp2_with fail
      refine region_later (by kernel_rfl) (by kernel_rfl) ?_
      repeat (go_big_quiet_step ((first | (go_at_call 26; with_reducible exact Calls.later (line_any _ _ _)) | (go_at_call 18; with_reducible exact Calls.later (point_any _ _ _)))))
      refine wpQuiet_nil ?_
      rintro _ ⟨ux, rfl⟩
      go_wp2_with fail
      go_ret
      exact ⟨rfl, below_on hB21 ux⟩

end Go.Proofs.YtbcmfenekpllhaaDoor
