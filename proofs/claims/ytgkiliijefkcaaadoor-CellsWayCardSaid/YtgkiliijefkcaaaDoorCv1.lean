/-
  Says: the examples of the chapter on cells hold.
-/
import Derived.Test.YtgkiliijefkcaaaDoorCv0
import Derived.Deep.RegionHeld3
set_option linter.unusedVariables false
set_option linter.unusedSimpArgs false
namespace Go.Proofs.YtgkiliijefkcaaaDoor
open Go Go.RowKit

attribute [local go_sem] World.cell?_alloc_some frozen?_alloc_cells fz0 fz1 fz2 fz3 fz4 fz5
attribute [local go_sem] eql_pt3

section
variable {P : Program} {l : List Oper} {Q : Exit → Act → World → Prop} {md : Region.Mode} {S : World → Prop}
theorem get_drop {α : Type} {l r : List α} {i : Nat} {o : α} (h : l.drop i = o :: r) : l.toArray[i]? = some o := by
  have : (l.drop i)[0]? = some o := by rw [h]; rfl
  simpa using this
/-- Taken first, the operation written out. -/
theorem takeL {i : Nat} {oi : Oper} {r : List Oper} {v : Value} {fuel : Nat} {listed : Array Bool} {a : Act} {w : World} (hi : l.drop i = oi :: r)
    (hs : Region.noSelect l.toArray = true) (hf : Region.free md l.toArray listed i = true) (hr : (Region.ready md l.toArray listed).contains i = true)
    (hQ : ∀ c a w, Q (.panic c) (a.put oi.dst v) w → Q (.panic c) a w) (hy : YieldsIf P l.toArray S oi v a) (hS : S w)
    (h : wpAnyH P md l.toArray Q S fuel (listed.setIfInBounds i true) (a.put oi.dst v) w) : wpAnyH P md l.toArray Q S (fuel + 1) listed a w :=
  wpAnyH_take (get_drop hi) hs hf hr hQ hy hS h
/-- The only one that may come up. -/
theorem consL {i : Nat} {o : Oper} {r : List Oper} {fuel : Nat} {listed : Array Bool} {a : Act} {w : World} (hi : l.drop i = o :: r)
    (h : ∀ K' : Act → World → Prop, Shut (∀ a w, S w → (S w → wpAnyH P md l.toArray Q S fuel (listed.setIfInBounds i true) a w) → K' a w) → if Region.wanted o (yielded l.toArray a.tmps) = true then Oper.wp P o a w K' Q else K' (a.put o.dst undef) w) : AllReadyH P md l.toArray Q S fuel listed a w [i] :=
  AllReadyH.cons (get_drop hi) h AllReadyH.nil
end

set_option maxRecDepth 100000 in
set_option maxHeartbeats 16000000 in
theorem clives_ok (w : World) (hL : Lay w) : Calls Tryd.prog 15 #[] w fun e w' => e = .returned (.bool true) ∧ Below w.heap.size w w' := by
  have hL' : ∀ W, Below w.heap.size w W → Lay W := fun W h => lay_below hL h
  have hw0 : Below w.heap.size w w := Below.refl _ _
  go_enter Tryd.func15, Tryd.ntmps15
  go_wp2_with fail
  go_loopw [1] (fun iv wr => ∃ i : Int, iv = .int .u8 i ∧ (i = 0 ∨ i = 1 ∨ i = 2 ∨ i = 3) ∧ ∃ u : Later w, wr = on u) (fun iv _ => (3 - intOf iv).toNat)
  case atStart => exact ⟨0, rfl, by omega, ⟨_, hw0⟩, rfl⟩
  case round =>
    obtain ⟨i, rfl, hi, u0, rfl⟩ := hrel
    have hq : Below w.heap.size w (on u0) := u0.b
    obtain rfl | rfl | rfl | rfl := hi
    · go_wp2_with (first | (go_at_call 39; with_reducible refine (cell_any _ _ _ _).mono ?_; rintro e wx ⟨rfl, hx⟩; obtain ⟨uv, rfl⟩ := after hx; clear hx) | fail)
      go_wp2_with (first | (go_at_call 11; with_reducible refine (lv_l0 _ (hL' _ (by repeat first | (with_reducible exact hq) | (with_reducible refine below_drew ?_) | (with_reducible refine below_on ?_ _) | (with_reducible refine below_alloc ?_ _) | (with_reducible refine below_set ?_ (by simp; try omega) _)))).mono ?_; rintro e wx ⟨rfl, hx⟩; obtain ⟨ux, rfl⟩ := after hx; clear hx) | fail)
      have hR : Below ((on u0)).heap.size ((on u0)) ((on ux).alloc (.cells #[.int .u8 2, .int .i64 5] 26)) := by repeat first | (with_reducible exact Below.refl _ _) | (with_reducible refine below_on ?_ _) | (with_reducible refine below_alloc ?_ _)
      have B100 : ((on ux).alloc (.cells #[.int .u8 2, .int .i64 5] 26)).cell? ⟨(on ux).heap.size, 0, none⟩ = some (.int .u8 2) := by simp [go_sem]
      have B101 : ((on ux).alloc (.cells #[.int .u8 2, .int .i64 5] 26)).cell? ⟨(on ux).heap.size, 1, none⟩ = some (.int .i64 5) := by simp [go_sem]
      have hB1 : Below w.heap.size w ((on ux).alloc (.cells #[.int .u8 2, .int .i64 5] 26)) := by repeat first | (with_reducible exact hq) | (with_reducible refine below_on ?_ _) | (with_reducible refine below_alloc ?_ _)
      clear hR   hq
      generalize ((on ux).alloc (.cells #[.int .u8 2, .int .i64 5] 26)) = W1 at *
      generalize (on ux).heap.size = B1 at *
      clear ux
      go_wp2_with (first | (go_at_call 39; with_reducible refine (cell_any _ _ _ _).mono ?_; rintro e wx ⟨rfl, hx⟩; obtain ⟨uv, rfl⟩ := after hx; clear hx) | fail)
      go_wp2_with (first | (go_at_call 19; with_reducible refine (lv_n0 _ (hL' _ (by repeat first | (with_reducible exact hB1) | (with_reducible refine below_drew ?_) | (with_reducible refine below_on ?_ _) | (with_reducible refine below_alloc ?_ _) | (with_reducible refine below_set ?_ (by simp; try omega) _)))).mono ?_; rintro e wx ⟨rfl, hx⟩; obtain ⟨ux, rfl⟩ := after hx; clear hx) | fail)
      have hR : Below (W1).heap.size (W1) ((on ux).alloc (.cells #[.int .i64 0, .int .i64 (-1), .int .u8 2] 23)) := by repeat first | (with_reducible exact Below.refl _ _) | (with_reducible refine below_on ?_ _) | (with_reducible refine below_alloc ?_ _)
      have cR : ∀ {b_ i_ : Nat} {v_ : Value}, (W1).cell? ⟨b_, i_, none⟩ = some v_ → ((on ux).alloc (.cells #[.int .i64 0, .int .i64 (-1), .int .u8 2] 23)).cell? ⟨b_, i_, none⟩ = some v_ := fun h => (hR.cell (World.block_lt_of_cell? _ _ h)).trans h
      have B100' := cR B100
      have B101' := cR B101
      have B200 : ((on ux).alloc (.cells #[.int .i64 0, .int .i64 (-1), .int .u8 2] 23)).cell? ⟨(on ux).heap.size, 0, none⟩ = some (.int .i64 0) := by simp [go_sem]
      have B201 : ((on ux).alloc (.cells #[.int .i64 0, .int .i64 (-1), .int .u8 2] 23)).cell? ⟨(on ux).heap.size, 1, none⟩ = some (.int .i64 (-1)) := by simp [go_sem]
      have B202 : ((on ux).alloc (.cells #[.int .i64 0, .int .i64 (-1), .int .u8 2] 23)).cell? ⟨(on ux).heap.size, 2, none⟩ = some (.int .u8 2) := by simp [go_sem]
      have hB2 : Below w.heap.size w ((on ux).alloc (.cells #[.int .i64 0, .int .i64 (-1), .int .u8 2] 23)) := by repeat first | (with_reducible exact hB1) | (with_reducible refine below_on ?_ _) | (with_reducible refine below_alloc ?_ _)
      clear hR cR B100 B101  hB1
      generalize ((on ux).alloc (.cells #[.int .i64 0, .int .i64 (-1), .int .u8 2] 23)) = W2 at *
      generalize (on ux).heap.size = B2 at *
      clear ux
      have z1 : B1 < W2.heap.size := World.block_lt_of_cell? _ _ B100'
      have z2 : B2 < W2.heap.size := World.block_lt_of_cell? _ _ B200
      refine wp_region_held_drew (S := fun w' => w'.cell? ⟨B1, 0, none⟩ = some (.int .u8 2) ∧ w'.cell? ⟨B1, 1, none⟩ = some (.int .i64 5) ∧ w'.cell? ⟨B2, 0, none⟩ = some (.int .i64 0) ∧ w'.cell? ⟨B2, 1, none⟩ = some (.int .i64 (-1)) ∧ w'.cell? ⟨B2, 2, none⟩ = some (.int .u8 2)) (by kernel_rfl) ?_ (fun hHeld => ?_)
      · ((try dsimp only); (first | (simp [go_sem, *]; done) | fail))
      refine takeL (i := 0) (v := ?_) rfl (by kernel_rfl) (by kernel_rfl) (by kernel_rfl) (fun _ _ _ h => h) (Or.inl ⟨by rfl, ?_⟩) (by assumption) ?_
      rotate_left
      · (intro w hSw; (try dsimp only at hSw); go_simp; try (with_reducible rfl))
      try simp only [Act.put, List.setIfInBounds_toArray, List.set_cons_zero, List.set_cons_succ]
      refine takeL (i := 5) (v := ?_) rfl (by kernel_rfl) (by kernel_rfl) (by kernel_rfl) (fun _ _ _ h => h) (Or.inl ⟨by rfl, ?_⟩) (by assumption) ?_
      rotate_left
      · (intro w hSw; (try dsimp only at hSw); go_simp; try (with_reducible rfl))
      try simp only [Act.put, List.setIfInBounds_toArray, List.set_cons_zero, List.set_cons_succ]
      refine wpAnyH_ready (rs := [1]) (by kernel_rfl) (by simp) ?_
      refine consL rfl (fun K hK => ?_)
      go_simp
      (first | (go_at_call 45; with_reducible refine (line_any _ _ _).mono ?_; rintro e wx ⟨rfl, hx⟩; obtain ⟨ux, rfl⟩ := after hx; clear hx; have s0 : W2.heap.size ≤ (on ux).heap.size := (by have := on_size ux; (try simp at this); omega); have n0 : ¬ (on ux).heap.size = B1 := (by omega); have n1 : ¬ (on ux).heap.size = B2 := (by omega)))
      refine hK.out _ _ ?_ (fun hHeld => ?_)
      · ((try dsimp only); (first | (simp [go_sem, *]; done) | fail))
      clear hK K
      try simp only [Act.put, List.setIfInBounds_toArray, List.set_cons_zero, List.set_cons_succ]
      refine wpAnyH_ready (rs := [2]) (by kernel_rfl) (by simp) ?_
      refine consL rfl (fun K hK => ?_)
      go_simp
      (first | (go_at_call 45; with_reducible refine (line_any _ _ _).mono ?_; rintro e wx ⟨rfl, hx⟩; obtain ⟨ux, rfl⟩ := after hx; clear hx; have s0 : W2.heap.size ≤ (on ux).heap.size := (by have := on_size ux; (try simp at this); omega); have n0 : ¬ (on ux).heap.size = B1 := (by omega); have n1 : ¬ (on ux).heap.size = B2 := (by omega)))
      refine hK.out _ _ ?_ (fun hHeld => ?_)
      · ((try dsimp only); (first | (simp [go_sem, *]; done) | fail))
      clear hK K
      try simp only [Act.put, List.setIfInBounds_toArray, List.set_cons_zero, List.set_cons_succ]
      refine wpAnyH_ready (rs := [3]) (by kernel_rfl) (by simp) ?_
      refine consL rfl (fun K hK => ?_)
      go_simp
      (first | (go_at_call 45; with_reducible refine (line_any _ _ _).mono ?_; rintro e wx ⟨rfl, hx⟩; obtain ⟨ux, rfl⟩ := after hx; clear hx; have s0 : W2.heap.size ≤ (on ux).heap.size := (by have := on_size ux; (try simp at this); omega); have n0 : ¬ (on ux).heap.size = B1 := (by omega); have n1 : ¬ (on ux).heap.size = B2 := (by omega)))
      refine hK.out _ _ ?_ (fun hHeld => ?_)
      · ((try dsimp only); (first | (simp [go_sem, *]; done) | fail))
      clear hK K
      try simp only [Act.put, List.setIfInBounds_toArray, List.set_cons_zero, List.set_cons_succ]
      refine wpAnyH_ready (rs := [4]) (by kernel_rfl) (by simp) ?_
      refine consL rfl (fun K hK => ?_)
      go_simp
      refine hK.out _ _ ?_ (fun hHeld => ?_)
      · ((try dsimp only); (first | (simp [go_sem, *]; done) | fail))
      clear hK K
      try simp only [Act.put, List.setIfInBounds_toArray, List.set_cons_zero, List.set_cons_succ]
      refine takeL (i := 6) (v := ?_) rfl (by kernel_rfl) (by kernel_rfl) (by kernel_rfl) (fun _ _ _ h => h) (Or.inl ⟨by rfl, ?_⟩) (by assumption) ?_
      rotate_left
      · (intro w hSw; (try dsimp only at hSw); go_simp; try (with_reducible rfl))
      try simp only [Act.put, List.setIfInBounds_toArray, List.set_cons_zero, List.set_cons_succ]
      refine wpAnyH_ready (rs := [7]) (by kernel_rfl) (by simp) ?_
      refine consL rfl (fun K hK => ?_)
      go_simp
      refine hK.out _ _ ?_ (fun hHeld => ?_)
      · ((try dsimp only); (first | (simp [go_sem, *]; done) | fail))
      clear hK K
      try simp only [Act.put, List.setIfInBounds_toArray, List.set_cons_zero, List.set_cons_succ]
      refine takeL (i := 8) (v := ?_) rfl (by kernel_rfl) (by kernel_rfl) (by kernel_rfl) (fun _ _ _ h => h) (Or.inl ⟨by rfl, ?_⟩) (by assumption) ?_
      rotate_left
      · (intro w hSw; (try dsimp only at hSw); go_simp; try (with_reducible rfl))
      try simp only [Act.put, List.setIfInBounds_toArray, List.set_cons_zero, List.set_cons_succ]
      refine takeL (i := 9) (v := ?_) rfl (by kernel_rfl) (by kernel_rfl) (by kernel_rfl) (fun _ _ _ h => h) (Or.inl ⟨by rfl, ?_⟩) (by assumption) ?_
      rotate_left
      · (intro w hSw; (try dsimp only at hSw); go_simp; try (with_reducible rfl))
      try simp only [Act.put, List.setIfInBounds_toArray, List.set_cons_zero, List.set_cons_succ]
      refine takeL (i := 10) (v := ?_) rfl (by kernel_rfl) (by kernel_rfl) (by kernel_rfl) (fun _ _ _ h => h) (Or.inl ⟨by rfl, ?_⟩) (by assumption) ?_
      rotate_left
      · (intro w hSw; (try dsimp only at hSw); go_simp; try (with_reducible rfl))
      try simp only [Act.put, List.setIfInBounds_toArray, List.set_cons_zero, List.set_cons_succ]
      refine takeL (i := 11) (v := ?_) rfl (by kernel_rfl) (by kernel_rfl) (by kernel_rfl) (fun _ _ _ h => h) (Or.inl ⟨by rfl, ?_⟩) (by assumption) ?_
      rotate_left
      · (intro w hSw; (try dsimp only at hSw); go_simp; try (with_reducible rfl))
      try simp only [Act.put, List.setIfInBounds_toArray, List.set_cons_zero, List.set_cons_succ]
      refine takeL (i := 12) (v := ?_) rfl (by kernel_rfl) (by kernel_rfl) (by kernel_rfl) (fun _ _ _ h => h) (Or.inl ⟨by rfl, ?_⟩) (by assumption) ?_
      rotate_left
      · (intro w hSw; (try dsimp only at hSw); go_simp; try (with_reducible rfl))
      try simp only [Act.put, List.setIfInBounds_toArray, List.set_cons_zero, List.set_cons_succ]
      refine takeL (i := 13) (v := ?_) rfl (by kernel_rfl) (by kernel_rfl) (by kernel_rfl) (fun _ _ _ h => h) (Or.inl ⟨by rfl, ?_⟩) (by assumption) ?_
      rotate_left
      · (intro w hSw; (try dsimp only at hSw); go_simp; try (with_reducible rfl))
      try simp only [Act.put, List.setIfInBounds_toArray, List.set_cons_zero, List.set_cons_succ]
      refine takeL (i := 14) (v := ?_) rfl (by kernel_rfl) (by kernel_rfl) (by kernel_rfl) (fun _ _ _ h => h) (Or.inl ⟨by rfl, ?_⟩) (by assumption) ?_
      rotate_left
      · (intro w hSw; (try dsimp only at hSw); go_simp; try (with_reducible rfl))
      try simp only [Act.put, List.setIfInBounds_toArray, List.set_cons_zero, List.set_cons_succ]
      refine takeL (i := 19) (v := ?_) rfl (by kernel_rfl) (by kernel_rfl) (by kernel_rfl) (fun _ _ _ h => h) (Or.inl ⟨by rfl, ?_⟩) (by assumption) ?_
      rotate_left
      · (intro w hSw; (try dsimp only at hSw); go_simp; try (with_reducible rfl))
      try simp only [Act.put, List.setIfInBounds_toArray, List.set_cons_zero, List.set_cons_succ]
      refine wpAnyH_ready (rs := [15]) (by kernel_rfl) (by simp) ?_
      refine consL rfl (fun K hK => ?_)
      go_simp
      (first | (go_at_call 39; with_reducible refine (cell_any _ _ _ _).mono ?_; rintro e wx ⟨rfl, hx⟩; obtain ⟨ux, rfl⟩ := after hx; clear hx; have s0 : W2.heap.size ≤ (on ux).heap.size := (by have := on_size ux; (try simp at this); omega); have n0 : ¬ (on ux).heap.size = B1 := (by omega); have n1 : ¬ (on ux).heap.size = B2 := (by omega)))
      refine hK.out _ _ ?_ (fun hHeld => ?_)
      · ((try dsimp only); (first | (simp [go_sem, *]; done) | fail))
      clear hK K
      try simp only [Act.put, List.setIfInBounds_toArray, List.set_cons_zero, List.set_cons_succ]
      refine wpAnyH_ready (rs := [16]) (by kernel_rfl) (by simp) ?_
      refine consL rfl (fun K hK => ?_)
      go_simp
      (first | (go_at_call 39; with_reducible refine (cell_any _ _ _ _).mono ?_; rintro e wx ⟨rfl, hx⟩; obtain ⟨ux, rfl⟩ := after hx; clear hx; have s0 : W2.heap.size ≤ (on ux).heap.size := (by have := on_size ux; (try simp at this); omega); have n0 : ¬ (on ux).heap.size = B1 := (by omega); have n1 : ¬ (on ux).heap.size = B2 := (by omega)))
      refine hK.out _ _ ?_ (fun hHeld => ?_)
      · ((try dsimp only); (first | (simp [go_sem, *]; done) | fail))
      clear hK K
      try simp only [Act.put, List.setIfInBounds_toArray, List.set_cons_zero, List.set_cons_succ]
      refine wpAnyH_ready (rs := [17]) (by kernel_rfl) (by simp) ?_
      refine consL rfl (fun K hK => ?_)
      go_simp
      (first | (go_at_call 39; with_reducible refine (cell_any _ _ _ _).mono ?_; rintro e wx ⟨rfl, hx⟩; obtain ⟨ux, rfl⟩ := after hx; clear hx; have s0 : W2.heap.size ≤ (on ux).heap.size := (by have := on_size ux; (try simp at this); omega); have n0 : ¬ (on ux).heap.size = B1 := (by omega); have n1 : ¬ (on ux).heap.size = B2 := (by omega)))
      refine hK.out _ _ ?_ (fun hHeld => ?_)
      · ((try dsimp only); (first | (simp [go_sem, *]; done) | fail))
      clear hK K
      try simp only [Act.put, List.setIfInBounds_toArray, List.set_cons_zero, List.set_cons_succ]
      refine wpAnyH_ready (rs := [18]) (by kernel_rfl) (by simp) ?_
      refine consL rfl (fun K hK => ?_)
      go_simp
      refine hK.out _ _ ?_ (fun hHeld => ?_)
      · ((try dsimp only); (first | (simp [go_sem, *]; done) | fail))
      clear hK K
      try simp only [Act.put, List.setIfInBounds_toArray, List.set_cons_zero, List.set_cons_succ]
      refine takeL (i := 20) (v := ?_) rfl (by kernel_rfl) (by kernel_rfl) (by kernel_rfl) (fun _ _ _ h => h) (Or.inl ⟨by rfl, ?_⟩) (by assumption) ?_
      rotate_left
      · (intro w hSw; (try dsimp only at hSw); go_simp; try (with_reducible rfl))
      try simp only [Act.put, List.setIfInBounds_toArray, List.set_cons_zero, List.set_cons_succ]
      refine wpAnyH_ready (rs := [21]) (by kernel_rfl) (by simp) ?_
      refine consL rfl (fun K hK => ?_)
      go_simp
      refine hK.out _ _ ?_ (fun hHeld => ?_)
      · ((try dsimp only); (first | (simp [go_sem, *]; done) | fail))
      clear hK K
      try simp only [Act.put, List.setIfInBounds_toArray, List.set_cons_zero, List.set_cons_succ]
      refine takeL (i := 22) (v := ?_) rfl (by kernel_rfl) (by kernel_rfl) (by kernel_rfl) (fun _ _ _ h => h) (Or.inl ⟨by rfl, ?_⟩) (by assumption) ?_
      rotate_left
      · (intro w hSw; (try dsimp only at hSw); go_simp; try (with_reducible rfl))
      try simp only [Act.put, List.setIfInBounds_toArray, List.set_cons_zero, List.set_cons_succ]
      refine takeL (i := 23) (v := ?_) rfl (by kernel_rfl) (by kernel_rfl) (by kernel_rfl) (fun _ _ _ h => h) (Or.inl ⟨by rfl, ?_⟩) (by assumption) ?_
      rotate_left
      · (intro w hSw; (try dsimp only at hSw); go_simp; try (with_reducible rfl))
      try simp only [Act.put, List.setIfInBounds_toArray, List.set_cons_zero, List.set_cons_succ]
      refine takeL (i := 24) (v := ?_) rfl (by kernel_rfl) (by kernel_rfl) (by kernel_rfl) (fun _ _ _ h => h) (Or.inl ⟨by rfl, ?_⟩) (by assumption) ?_
      rotate_left
      · (intro w hSw; (try dsimp only at hSw); go_simp; try (with_reducible rfl))
      try simp only [Act.put, List.setIfInBounds_toArray, List.set_cons_zero, List.set_cons_succ]
      refine takeL (i := 25) (v := ?_) rfl (by kernel_rfl) (by kernel_rfl) (by kernel_rfl) (fun _ _ _ h => h) (Or.inl ⟨by rfl, ?_⟩) (by assumption) ?_
      rotate_left
      · (intro w hSw; (try dsimp only at hSw); go_simp; try (with_reducible rfl))
      try simp only [Act.put, List.setIfInBounds_toArray, List.set_cons_zero, List.set_cons_succ]
      refine takeL (i := 26) (v := ?_) rfl (by kernel_rfl) (by kernel_rfl) (by kernel_rfl) (fun _ _ _ h => h) (Or.inl ⟨by rfl, ?_⟩) (by assumption) ?_
      rotate_left
      · (intro w hSw; (try dsimp only at hSw); go_simp; try (with_reducible rfl))
      try simp only [Act.put, List.setIfInBounds_toArray, List.set_cons_zero, List.set_cons_succ]
      refine takeL (i := 27) (v := ?_) rfl (by kernel_rfl) (by kernel_rfl) (by kernel_rfl) (fun _ _ _ h => h) (Or.inl ⟨by rfl, ?_⟩) (by assumption) ?_
      rotate_left
      · (intro w hSw; (try dsimp only at hSw); go_simp; try (with_reducible rfl))
      try simp only [Act.put, List.setIfInBounds_toArray, List.set_cons_zero, List.set_cons_succ]
      refine wpAnyH_done (by kernel_rfl) ?_ _
      go_wp2_with fail
      exact ⟨⟨0 + 1, rfl, by omega, after (by repeat first | (with_reducible exact hB2) | (with_reducible refine below_drew ?_) | (with_reducible refine below_on ?_ _) | (with_reducible refine below_alloc ?_ _) | (with_reducible refine below_set ?_ (by simp; try omega) _))⟩, by simp [intOf]⟩
    · go_wp2_with (first | (go_at_call 39; with_reducible refine (cell_any _ _ _ _).mono ?_; rintro e wx ⟨rfl, hx⟩; obtain ⟨uv, rfl⟩ := after hx; clear hx) | fail)
      go_wp2_with (first | (go_at_call 11; with_reducible refine (lv_l1 _ (hL' _ (by repeat first | (with_reducible exact hq) | (with_reducible refine below_drew ?_) | (with_reducible refine below_on ?_ _) | (with_reducible refine below_alloc ?_ _) | (with_reducible refine below_set ?_ (by simp; try omega) _)))).mono ?_; rintro e wx ⟨rfl, hx⟩; obtain ⟨ux, rfl⟩ := after hx; clear hx) | fail)
      have hR : Below ((on u0)).heap.size ((on u0)) ((on ux).alloc (.cells #[.int .u8 3, .int .i64 8] 26)) := by repeat first | (with_reducible exact Below.refl _ _) | (with_reducible refine below_on ?_ _) | (with_reducible refine below_alloc ?_ _)
      have B100 : ((on ux).alloc (.cells #[.int .u8 3, .int .i64 8] 26)).cell? ⟨(on ux).heap.size, 0, none⟩ = some (.int .u8 3) := by simp [go_sem]
      have B101 : ((on ux).alloc (.cells #[.int .u8 3, .int .i64 8] 26)).cell? ⟨(on ux).heap.size, 1, none⟩ = some (.int .i64 8) := by simp [go_sem]
      have hB1 : Below w.heap.size w ((on ux).alloc (.cells #[.int .u8 3, .int .i64 8] 26)) := by repeat first | (with_reducible exact hq) | (with_reducible refine below_on ?_ _) | (with_reducible refine below_alloc ?_ _)
      clear hR   hq
      generalize ((on ux).alloc (.cells #[.int .u8 3, .int .i64 8] 26)) = W1 at *
      generalize (on ux).heap.size = B1 at *
      clear ux
      go_wp2_with (first | (go_at_call 39; with_reducible refine (cell_any _ _ _ _).mono ?_; rintro e wx ⟨rfl, hx⟩; obtain ⟨uv, rfl⟩ := after hx; clear hx) | fail)
      go_wp2_with (first | (go_at_call 19; with_reducible refine (lv_n1 _ (hL' _ (by repeat first | (with_reducible exact hB1) | (with_reducible refine below_drew ?_) | (with_reducible refine below_on ?_ _) | (with_reducible refine below_alloc ?_ _) | (with_reducible refine below_set ?_ (by simp; try omega) _)))).mono ?_; rintro e wx ⟨rfl, hx⟩; obtain ⟨ux, rfl⟩ := after hx; clear hx) | fail)
      have hR : Below (W1).heap.size (W1) ((on ux).alloc (.cells #[.int .i64 0, .int .i64 0, .int .u8 1] 23)) := by repeat first | (with_reducible exact Below.refl _ _) | (with_reducible refine below_on ?_ _) | (with_reducible refine below_alloc ?_ _)
      have cR : ∀ {b_ i_ : Nat} {v_ : Value}, (W1).cell? ⟨b_, i_, none⟩ = some v_ → ((on ux).alloc (.cells #[.int .i64 0, .int .i64 0, .int .u8 1] 23)).cell? ⟨b_, i_, none⟩ = some v_ := fun h => (hR.cell (World.block_lt_of_cell? _ _ h)).trans h
      have B100' := cR B100
      have B101' := cR B101
      have B200 : ((on ux).alloc (.cells #[.int .i64 0, .int .i64 0, .int .u8 1] 23)).cell? ⟨(on ux).heap.size, 0, none⟩ = some (.int .i64 0) := by simp [go_sem]
      have B201 : ((on ux).alloc (.cells #[.int .i64 0, .int .i64 0, .int .u8 1] 23)).cell? ⟨(on ux).heap.size, 1, none⟩ = some (.int .i64 0) := by simp [go_sem]
      have B202 : ((on ux).alloc (.cells #[.int .i64 0, .int .i64 0, .int .u8 1] 23)).cell? ⟨(on ux).heap.size, 2, none⟩ = some (.int .u8 1) := by simp [go_sem]
      have hB2 : Below w.heap.size w ((on ux).alloc (.cells #[.int .i64 0, .int .i64 0, .int .u8 1] 23)) := by repeat first | (with_reducible exact hB1) | (with_reducible refine below_on ?_ _) | (with_reducible refine below_alloc ?_ _)
      clear hR cR B100 B101  hB1
      generalize ((on ux).alloc (.cells #[.int .i64 0, .int .i64 0, .int .u8 1] 23)) = W2 at *
      generalize (on ux).heap.size = B2 at *
      clear ux
      have z1 : B1 < W2.heap.size := World.block_lt_of_cell? _ _ B100'
      have z2 : B2 < W2.heap.size := World.block_lt_of_cell? _ _ B200
      refine wp_region_held_drew (S := fun w' => w'.cell? ⟨B1, 0, none⟩ = some (.int .u8 3) ∧ w'.cell? ⟨B1, 1, none⟩ = some (.int .i64 8) ∧ w'.cell? ⟨B2, 0, none⟩ = some (.int .i64 0) ∧ w'.cell? ⟨B2, 1, none⟩ = some (.int .i64 0) ∧ w'.cell? ⟨B2, 2, none⟩ = some (.int .u8 1)) (by kernel_rfl) ?_ (fun hHeld => ?_)
      · ((try dsimp only); (first | (simp [go_sem, *]; done) | fail))
      refine takeL (i := 0) (v := ?_) rfl (by kernel_rfl) (by kernel_rfl) (by kernel_rfl) (fun _ _ _ h => h) (Or.inl ⟨by rfl, ?_⟩) (by assumption) ?_
      rotate_left
      · (intro w hSw; (try dsimp only at hSw); go_simp; try (with_reducible rfl))
      try simp only [Act.put, List.setIfInBounds_toArray, List.set_cons_zero, List.set_cons_succ]
      refine takeL (i := 5) (v := ?_) rfl (by kernel_rfl) (by kernel_rfl) (by kernel_rfl) (fun _ _ _ h => h) (Or.inl ⟨by rfl, ?_⟩) (by assumption) ?_
      rotate_left
      · (intro w hSw; (try dsimp only at hSw); go_simp; try (with_reducible rfl))
      try simp only [Act.put, List.setIfInBounds_toArray, List.set_cons_zero, List.set_cons_succ]
      refine wpAnyH_ready (rs := [1]) (by kernel_rfl) (by simp) ?_
      refine consL rfl (fun K hK => ?_)
      go_simp
      (first | (go_at_call 45; with_reducible refine (line_any _ _ _).mono ?_; rintro e wx ⟨rfl, hx⟩; obtain ⟨ux, rfl⟩ := after hx; clear hx; have s0 : W2.heap.size ≤ (on ux).heap.size := (by have := on_size ux; (try simp at this); omega); have n0 : ¬ (on ux).heap.size = B1 := (by omega); have n1 : ¬ (on ux).heap.size = B2 := (by omega)))
      refine hK.out _ _ ?_ (fun hHeld => ?_)
      · ((try dsimp only); (first | (simp [go_sem, *]; done) | fail))
      clear hK K
      try simp only [Act.put, List.setIfInBounds_toArray, List.set_cons_zero, List.set_cons_succ]
      refine wpAnyH_ready (rs := [2]) (by kernel_rfl) (by simp) ?_
      refine consL rfl (fun K hK => ?_)
      go_simp
      (first | (go_at_call 45; with_reducible refine (line_any _ _ _).mono ?_; rintro e wx ⟨rfl, hx⟩; obtain ⟨ux, rfl⟩ := after hx; clear hx; have s0 : W2.heap.size ≤ (on ux).heap.size := (by have := on_size ux; (try simp at this); omega); have n0 : ¬ (on ux).heap.size = B1 := (by omega); have n1 : ¬ (on ux).heap.size = B2 := (by omega)))
      refine hK.out _ _ ?_ (fun hHeld => ?_)
      · ((try dsimp only); (first | (simp [go_sem, *]; done) | fail))
      clear hK K
      try simp only [Act.put, List.setIfInBounds_toArray, List.set_cons_zero, List.set_cons_succ]
      refine wpAnyH_ready (rs := [3]) (by kernel_rfl) (by simp) ?_
      refine consL rfl (fun K hK => ?_)
      go_simp
      (first | (go_at_call 45; with_reducible refine (line_any _ _ _).mono ?_; rintro e wx ⟨rfl, hx⟩; obtain ⟨ux, rfl⟩ := after hx; clear hx; have s0 : W2.heap.size ≤ (on ux).heap.size := (by have := on_size ux; (try simp at this); omega); have n0 : ¬ (on ux).heap.size = B1 := (by omega); have n1 : ¬ (on ux).heap.size = B2 := (by omega)))
      refine hK.out _ _ ?_ (fun hHeld => ?_)
      · ((try dsimp only); (first | (simp [go_sem, *]; done) | fail))
      clear hK K
      try simp only [Act.put, List.setIfInBounds_toArray, List.set_cons_zero, List.set_cons_succ]
      refine wpAnyH_ready (rs := [4]) (by kernel_rfl) (by simp) ?_
      refine consL rfl (fun K hK => ?_)
      go_simp
      refine hK.out _ _ ?_ (fun hHeld => ?_)
      · ((try dsimp only); (first | (simp [go_sem, *]; done) | fail))
      clear hK K
      try simp only [Act.put, List.setIfInBounds_toArray, List.set_cons_zero, List.set_cons_succ]
      refine takeL (i := 6) (v := ?_) rfl (by kernel_rfl) (by kernel_rfl) (by kernel_rfl) (fun _ _ _ h => h) (Or.inl ⟨by rfl, ?_⟩) (by assumption) ?_
      rotate_left
      · (intro w hSw; (try dsimp only at hSw); go_simp; try (with_reducible rfl))
      try simp only [Act.put, List.setIfInBounds_toArray, List.set_cons_zero, List.set_cons_succ]
      refine wpAnyH_ready (rs := [7]) (by kernel_rfl) (by simp) ?_
      refine consL rfl (fun K hK => ?_)
      go_simp
      refine hK.out _ _ ?_ (fun hHeld => ?_)
      · ((try dsimp only); (first | (simp [go_sem, *]; done) | fail))
      clear hK K
      try simp only [Act.put, List.setIfInBounds_toArray, List.set_cons_zero, List.set_cons_succ]
      refine takeL (i := 8) (v := ?_) rfl (by kernel_rfl) (by kernel_rfl) (by kernel_rfl) (fun _ _ _ h => h) (Or.inl ⟨by rfl, ?_⟩) (by assumption) ?_
      rotate_left
      · (intro w hSw; (try dsimp only at hSw); go_simp; try (with_reducible rfl))
      try simp only [Act.put, List.setIfInBounds_toArray, List.set_cons_zero, List.set_cons_succ]
      refine takeL (i := 9) (v := ?_) rfl (by kernel_rfl) (by kernel_rfl) (by kernel_rfl) (fun _ _ _ h => h) (Or.inl ⟨by rfl, ?_⟩) (by assumption) ?_
      rotate_left
      · (intro w hSw; (try dsimp only at hSw); go_simp; try (with_reducible rfl))
      try simp only [Act.put, List.setIfInBounds_toArray, List.set_cons_zero, List.set_cons_succ]
      refine takeL (i := 10) (v := ?_) rfl (by kernel_rfl) (by kernel_rfl) (by kernel_rfl) (fun _ _ _ h => h) (Or.inl ⟨by rfl, ?_⟩) (by assumption) ?_
      rotate_left
      · (intro w hSw; (try dsimp only at hSw); go_simp; try (with_reducible rfl))
      try simp only [Act.put, List.setIfInBounds_toArray, List.set_cons_zero, List.set_cons_succ]
      refine takeL (i := 11) (v := ?_) rfl (by kernel_rfl) (by kernel_rfl) (by kernel_rfl) (fun _ _ _ h => h) (Or.inl ⟨by rfl, ?_⟩) (by assumption) ?_
      rotate_left
      · (intro w hSw; (try dsimp only at hSw); go_simp; try (with_reducible rfl))
      try simp only [Act.put, List.setIfInBounds_toArray, List.set_cons_zero, List.set_cons_succ]
      refine takeL (i := 12) (v := ?_) rfl (by kernel_rfl) (by kernel_rfl) (by kernel_rfl) (fun _ _ _ h => h) (Or.inl ⟨by rfl, ?_⟩) (by assumption) ?_
      rotate_left
      · (intro w hSw; (try dsimp only at hSw); go_simp; try (with_reducible rfl))
      try simp only [Act.put, List.setIfInBounds_toArray, List.set_cons_zero, List.set_cons_succ]
      refine takeL (i := 13) (v := ?_) rfl (by kernel_rfl) (by kernel_rfl) (by kernel_rfl) (fun _ _ _ h => h) (Or.inl ⟨by rfl, ?_⟩) (by assumption) ?_
      rotate_left
      · (intro w hSw; (try dsimp only at hSw); go_simp; try (with_reducible rfl))
      try simp only [Act.put, List.setIfInBounds_toArray, List.set_cons_zero, List.set_cons_succ]
      refine takeL (i := 14) (v := ?_) rfl (by kernel_rfl) (by kernel_rfl) (by kernel_rfl) (fun _ _ _ h => h) (Or.inl ⟨by rfl, ?_⟩) (by assumption) ?_
      rotate_left
      · (intro w hSw; (try dsimp only at hSw); go_simp; try (with_reducible rfl))
      try simp only [Act.put, List.setIfInBounds_toArray, List.set_cons_zero, List.set_cons_succ]
      refine takeL (i := 19) (v := ?_) rfl (by kernel_rfl) (by kernel_rfl) (by kernel_rfl) (fun _ _ _ h => h) (Or.inl ⟨by rfl, ?_⟩) (by assumption) ?_
      rotate_left
      · (intro w hSw; (try dsimp only at hSw); go_simp; try (with_reducible rfl))
      try simp only [Act.put, List.setIfInBounds_toArray, List.set_cons_zero, List.set_cons_succ]
      refine wpAnyH_ready (rs := [15]) (by kernel_rfl) (by simp) ?_
      refine consL rfl (fun K hK => ?_)
      go_simp
      (first | (go_at_call 39; with_reducible refine (cell_any _ _ _ _).mono ?_; rintro e wx ⟨rfl, hx⟩; obtain ⟨ux, rfl⟩ := after hx; clear hx; have s0 : W2.heap.size ≤ (on ux).heap.size := (by have := on_size ux; (try simp at this); omega); have n0 : ¬ (on ux).heap.size = B1 := (by omega); have n1 : ¬ (on ux).heap.size = B2 := (by omega)))
      refine hK.out _ _ ?_ (fun hHeld => ?_)
      · ((try dsimp only); (first | (simp [go_sem, *]; done) | fail))
      clear hK K
      try simp only [Act.put, List.setIfInBounds_toArray, List.set_cons_zero, List.set_cons_succ]
      refine wpAnyH_ready (rs := [16]) (by kernel_rfl) (by simp) ?_
      refine consL rfl (fun K hK => ?_)
      go_simp
      (first | (go_at_call 39; with_reducible refine (cell_any _ _ _ _).mono ?_; rintro e wx ⟨rfl, hx⟩; obtain ⟨ux, rfl⟩ := after hx; clear hx; have s0 : W2.heap.size ≤ (on ux).heap.size := (by have := on_size ux; (try simp at this); omega); have n0 : ¬ (on ux).heap.size = B1 := (by omega); have n1 : ¬ (on ux).heap.size = B2 := (by omega)))
      refine hK.out _ _ ?_ (fun hHeld => ?_)
      · ((try dsimp only); (first | (simp [go_sem, *]; done) | fail))
      clear hK K
      try simp only [Act.put, List.setIfInBounds_toArray, List.set_cons_zero, List.set_cons_succ]
      refine wpAnyH_ready (rs := [17]) (by kernel_rfl) (by simp) ?_
      refine consL rfl (fun K hK => ?_)
      go_simp
      (first | (go_at_call 39; with_reducible refine (cell_any _ _ _ _).mono ?_; rintro e wx ⟨rfl, hx⟩; obtain ⟨ux, rfl⟩ := after hx; clear hx; have s0 : W2.heap.size ≤ (on ux).heap.size := (by have := on_size ux; (try simp at this); omega); have n0 : ¬ (on ux).heap.size = B1 := (by omega); have n1 : ¬ (on ux).heap.size = B2 := (by omega)))
      refine hK.out _ _ ?_ (fun hHeld => ?_)
      · ((try dsimp only); (first | (simp [go_sem, *]; done) | fail))
      clear hK K
      try simp only [Act.put, List.setIfInBounds_toArray, List.set_cons_zero, List.set_cons_succ]
      refine wpAnyH_ready (rs := [18]) (by kernel_rfl) (by simp) ?_
      refine consL rfl (fun K hK => ?_)
      go_simp
      refine hK.out _ _ ?_ (fun hHeld => ?_)
      · ((try dsimp only); (first | (simp [go_sem, *]; done) | fail))
      clear hK K
      try simp only [Act.put, List.setIfInBounds_toArray, List.set_cons_zero, List.set_cons_succ]
      refine takeL (i := 20) (v := ?_) rfl (by kernel_rfl) (by kernel_rfl) (by kernel_rfl) (fun _ _ _ h => h) (Or.inl ⟨by rfl, ?_⟩) (by assumption) ?_
      rotate_left
      · (intro w hSw; (try dsimp only at hSw); go_simp; try (with_reducible rfl))
      try simp only [Act.put, List.setIfInBounds_toArray, List.set_cons_zero, List.set_cons_succ]
      refine wpAnyH_ready (rs := [21]) (by kernel_rfl) (by simp) ?_
      refine consL rfl (fun K hK => ?_)
      go_simp
      refine hK.out _ _ ?_ (fun hHeld => ?_)
      · ((try dsimp only); (first | (simp [go_sem, *]; done) | fail))
      clear hK K
      try simp only [Act.put, List.setIfInBounds_toArray, List.set_cons_zero, List.set_cons_succ]
      refine takeL (i := 22) (v := ?_) rfl (by kernel_rfl) (by kernel_rfl) (by kernel_rfl) (fun _ _ _ h => h) (Or.inl ⟨by rfl, ?_⟩) (by assumption) ?_
      rotate_left
      · (intro w hSw; (try dsimp only at hSw); go_simp; try (with_reducible rfl))
      try simp only [Act.put, List.setIfInBounds_toArray, List.set_cons_zero, List.set_cons_succ]
      refine takeL (i := 23) (v := ?_) rfl (by kernel_rfl) (by kernel_rfl) (by kernel_rfl) (fun _ _ _ h => h) (Or.inl ⟨by rfl, ?_⟩) (by assumption) ?_
      rotate_left
      · (intro w hSw; (try dsimp only at hSw); go_simp; try (with_reducible rfl))
      try simp only [Act.put, List.setIfInBounds_toArray, List.set_cons_zero, List.set_cons_succ]
      refine takeL (i := 24) (v := ?_) rfl (by kernel_rfl) (by kernel_rfl) (by kernel_rfl) (fun _ _ _ h => h) (Or.inl ⟨by rfl, ?_⟩) (by assumption) ?_
      rotate_left
      · (intro w hSw; (try dsimp only at hSw); go_simp; try (with_reducible rfl))
      try simp only [Act.put, List.setIfInBounds_toArray, List.set_cons_zero, List.set_cons_succ]
      refine takeL (i := 25) (v := ?_) rfl (by kernel_rfl) (by kernel_rfl) (by kernel_rfl) (fun _ _ _ h => h) (Or.inl ⟨by rfl, ?_⟩) (by assumption) ?_
      rotate_left
      · (intro w hSw; (try dsimp only at hSw); go_simp; try (with_reducible rfl))
      try simp only [Act.put, List.setIfInBounds_toArray, List.set_cons_zero, List.set_cons_succ]
      refine takeL (i := 26) (v := ?_) rfl (by kernel_rfl) (by kernel_rfl) (by kernel_rfl) (fun _ _ _ h => h) (Or.inl ⟨by rfl, ?_⟩) (by assumption) ?_
      rotate_left
      · (intro w hSw; (try dsimp only at hSw); go_simp; try (with_reducible rfl))
      try simp only [Act.put, List.setIfInBounds_toArray, List.set_cons_zero, List.set_cons_succ]
      refine takeL (i := 27) (v := ?_) rfl (by kernel_rfl) (by kernel_rfl) (by kernel_rfl) (fun _ _ _ h => h) (Or.inl ⟨by rfl, ?_⟩) (by assumption) ?_
      rotate_left
      · (intro w hSw; (try dsimp only at hSw); go_simp; try (with_reducible rfl))
      try simp only [Act.put, List.setIfInBounds_toArray, List.set_cons_zero, List.set_cons_succ]
      refine wpAnyH_done (by kernel_rfl) ?_ _
      go_wp2_with fail
      exact ⟨⟨1 + 1, rfl, by omega, after (by repeat first | (with_reducible exact hB2) | (with_reducible refine below_drew ?_) | (with_reducible refine below_on ?_ _) | (with_reducible refine below_alloc ?_ _) | (with_reducible refine below_set ?_ (by simp; try omega) _))⟩, by simp [intOf]⟩
    · go_wp2_with (first | (go_at_call 39; with_reducible refine (cell_any _ _ _ _).mono ?_; rintro e wx ⟨rfl, hx⟩; obtain ⟨uv, rfl⟩ := after hx; clear hx) | fail)
      go_wp2_with (first | (go_at_call 11; with_reducible refine (lv_l2 _ (hL' _ (by repeat first | (with_reducible exact hq) | (with_reducible refine below_drew ?_) | (with_reducible refine below_on ?_ _) | (with_reducible refine below_alloc ?_ _) | (with_reducible refine below_set ?_ (by simp; try omega) _)))).mono ?_; rintro e wx ⟨rfl, hx⟩; obtain ⟨ux, rfl⟩ := after hx; clear hx) | fail)
      have hR : Below ((on u0)).heap.size ((on u0)) ((on ux).alloc (.cells #[.int .u8 4, .int .i64 3] 26)) := by repeat first | (with_reducible exact Below.refl _ _) | (with_reducible refine below_on ?_ _) | (with_reducible refine below_alloc ?_ _)
      have B100 : ((on ux).alloc (.cells #[.int .u8 4, .int .i64 3] 26)).cell? ⟨(on ux).heap.size, 0, none⟩ = some (.int .u8 4) := by simp [go_sem]
      have B101 : ((on ux).alloc (.cells #[.int .u8 4, .int .i64 3] 26)).cell? ⟨(on ux).heap.size, 1, none⟩ = some (.int .i64 3) := by simp [go_sem]
      have hB1 : Below w.heap.size w ((on ux).alloc (.cells #[.int .u8 4, .int .i64 3] 26)) := by repeat first | (with_reducible exact hq) | (with_reducible refine below_on ?_ _) | (with_reducible refine below_alloc ?_ _)
      clear hR   hq
      generalize ((on ux).alloc (.cells #[.int .u8 4, .int .i64 3] 26)) = W1 at *
      generalize (on ux).heap.size = B1 at *
      clear ux
      go_wp2_with (first | (go_at_call 39; with_reducible refine (cell_any _ _ _ _).mono ?_; rintro e wx ⟨rfl, hx⟩; obtain ⟨uv, rfl⟩ := after hx; clear hx) | fail)
      go_wp2_with (first | (go_at_call 19; with_reducible refine (lv_n2 _ (hL' _ (by repeat first | (with_reducible exact hB1) | (with_reducible refine below_drew ?_) | (with_reducible refine below_on ?_ _) | (with_reducible refine below_alloc ?_ _) | (with_reducible refine below_set ?_ (by simp; try omega) _)))).mono ?_; rintro e wx ⟨rfl, hx⟩; obtain ⟨ux, rfl⟩ := after hx; clear hx) | fail)
      have hR : Below (W1).heap.size (W1) ((on ux).alloc (.cells #[.int .i64 0, .int .i64 0, .int .u8 3] 23)) := by repeat first | (with_reducible exact Below.refl _ _) | (with_reducible refine below_on ?_ _) | (with_reducible refine below_alloc ?_ _)
      have cR : ∀ {b_ i_ : Nat} {v_ : Value}, (W1).cell? ⟨b_, i_, none⟩ = some v_ → ((on ux).alloc (.cells #[.int .i64 0, .int .i64 0, .int .u8 3] 23)).cell? ⟨b_, i_, none⟩ = some v_ := fun h => (hR.cell (World.block_lt_of_cell? _ _ h)).trans h
      have B100' := cR B100
      have B101' := cR B101
      have B200 : ((on ux).alloc (.cells #[.int .i64 0, .int .i64 0, .int .u8 3] 23)).cell? ⟨(on ux).heap.size, 0, none⟩ = some (.int .i64 0) := by simp [go_sem]
      have B201 : ((on ux).alloc (.cells #[.int .i64 0, .int .i64 0, .int .u8 3] 23)).cell? ⟨(on ux).heap.size, 1, none⟩ = some (.int .i64 0) := by simp [go_sem]
      have B202 : ((on ux).alloc (.cells #[.int .i64 0, .int .i64 0, .int .u8 3] 23)).cell? ⟨(on ux).heap.size, 2, none⟩ = some (.int .u8 3) := by simp [go_sem]
      have hB2 : Below w.heap.size w ((on ux).alloc (.cells #[.int .i64 0, .int .i64 0, .int .u8 3] 23)) := by repeat first | (with_reducible exact hB1) | (with_reducible refine below_on ?_ _) | (with_reducible refine below_alloc ?_ _)
      clear hR cR B100 B101  hB1
      generalize ((on ux).alloc (.cells #[.int .i64 0, .int .i64 0, .int .u8 3] 23)) = W2 at *
      generalize (on ux).heap.size = B2 at *
      clear ux
      have z1 : B1 < W2.heap.size := World.block_lt_of_cell? _ _ B100'
      have z2 : B2 < W2.heap.size := World.block_lt_of_cell? _ _ B200
      refine wp_region_held_drew (S := fun w' => w'.cell? ⟨B1, 0, none⟩ = some (.int .u8 4) ∧ w'.cell? ⟨B1, 1, none⟩ = some (.int .i64 3) ∧ w'.cell? ⟨B2, 0, none⟩ = some (.int .i64 0) ∧ w'.cell? ⟨B2, 1, none⟩ = some (.int .i64 0) ∧ w'.cell? ⟨B2, 2, none⟩ = some (.int .u8 3)) (by kernel_rfl) ?_ (fun hHeld => ?_)
      · ((try dsimp only); (first | (simp [go_sem, *]; done) | fail))
      refine takeL (i := 0) (v := ?_) rfl (by kernel_rfl) (by kernel_rfl) (by kernel_rfl) (fun _ _ _ h => h) (Or.inl ⟨by rfl, ?_⟩) (by assumption) ?_
      rotate_left
      · (intro w hSw; (try dsimp only at hSw); go_simp; try (with_reducible rfl))
      try simp only [Act.put, List.setIfInBounds_toArray, List.set_cons_zero, List.set_cons_succ]
      refine takeL (i := 5) (v := ?_) rfl (by kernel_rfl) (by kernel_rfl) (by kernel_rfl) (fun _ _ _ h => h) (Or.inl ⟨by rfl, ?_⟩) (by assumption) ?_
      rotate_left
      · (intro w hSw; (try dsimp only at hSw); go_simp; try (with_reducible rfl))
      try simp only [Act.put, List.setIfInBounds_toArray, List.set_cons_zero, List.set_cons_succ]
      refine wpAnyH_ready (rs := [1]) (by kernel_rfl) (by simp) ?_
      refine consL rfl (fun K hK => ?_)
      go_simp
      (first | (go_at_call 45; with_reducible refine (line_any _ _ _).mono ?_; rintro e wx ⟨rfl, hx⟩; obtain ⟨ux, rfl⟩ := after hx; clear hx; have s0 : W2.heap.size ≤ (on ux).heap.size := (by have := on_size ux; (try simp at this); omega); have n0 : ¬ (on ux).heap.size = B1 := (by omega); have n1 : ¬ (on ux).heap.size = B2 := (by omega)))
      refine hK.out _ _ ?_ (fun hHeld => ?_)
      · ((try dsimp only); (first | (simp [go_sem, *]; done) | fail))
      clear hK K
      try simp only [Act.put, List.setIfInBounds_toArray, List.set_cons_zero, List.set_cons_succ]
      refine wpAnyH_ready (rs := [2]) (by kernel_rfl) (by simp) ?_
      refine consL rfl (fun K hK => ?_)
      go_simp
      (first | (go_at_call 45; with_reducible refine (line_any _ _ _).mono ?_; rintro e wx ⟨rfl, hx⟩; obtain ⟨ux, rfl⟩ := after hx; clear hx; have s0 : W2.heap.size ≤ (on ux).heap.size := (by have := on_size ux; (try simp at this); omega); have n0 : ¬ (on ux).heap.size = B1 := (by omega); have n1 : ¬ (on ux).heap.size = B2 := (by omega)))
      refine hK.out _ _ ?_ (fun hHeld => ?_)
      · ((try dsimp only); (first | (simp [go_sem, *]; done) | fail))
      clear hK K
      try simp only [Act.put, List.setIfInBounds_toArray, List.set_cons_zero, List.set_cons_succ]
      refine wpAnyH_ready (rs := [3]) (by kernel_rfl) (by simp) ?_
      refine consL rfl (fun K hK => ?_)
      go_simp
      (first | (go_at_call 45; with_reducible refine (line_any _ _ _).mono ?_; rintro e wx ⟨rfl, hx⟩; obtain ⟨ux, rfl⟩ := after hx; clear hx; have s0 : W2.heap.size ≤ (on ux).heap.size := (by have := on_size ux; (try simp at this); omega); have n0 : ¬ (on ux).heap.size = B1 := (by omega); have n1 : ¬ (on ux).heap.size = B2 := (by omega)))
      refine hK.out _ _ ?_ (fun hHeld => ?_)
      · ((try dsimp only); (first | (simp [go_sem, *]; done) | fail))
      clear hK K
      try simp only [Act.put, List.setIfInBounds_toArray, List.set_cons_zero, List.set_cons_succ]
      refine wpAnyH_ready (rs := [4]) (by kernel_rfl) (by simp) ?_
      refine consL rfl (fun K hK => ?_)
      go_simp
      refine hK.out _ _ ?_ (fun hHeld => ?_)
      · ((try dsimp only); (first | (simp [go_sem, *]; done) | fail))
      clear hK K
      try simp only [Act.put, List.setIfInBounds_toArray, List.set_cons_zero, List.set_cons_succ]
      refine takeL (i := 6) (v := ?_) rfl (by kernel_rfl) (by kernel_rfl) (by kernel_rfl) (fun _ _ _ h => h) (Or.inl ⟨by rfl, ?_⟩) (by assumption) ?_
      rotate_left
      · (intro w hSw; (try dsimp only at hSw); go_simp; try (with_reducible rfl))
      try simp only [Act.put, List.setIfInBounds_toArray, List.set_cons_zero, List.set_cons_succ]
      refine wpAnyH_ready (rs := [7]) (by kernel_rfl) (by simp) ?_
      refine consL rfl (fun K hK => ?_)
      go_simp
      refine hK.out _ _ ?_ (fun hHeld => ?_)
      · ((try dsimp only); (first | (simp [go_sem, *]; done) | fail))
      clear hK K
      try simp only [Act.put, List.setIfInBounds_toArray, List.set_cons_zero, List.set_cons_succ]
      refine takeL (i := 8) (v := ?_) rfl (by kernel_rfl) (by kernel_rfl) (by kernel_rfl) (fun _ _ _ h => h) (Or.inl ⟨by rfl, ?_⟩) (by assumption) ?_
      rotate_left
      · (intro w hSw; (try dsimp only at hSw); go_simp; try (with_reducible rfl))
      try simp only [Act.put, List.setIfInBounds_toArray, List.set_cons_zero, List.set_cons_succ]
      refine takeL (i := 9) (v := ?_) rfl (by kernel_rfl) (by kernel_rfl) (by kernel_rfl) (fun _ _ _ h => h) (Or.inl ⟨by rfl, ?_⟩) (by assumption) ?_
      rotate_left
      · (intro w hSw; (try dsimp only at hSw); go_simp; try (with_reducible rfl))
      try simp only [Act.put, List.setIfInBounds_toArray, List.set_cons_zero, List.set_cons_succ]
      refine takeL (i := 10) (v := ?_) rfl (by kernel_rfl) (by kernel_rfl) (by kernel_rfl) (fun _ _ _ h => h) (Or.inl ⟨by rfl, ?_⟩) (by assumption) ?_
      rotate_left
      · (intro w hSw; (try dsimp only at hSw); go_simp; try (with_reducible rfl))
      try simp only [Act.put, List.setIfInBounds_toArray, List.set_cons_zero, List.set_cons_succ]
      refine takeL (i := 11) (v := ?_) rfl (by kernel_rfl) (by kernel_rfl) (by kernel_rfl) (fun _ _ _ h => h) (Or.inl ⟨by rfl, ?_⟩) (by assumption) ?_
      rotate_left
      · (intro w hSw; (try dsimp only at hSw); go_simp; try (with_reducible rfl))
      try simp only [Act.put, List.setIfInBounds_toArray, List.set_cons_zero, List.set_cons_succ]
      refine takeL (i := 12) (v := ?_) rfl (by kernel_rfl) (by kernel_rfl) (by kernel_rfl) (fun _ _ _ h => h) (Or.inl ⟨by rfl, ?_⟩) (by assumption) ?_
      rotate_left
      · (intro w hSw; (try dsimp only at hSw); go_simp; try (with_reducible rfl))
      try simp only [Act.put, List.setIfInBounds_toArray, List.set_cons_zero, List.set_cons_succ]
      refine takeL (i := 13) (v := ?_) rfl (by kernel_rfl) (by kernel_rfl) (by kernel_rfl) (fun _ _ _ h => h) (Or.inl ⟨by rfl, ?_⟩) (by assumption) ?_
      rotate_left
      · (intro w hSw; (try dsimp only at hSw); go_simp; try (with_reducible rfl))
      try simp only [Act.put, List.setIfInBounds_toArray, List.set_cons_zero, List.set_cons_succ]
      refine takeL (i := 14) (v := ?_) rfl (by kernel_rfl) (by kernel_rfl) (by kernel_rfl) (fun _ _ _ h => h) (Or.inl ⟨by rfl, ?_⟩) (by assumption) ?_
      rotate_left
      · (intro w hSw; (try dsimp only at hSw); go_simp; try (with_reducible rfl))
      try simp only [Act.put, List.setIfInBounds_toArray, List.set_cons_zero, List.set_cons_succ]
      refine takeL (i := 19) (v := ?_) rfl (by kernel_rfl) (by kernel_rfl) (by kernel_rfl) (fun _ _ _ h => h) (Or.inl ⟨by rfl, ?_⟩) (by assumption) ?_
      rotate_left
      · (intro w hSw; (try dsimp only at hSw); go_simp; try (with_reducible rfl))
      try simp only [Act.put, List.setIfInBounds_toArray, List.set_cons_zero, List.set_cons_succ]
      refine wpAnyH_ready (rs := [15]) (by kernel_rfl) (by simp) ?_
      refine consL rfl (fun K hK => ?_)
      go_simp
      (first | (go_at_call 39; with_reducible refine (cell_any _ _ _ _).mono ?_; rintro e wx ⟨rfl, hx⟩; obtain ⟨ux, rfl⟩ := after hx; clear hx; have s0 : W2.heap.size ≤ (on ux).heap.size := (by have := on_size ux; (try simp at this); omega); have n0 : ¬ (on ux).heap.size = B1 := (by omega); have n1 : ¬ (on ux).heap.size = B2 := (by omega)))
      refine hK.out _ _ ?_ (fun hHeld => ?_)
      · ((try dsimp only); (first | (simp [go_sem, *]; done) | fail))
      clear hK K
      try simp only [Act.put, List.setIfInBounds_toArray, List.set_cons_zero, List.set_cons_succ]
      refine wpAnyH_ready (rs := [16]) (by kernel_rfl) (by simp) ?_
      refine consL rfl (fun K hK => ?_)
      go_simp
      (first | (go_at_call 39; with_reducible refine (cell_any _ _ _ _).mono ?_; rintro e wx ⟨rfl, hx⟩; obtain ⟨ux, rfl⟩ := after hx; clear hx; have s0 : W2.heap.size ≤ (on ux).heap.size := (by have := on_size ux; (try simp at this); omega); have n0 : ¬ (on ux).heap.size = B1 := (by omega); have n1 : ¬ (on ux).heap.size = B2 := (by omega)))
      refine hK.out _ _ ?_ (fun hHeld => ?_)
      · ((try dsimp only); (first | (simp [go_sem, *]; done) | fail))
      clear hK K
      try simp only [Act.put, List.setIfInBounds_toArray, List.set_cons_zero, List.set_cons_succ]
      refine wpAnyH_ready (rs := [17]) (by kernel_rfl) (by simp) ?_
      refine consL rfl (fun K hK => ?_)
      go_simp
      (first | (go_at_call 39; with_reducible refine (cell_any _ _ _ _).mono ?_; rintro e wx ⟨rfl, hx⟩; obtain ⟨ux, rfl⟩ := after hx; clear hx; have s0 : W2.heap.size ≤ (on ux).heap.size := (by have := on_size ux; (try simp at this); omega); have n0 : ¬ (on ux).heap.size = B1 := (by omega); have n1 : ¬ (on ux).heap.size = B2 := (by omega)))
      refine hK.out _ _ ?_ (fun hHeld => ?_)
      · ((try dsimp only); (first | (simp [go_sem, *]; done) | fail))
      clear hK K
      try simp only [Act.put, List.setIfInBounds_toArray, List.set_cons_zero, List.set_cons_succ]
      refine wpAnyH_ready (rs := [18]) (by kernel_rfl) (by simp) ?_
      refine consL rfl (fun K hK => ?_)
      go_simp
      refine hK.out _ _ ?_ (fun hHeld => ?_)
      · ((try dsimp only); (first | (simp [go_sem, *]; done) | fail))
      clear hK K
      try simp only [Act.put, List.setIfInBounds_toArray, List.set_cons_zero, List.set_cons_succ]
      refine takeL (i := 20) (v := ?_) rfl (by kernel_rfl) (by kernel_rfl) (by kernel_rfl) (fun _ _ _ h => h) (Or.inl ⟨by rfl, ?_⟩) (by assumption) ?_
      rotate_left
      · (intro w hSw; (try dsimp only at hSw); go_simp; try (with_reducible rfl))
      try simp only [Act.put, List.setIfInBounds_toArray, List.set_cons_zero, List.set_cons_succ]
      refine wpAnyH_ready (rs := [21]) (by kernel_rfl) (by simp) ?_
      refine consL rfl (fun K hK => ?_)
      go_simp
      refine hK.out _ _ ?_ (fun hHeld => ?_)
      · ((try dsimp only); (first | (simp [go_sem, *]; done) | fail))
      clear hK K
      try simp only [Act.put, List.setIfInBounds_toArray, List.set_cons_zero, List.set_cons_succ]
      refine takeL (i := 22) (v := ?_) rfl (by kernel_rfl) (by kernel_rfl) (by kernel_rfl) (fun _ _ _ h => h) (Or.inl ⟨by rfl, ?_⟩) (by assumption) ?_
      rotate_left
      · (intro w hSw; (try dsimp only at hSw); go_simp; try (with_reducible rfl))
      try simp only [Act.put, List.setIfInBounds_toArray, List.set_cons_zero, List.set_cons_succ]
      refine takeL (i := 23) (v := ?_) rfl (by kernel_rfl) (by kernel_rfl) (by kernel_rfl) (fun _ _ _ h => h) (Or.inl ⟨by rfl, ?_⟩) (by assumption) ?_
      rotate_left
      · (intro w hSw; (try dsimp only at hSw); go_simp; try (with_reducible rfl))
      try simp only [Act.put, List.setIfInBounds_toArray, List.set_cons_zero, List.set_cons_succ]
      refine takeL (i := 24) (v := ?_) rfl (by kernel_rfl) (by kernel_rfl) (by kernel_rfl) (fun _ _ _ h => h) (Or.inl ⟨by rfl, ?_⟩) (by assumption) ?_
      rotate_left
      · (intro w hSw; (try dsimp only at hSw); go_simp; try (with_reducible rfl))
      try simp only [Act.put, List.setIfInBounds_toArray, List.set_cons_zero, List.set_cons_succ]
      refine takeL (i := 25) (v := ?_) rfl (by kernel_rfl) (by kernel_rfl) (by kernel_rfl) (fun _ _ _ h => h) (Or.inl ⟨by rfl, ?_⟩) (by assumption) ?_
      rotate_left
      · (intro w hSw; (try dsimp only at hSw); go_simp; try (with_reducible rfl))
      try simp only [Act.put, List.setIfInBounds_toArray, List.set_cons_zero, List.set_cons_succ]
      refine takeL (i := 26) (v := ?_) rfl (by kernel_rfl) (by kernel_rfl) (by kernel_rfl) (fun _ _ _ h => h) (Or.inl ⟨by rfl, ?_⟩) (by assumption) ?_
      rotate_left
      · (intro w hSw; (try dsimp only at hSw); go_simp; try (with_reducible rfl))
      try simp only [Act.put, List.setIfInBounds_toArray, List.set_cons_zero, List.set_cons_succ]
      refine takeL (i := 27) (v := ?_) rfl (by kernel_rfl) (by kernel_rfl) (by kernel_rfl) (fun _ _ _ h => h) (Or.inl ⟨by rfl, ?_⟩) (by assumption) ?_
      rotate_left
      · (intro w hSw; (try dsimp only at hSw); go_simp; try (with_reducible rfl))
      try simp only [Act.put, List.setIfInBounds_toArray, List.set_cons_zero, List.set_cons_succ]
      refine wpAnyH_done (by kernel_rfl) ?_ _
      go_wp2_with fail
      exact ⟨⟨2 + 1, rfl, by omega, after (by repeat first | (with_reducible exact hB2) | (with_reducible refine below_drew ?_) | (with_reducible refine below_on ?_ _) | (with_reducible refine below_alloc ?_ _) | (with_reducible refine below_set ?_ (by simp; try omega) _))⟩, by simp [intOf]⟩
    · have hU2 : Below w.heap.size w (on u0) := hq
      generalize on u0 = U2 at *
      clear u0 hq
      go_wp2_with fail
      go_loopw [6] (fun iv wr => ∃ i : Int, iv = .int .u8 i ∧ (i = 1 ∨ i = 2 ∨ i = 3 ∨ i = 4) ∧ ∃ u : Later w, wr = on u) (fun iv _ => (4 - intOf iv).toNat)
      case atStart => exact ⟨1, rfl, by omega, ⟨_, hU2⟩, rfl⟩
      case round =>
        obtain ⟨i, rfl, hi, u0, rfl⟩ := hrel
        have hq : Below w.heap.size w (on u0) := u0.b
        obtain rfl | rfl | rfl | rfl := hi
        · go_wp2_with (first | (go_at_call 39; with_reducible refine (cell_any _ _ _ _).mono ?_; rintro e wx ⟨rfl, hx⟩; obtain ⟨uv, rfl⟩ := after hx; clear hx) | fail)
          go_wp2_with (first | (go_at_call 11; with_reducible refine (lv_k1 _ (hL' _ (by repeat first | (with_reducible exact hq) | (with_reducible refine below_drew ?_) | (with_reducible refine below_on ?_ _) | (with_reducible refine below_alloc ?_ _) | (with_reducible refine below_set ?_ (by simp; try omega) _)))).mono ?_; rintro e wx ⟨rfl, hx⟩; obtain ⟨ux, rfl⟩ := after hx; clear hx) | fail)
          have hR : Below ((on u0)).heap.size ((on u0)) ((on ux).alloc (.cells #[.int .u8 1, .int .i64 3] 26)) := by repeat first | (with_reducible exact Below.refl _ _) | (with_reducible refine below_on ?_ _) | (with_reducible refine below_alloc ?_ _)
          have B100 : ((on ux).alloc (.cells #[.int .u8 1, .int .i64 3] 26)).cell? ⟨(on ux).heap.size, 0, none⟩ = some (.int .u8 1) := by simp [go_sem]
          have B101 : ((on ux).alloc (.cells #[.int .u8 1, .int .i64 3] 26)).cell? ⟨(on ux).heap.size, 1, none⟩ = some (.int .i64 3) := by simp [go_sem]
          have hB1 : Below w.heap.size w ((on ux).alloc (.cells #[.int .u8 1, .int .i64 3] 26)) := by repeat first | (with_reducible exact hq) | (with_reducible refine below_on ?_ _) | (with_reducible refine below_alloc ?_ _)
          clear hR   hq
          generalize ((on ux).alloc (.cells #[.int .u8 1, .int .i64 3] 26)) = W1 at *
          generalize (on ux).heap.size = B1 at *
          clear ux
          have z1 : B1 < W1.heap.size := World.block_lt_of_cell? _ _ B100
          refine wp_region_held_drew (S := fun w' => w'.cell? ⟨B1, 0, none⟩ = some (.int .u8 1) ∧ w'.cell? ⟨B1, 1, none⟩ = some (.int .i64 3)) (by kernel_rfl) ?_ (fun hHeld => ?_)
          · ((try dsimp only); (first | (simp [go_sem, *]; done) | fail))
          refine takeL (i := 0) (v := ?_) rfl (by kernel_rfl) (by kernel_rfl) (by kernel_rfl) (fun _ _ _ h => h) (Or.inl ⟨by rfl, ?_⟩) (by assumption) ?_
          rotate_left
          · (intro w hSw; (try dsimp only at hSw); go_simp; try (with_reducible rfl))
          try simp only [Act.put, List.setIfInBounds_toArray, List.set_cons_zero, List.set_cons_succ]
          refine takeL (i := 1) (v := ?_) rfl (by kernel_rfl) (by kernel_rfl) (by kernel_rfl) (fun _ _ _ h => h) (Or.inl ⟨by rfl, ?_⟩) (by assumption) ?_
          rotate_left
          · (intro w hSw; (try dsimp only at hSw); go_simp; try (with_reducible rfl))
          try simp only [Act.put, List.setIfInBounds_toArray, List.set_cons_zero, List.set_cons_succ]
          refine takeL (i := 6) (v := ?_) rfl (by kernel_rfl) (by kernel_rfl) (by kernel_rfl) (fun _ _ _ h => h) (Or.inl ⟨by rfl, ?_⟩) (by assumption) ?_
          rotate_left
          · (intro w hSw; (try dsimp only at hSw); go_simp; try (with_reducible rfl))
          try simp only [Act.put, List.setIfInBounds_toArray, List.set_cons_zero, List.set_cons_succ]
          refine wpAnyH_ready (rs := [2]) (by kernel_rfl) (by simp) ?_
          refine consL rfl (fun K hK => ?_)
          go_simp
          (first | (go_at_call 45; with_reducible refine (line_any _ _ _).mono ?_; rintro e wx ⟨rfl, hx⟩; obtain ⟨ux, rfl⟩ := after hx; clear hx; have s0 : W1.heap.size ≤ (on ux).heap.size := (by have := on_size ux; (try simp at this); omega); have n0 : ¬ (on ux).heap.size = B1 := (by omega)))
          refine hK.out _ _ ?_ (fun hHeld => ?_)
          · ((try dsimp only); (first | (simp [go_sem, *]; done) | fail))
          clear hK K
          try simp only [Act.put, List.setIfInBounds_toArray, List.set_cons_zero, List.set_cons_succ]
          refine wpAnyH_ready (rs := [3]) (by kernel_rfl) (by simp) ?_
          refine consL rfl (fun K hK => ?_)
          go_simp
          (first | (go_at_call 45; with_reducible refine (line_any _ _ _).mono ?_; rintro e wx ⟨rfl, hx⟩; obtain ⟨ux, rfl⟩ := after hx; clear hx; have s0 : W1.heap.size ≤ (on ux).heap.size := (by have := on_size ux; (try simp at this); omega); have n0 : ¬ (on ux).heap.size = B1 := (by omega)))
          refine hK.out _ _ ?_ (fun hHeld => ?_)
          · ((try dsimp only); (first | (simp [go_sem, *]; done) | fail))
          clear hK K
          try simp only [Act.put, List.setIfInBounds_toArray, List.set_cons_zero, List.set_cons_succ]
          refine wpAnyH_ready (rs := [4]) (by kernel_rfl) (by simp) ?_
          refine consL rfl (fun K hK => ?_)
          go_simp
          (first | (go_at_call 45; with_reducible refine (line_any _ _ _).mono ?_; rintro e wx ⟨rfl, hx⟩; obtain ⟨ux, rfl⟩ := after hx; clear hx; have s0 : W1.heap.size ≤ (on ux).heap.size := (by have := on_size ux; (try simp at this); omega); have n0 : ¬ (on ux).heap.size = B1 := (by omega)))
          refine hK.out _ _ ?_ (fun hHeld => ?_)
          · ((try dsimp only); (first | (simp [go_sem, *]; done) | fail))
          clear hK K
          try simp only [Act.put, List.setIfInBounds_toArray, List.set_cons_zero, List.set_cons_succ]
          refine wpAnyH_ready (rs := [5]) (by kernel_rfl) (by simp) ?_
          refine consL rfl (fun K hK => ?_)
          go_simp
          refine hK.out _ _ ?_ (fun hHeld => ?_)
          · ((try dsimp only); (first | (simp [go_sem, *]; done) | fail))
          clear hK K
          try simp only [Act.put, List.setIfInBounds_toArray, List.set_cons_zero, List.set_cons_succ]
          refine takeL (i := 7) (v := ?_) rfl (by kernel_rfl) (by kernel_rfl) (by kernel_rfl) (fun _ _ _ h => h) (Or.inl ⟨by rfl, ?_⟩) (by assumption) ?_
          rotate_left
          · (intro w hSw; (try dsimp only at hSw); go_simp; try (with_reducible rfl))
          try simp only [Act.put, List.setIfInBounds_toArray, List.set_cons_zero, List.set_cons_succ]
          refine wpAnyH_ready (rs := [8]) (by kernel_rfl) (by simp) ?_
          refine consL rfl (fun K hK => ?_)
          go_simp
          refine hK.out _ _ ?_ (fun hHeld => ?_)
          · ((try dsimp only); (first | (simp [go_sem, *]; done) | fail))
          clear hK K
          try simp only [Act.put, List.setIfInBounds_toArray, List.set_cons_zero, List.set_cons_succ]
          refine takeL (i := 9) (v := ?_) rfl (by kernel_rfl) (by kernel_rfl) (by kernel_rfl) (fun _ _ _ h => h) (Or.inl ⟨by rfl, ?_⟩) (by assumption) ?_
          rotate_left
          · (intro w hSw; (try dsimp only at hSw); go_simp; try (with_reducible rfl))
          try simp only [Act.put, List.setIfInBounds_toArray, List.set_cons_zero, List.set_cons_succ]
          refine takeL (i := 10) (v := ?_) rfl (by kernel_rfl) (by kernel_rfl) (by kernel_rfl) (fun _ _ _ h => h) (Or.inl ⟨by rfl, ?_⟩) (by assumption) ?_
          rotate_left
          · (intro w hSw; (try dsimp only at hSw); go_simp; try (with_reducible rfl))
          try simp only [Act.put, List.setIfInBounds_toArray, List.set_cons_zero, List.set_cons_succ]
          refine takeL (i := 11) (v := ?_) rfl (by kernel_rfl) (by kernel_rfl) (by kernel_rfl) (fun _ _ _ h => h) (Or.inl ⟨by rfl, ?_⟩) (by assumption) ?_
          rotate_left
          · (intro w hSw; (try dsimp only at hSw); go_simp; try (with_reducible rfl))
          try simp only [Act.put, List.setIfInBounds_toArray, List.set_cons_zero, List.set_cons_succ]
          refine takeL (i := 12) (v := ?_) rfl (by kernel_rfl) (by kernel_rfl) (by kernel_rfl) (fun _ _ _ h => h) (Or.inl ⟨by rfl, ?_⟩) (by assumption) ?_
          rotate_left
          · (intro w hSw; (try dsimp only at hSw); go_simp; try (with_reducible rfl))
          try simp only [Act.put, List.setIfInBounds_toArray, List.set_cons_zero, List.set_cons_succ]
          refine takeL (i := 13) (v := ?_) rfl (by kernel_rfl) (by kernel_rfl) (by kernel_rfl) (fun _ _ _ h => h) (Or.inl ⟨by rfl, ?_⟩) (by assumption) ?_
          rotate_left
          · (intro w hSw; (try dsimp only at hSw); go_simp; try (with_reducible rfl))
          try simp only [Act.put, List.setIfInBounds_toArray, List.set_cons_zero, List.set_cons_succ]
          refine wpAnyH_done (by kernel_rfl) ?_ _
          go_wp2_with fail
          exact ⟨⟨1 + 1, rfl, by omega, after (by repeat first | (with_reducible exact hB1) | (with_reducible refine below_drew ?_) | (with_reducible refine below_on ?_ _) | (with_reducible refine below_alloc ?_ _) | (with_reducible refine below_set ?_ (by simp; try omega) _))⟩, by simp [intOf]⟩
        · go_wp2_with (first | (go_at_call 39; with_reducible refine (cell_any _ _ _ _).mono ?_; rintro e wx ⟨rfl, hx⟩; obtain ⟨uv, rfl⟩ := after hx; clear hx) | fail)
          go_wp2_with (first | (go_at_call 11; with_reducible refine (lv_k2 _ (hL' _ (by repeat first | (with_reducible exact hq) | (with_reducible refine below_drew ?_) | (with_reducible refine below_on ?_ _) | (with_reducible refine below_alloc ?_ _) | (with_reducible refine below_set ?_ (by simp; try omega) _)))).mono ?_; rintro e wx ⟨rfl, hx⟩; obtain ⟨ux, rfl⟩ := after hx; clear hx) | fail)
          have hR : Below ((on u0)).heap.size ((on u0)) ((on ux).alloc (.cells #[.int .u8 2, .int .i64 6] 26)) := by repeat first | (with_reducible exact Below.refl _ _) | (with_reducible refine below_on ?_ _) | (with_reducible refine below_alloc ?_ _)
          have B100 : ((on ux).alloc (.cells #[.int .u8 2, .int .i64 6] 26)).cell? ⟨(on ux).heap.size, 0, none⟩ = some (.int .u8 2) := by simp [go_sem]
          have B101 : ((on ux).alloc (.cells #[.int .u8 2, .int .i64 6] 26)).cell? ⟨(on ux).heap.size, 1, none⟩ = some (.int .i64 6) := by simp [go_sem]
          have hB1 : Below w.heap.size w ((on ux).alloc (.cells #[.int .u8 2, .int .i64 6] 26)) := by repeat first | (with_reducible exact hq) | (with_reducible refine below_on ?_ _) | (with_reducible refine below_alloc ?_ _)
          clear hR   hq
          generalize ((on ux).alloc (.cells #[.int .u8 2, .int .i64 6] 26)) = W1 at *
          generalize (on ux).heap.size = B1 at *
          clear ux
          have z1 : B1 < W1.heap.size := World.block_lt_of_cell? _ _ B100
          refine wp_region_held_drew (S := fun w' => w'.cell? ⟨B1, 0, none⟩ = some (.int .u8 2) ∧ w'.cell? ⟨B1, 1, none⟩ = some (.int .i64 6)) (by kernel_rfl) ?_ (fun hHeld => ?_)
          · ((try dsimp only); (first | (simp [go_sem, *]; done) | fail))
          refine takeL (i := 0) (v := ?_) rfl (by kernel_rfl) (by kernel_rfl) (by kernel_rfl) (fun _ _ _ h => h) (Or.inl ⟨by rfl, ?_⟩) (by assumption) ?_
          rotate_left
          · (intro w hSw; (try dsimp only at hSw); go_simp; try (with_reducible rfl))
          try simp only [Act.put, List.setIfInBounds_toArray, List.set_cons_zero, List.set_cons_succ]
          refine takeL (i := 1) (v := ?_) rfl (by kernel_rfl) (by kernel_rfl) (by kernel_rfl) (fun _ _ _ h => h) (Or.inl ⟨by rfl, ?_⟩) (by assumption) ?_
          rotate_left
          · (intro w hSw; (try dsimp only at hSw); go_simp; try (with_reducible rfl))
          try simp only [Act.put, List.setIfInBounds_toArray, List.set_cons_zero, List.set_cons_succ]
          refine takeL (i := 6) (v := ?_) rfl (by kernel_rfl) (by kernel_rfl) (by kernel_rfl) (fun _ _ _ h => h) (Or.inl ⟨by rfl, ?_⟩) (by assumption) ?_
          rotate_left
          · (intro w hSw; (try dsimp only at hSw); go_simp; try (with_reducible rfl))
          try simp only [Act.put, List.setIfInBounds_toArray, List.set_cons_zero, List.set_cons_succ]
          refine wpAnyH_ready (rs := [2]) (by kernel_rfl) (by simp) ?_
          refine consL rfl (fun K hK => ?_)
          go_simp
          (first | (go_at_call 45; with_reducible refine (line_any _ _ _).mono ?_; rintro e wx ⟨rfl, hx⟩; obtain ⟨ux, rfl⟩ := after hx; clear hx; have s0 : W1.heap.size ≤ (on ux).heap.size := (by have := on_size ux; (try simp at this); omega); have n0 : ¬ (on ux).heap.size = B1 := (by omega)))
          refine hK.out _ _ ?_ (fun hHeld => ?_)
          · ((try dsimp only); (first | (simp [go_sem, *]; done) | fail))
          clear hK K
          try simp only [Act.put, List.setIfInBounds_toArray, List.set_cons_zero, List.set_cons_succ]
          refine wpAnyH_ready (rs := [3]) (by kernel_rfl) (by simp) ?_
          refine consL rfl (fun K hK => ?_)
          go_simp
          (first | (go_at_call 45; with_reducible refine (line_any _ _ _).mono ?_; rintro e wx ⟨rfl, hx⟩; obtain ⟨ux, rfl⟩ := after hx; clear hx; have s0 : W1.heap.size ≤ (on ux).heap.size := (by have := on_size ux; (try simp at this); omega); have n0 : ¬ (on ux).heap.size = B1 := (by omega)))
          refine hK.out _ _ ?_ (fun hHeld => ?_)
          · ((try dsimp only); (first | (simp [go_sem, *]; done) | fail))
          clear hK K
          try simp only [Act.put, List.setIfInBounds_toArray, List.set_cons_zero, List.set_cons_succ]
          refine wpAnyH_ready (rs := [4]) (by kernel_rfl) (by simp) ?_
          refine consL rfl (fun K hK => ?_)
          go_simp
          (first | (go_at_call 45; with_reducible refine (line_any _ _ _).mono ?_; rintro e wx ⟨rfl, hx⟩; obtain ⟨ux, rfl⟩ := after hx; clear hx; have s0 : W1.heap.size ≤ (on ux).heap.size := (by have := on_size ux; (try simp at this); omega); have n0 : ¬ (on ux).heap.size = B1 := (by omega)))
          refine hK.out _ _ ?_ (fun hHeld => ?_)
          · ((try dsimp only); (first | (simp [go_sem, *]; done) | fail))
          clear hK K
          try simp only [Act.put, List.setIfInBounds_toArray, List.set_cons_zero, List.set_cons_succ]
          refine wpAnyH_ready (rs := [5]) (by kernel_rfl) (by simp) ?_
          refine consL rfl (fun K hK => ?_)
          go_simp
          refine hK.out _ _ ?_ (fun hHeld => ?_)
          · ((try dsimp only); (first | (simp [go_sem, *]; done) | fail))
          clear hK K
          try simp only [Act.put, List.setIfInBounds_toArray, List.set_cons_zero, List.set_cons_succ]
          refine takeL (i := 7) (v := ?_) rfl (by kernel_rfl) (by kernel_rfl) (by kernel_rfl) (fun _ _ _ h => h) (Or.inl ⟨by rfl, ?_⟩) (by assumption) ?_
          rotate_left
          · (intro w hSw; (try dsimp only at hSw); go_simp; try (with_reducible rfl))
          try simp only [Act.put, List.setIfInBounds_toArray, List.set_cons_zero, List.set_cons_succ]
          refine wpAnyH_ready (rs := [8]) (by kernel_rfl) (by simp) ?_
          refine consL rfl (fun K hK => ?_)
          go_simp
          refine hK.out _ _ ?_ (fun hHeld => ?_)
          · ((try dsimp only); (first | (simp [go_sem, *]; done) | fail))
          clear hK K
          try simp only [Act.put, List.setIfInBounds_toArray, List.set_cons_zero, List.set_cons_succ]
          refine takeL (i := 9) (v := ?_) rfl (by kernel_rfl) (by kernel_rfl) (by kernel_rfl) (fun _ _ _ h => h) (Or.inl ⟨by rfl, ?_⟩) (by assumption) ?_
          rotate_left
          · (intro w hSw; (try dsimp only at hSw); go_simp; try (with_reducible rfl))
          try simp only [Act.put, List.setIfInBounds_toArray, List.set_cons_zero, List.set_cons_succ]
          refine takeL (i := 10) (v := ?_) rfl (by kernel_rfl) (by kernel_rfl) (by kernel_rfl) (fun _ _ _ h => h) (Or.inl ⟨by rfl, ?_⟩) (by assumption) ?_
          rotate_left
          · (intro w hSw; (try dsimp only at hSw); go_simp; try (with_reducible rfl))
          try simp only [Act.put, List.setIfInBounds_toArray, List.set_cons_zero, List.set_cons_succ]
          refine takeL (i := 11) (v := ?_) rfl (by kernel_rfl) (by kernel_rfl) (by kernel_rfl) (fun _ _ _ h => h) (Or.inl ⟨by rfl, ?_⟩) (by assumption) ?_
          rotate_left
          · (intro w hSw; (try dsimp only at hSw); go_simp; try (with_reducible rfl))
          try simp only [Act.put, List.setIfInBounds_toArray, List.set_cons_zero, List.set_cons_succ]
          refine takeL (i := 12) (v := ?_) rfl (by kernel_rfl) (by kernel_rfl) (by kernel_rfl) (fun _ _ _ h => h) (Or.inl ⟨by rfl, ?_⟩) (by assumption) ?_
          rotate_left
          · (intro w hSw; (try dsimp only at hSw); go_simp; try (with_reducible rfl))
          try simp only [Act.put, List.setIfInBounds_toArray, List.set_cons_zero, List.set_cons_succ]
          refine takeL (i := 13) (v := ?_) rfl (by kernel_rfl) (by kernel_rfl) (by kernel_rfl) (fun _ _ _ h => h) (Or.inl ⟨by rfl, ?_⟩) (by assumption) ?_
          rotate_left
          · (intro w hSw; (try dsimp only at hSw); go_simp; try (with_reducible rfl))
          try simp only [Act.put, List.setIfInBounds_toArray, List.set_cons_zero, List.set_cons_succ]
          refine wpAnyH_done (by kernel_rfl) ?_ _
          go_wp2_with fail
          exact ⟨⟨2 + 1, rfl, by omega, after (by repeat first | (with_reducible exact hB1) | (with_reducible refine below_drew ?_) | (with_reducible refine below_on ?_ _) | (with_reducible refine below_alloc ?_ _) | (with_reducible refine below_set ?_ (by simp; try omega) _))⟩, by simp [intOf]⟩
        · go_wp2_with (first | (go_at_call 39; with_reducible refine (cell_any _ _ _ _).mono ?_; rintro e wx ⟨rfl, hx⟩; obtain ⟨uv, rfl⟩ := after hx; clear hx) | fail)
          go_wp2_with (first | (go_at_call 11; with_reducible refine (lv_k3 _ (hL' _ (by repeat first | (with_reducible exact hq) | (with_reducible refine below_drew ?_) | (with_reducible refine below_on ?_ _) | (with_reducible refine below_alloc ?_ _) | (with_reducible refine below_set ?_ (by simp; try omega) _)))).mono ?_; rintro e wx ⟨rfl, hx⟩; obtain ⟨ux, rfl⟩ := after hx; clear hx) | fail)
          have hR : Below ((on u0)).heap.size ((on u0)) ((on ux).alloc (.cells #[.int .u8 1, .int .i64 2] 26)) := by repeat first | (with_reducible exact Below.refl _ _) | (with_reducible refine below_on ?_ _) | (with_reducible refine below_alloc ?_ _)
          have B100 : ((on ux).alloc (.cells #[.int .u8 1, .int .i64 2] 26)).cell? ⟨(on ux).heap.size, 0, none⟩ = some (.int .u8 1) := by simp [go_sem]
          have B101 : ((on ux).alloc (.cells #[.int .u8 1, .int .i64 2] 26)).cell? ⟨(on ux).heap.size, 1, none⟩ = some (.int .i64 2) := by simp [go_sem]
          have hB1 : Below w.heap.size w ((on ux).alloc (.cells #[.int .u8 1, .int .i64 2] 26)) := by repeat first | (with_reducible exact hq) | (with_reducible refine below_on ?_ _) | (with_reducible refine below_alloc ?_ _)
          clear hR   hq
          generalize ((on ux).alloc (.cells #[.int .u8 1, .int .i64 2] 26)) = W1 at *
          generalize (on ux).heap.size = B1 at *
          clear ux
          have z1 : B1 < W1.heap.size := World.block_lt_of_cell? _ _ B100
          refine wp_region_held_drew (S := fun w' => w'.cell? ⟨B1, 0, none⟩ = some (.int .u8 1) ∧ w'.cell? ⟨B1, 1, none⟩ = some (.int .i64 2)) (by kernel_rfl) ?_ (fun hHeld => ?_)
          · ((try dsimp only); (first | (simp [go_sem, *]; done) | fail))
          refine takeL (i := 0) (v := ?_) rfl (by kernel_rfl) (by kernel_rfl) (by kernel_rfl) (fun _ _ _ h => h) (Or.inl ⟨by rfl, ?_⟩) (by assumption) ?_
          rotate_left
          · (intro w hSw; (try dsimp only at hSw); go_simp; try (with_reducible rfl))
          try simp only [Act.put, List.setIfInBounds_toArray, List.set_cons_zero, List.set_cons_succ]
          refine takeL (i := 1) (v := ?_) rfl (by kernel_rfl) (by kernel_rfl) (by kernel_rfl) (fun _ _ _ h => h) (Or.inl ⟨by rfl, ?_⟩) (by assumption) ?_
          rotate_left
          · (intro w hSw; (try dsimp only at hSw); go_simp; try (with_reducible rfl))
          try simp only [Act.put, List.setIfInBounds_toArray, List.set_cons_zero, List.set_cons_succ]
          refine takeL (i := 6) (v := ?_) rfl (by kernel_rfl) (by kernel_rfl) (by kernel_rfl) (fun _ _ _ h => h) (Or.inl ⟨by rfl, ?_⟩) (by assumption) ?_
          rotate_left
          · (intro w hSw; (try dsimp only at hSw); go_simp; try (with_reducible rfl))
          try simp only [Act.put, List.setIfInBounds_toArray, List.set_cons_zero, List.set_cons_succ]
          refine wpAnyH_ready (rs := [2]) (by kernel_rfl) (by simp) ?_
          refine consL rfl (fun K hK => ?_)
          go_simp
          (first | (go_at_call 45; with_reducible refine (line_any _ _ _).mono ?_; rintro e wx ⟨rfl, hx⟩; obtain ⟨ux, rfl⟩ := after hx; clear hx; have s0 : W1.heap.size ≤ (on ux).heap.size := (by have := on_size ux; (try simp at this); omega); have n0 : ¬ (on ux).heap.size = B1 := (by omega)))
          refine hK.out _ _ ?_ (fun hHeld => ?_)
          · ((try dsimp only); (first | (simp [go_sem, *]; done) | fail))
          clear hK K
          try simp only [Act.put, List.setIfInBounds_toArray, List.set_cons_zero, List.set_cons_succ]
          refine wpAnyH_ready (rs := [3]) (by kernel_rfl) (by simp) ?_
          refine consL rfl (fun K hK => ?_)
          go_simp
          (first | (go_at_call 45; with_reducible refine (line_any _ _ _).mono ?_; rintro e wx ⟨rfl, hx⟩; obtain ⟨ux, rfl⟩ := after hx; clear hx; have s0 : W1.heap.size ≤ (on ux).heap.size := (by have := on_size ux; (try simp at this); omega); have n0 : ¬ (on ux).heap.size = B1 := (by omega)))
          refine hK.out _ _ ?_ (fun hHeld => ?_)
          · ((try dsimp only); (first | (simp [go_sem, *]; done) | fail))
          clear hK K
          try simp only [Act.put, List.setIfInBounds_toArray, List.set_cons_zero, List.set_cons_succ]
          refine wpAnyH_ready (rs := [4]) (by kernel_rfl) (by simp) ?_
          refine consL rfl (fun K hK => ?_)
          go_simp
          (first | (go_at_call 45; with_reducible refine (line_any _ _ _).mono ?_; rintro e wx ⟨rfl, hx⟩; obtain ⟨ux, rfl⟩ := after hx; clear hx; have s0 : W1.heap.size ≤ (on ux).heap.size := (by have := on_size ux; (try simp at this); omega); have n0 : ¬ (on ux).heap.size = B1 := (by omega)))
          refine hK.out _ _ ?_ (fun hHeld => ?_)
          · ((try dsimp only); (first | (simp [go_sem, *]; done) | fail))
          clear hK K
          try simp only [Act.put, List.setIfInBounds_toArray, List.set_cons_zero, List.set_cons_succ]
          refine wpAnyH_ready (rs := [5]) (by kernel_rfl) (by simp) ?_
          refine consL rfl (fun K hK => ?_)
          go_simp
          refine hK.out _ _ ?_ (fun hHeld => ?_)
          · ((try dsimp only); (first | (simp [go_sem, *]; done) | fail))
          clear hK K
          try simp only [Act.put, List.setIfInBounds_toArray, List.set_cons_zero, List.set_cons_succ]
          refine takeL (i := 7) (v := ?_) rfl (by kernel_rfl) (by kernel_rfl) (by kernel_rfl) (fun _ _ _ h => h) (Or.inl ⟨by rfl, ?_⟩) (by assumption) ?_
          rotate_left
          · (intro w hSw; (try dsimp only at hSw); go_simp; try (with_reducible rfl))
          try simp only [Act.put, List.setIfInBounds_toArray, List.set_cons_zero, List.set_cons_succ]
          refine wpAnyH_ready (rs := [8]) (by kernel_rfl) (by simp) ?_
          refine consL rfl (fun K hK => ?_)
          go_simp
          refine hK.out _ _ ?_ (fun hHeld => ?_)
          · ((try dsimp only); (first | (simp [go_sem, *]; done) | fail))
          clear hK K
          try simp only [Act.put, List.setIfInBounds_toArray, List.set_cons_zero, List.set_cons_succ]
          refine takeL (i := 9) (v := ?_) rfl (by kernel_rfl) (by kernel_rfl) (by kernel_rfl) (fun _ _ _ h => h) (Or.inl ⟨by rfl, ?_⟩) (by assumption) ?_
          rotate_left
          · (intro w hSw; (try dsimp only at hSw); go_simp; try (with_reducible rfl))
          try simp only [Act.put, List.setIfInBounds_toArray, List.set_cons_zero, List.set_cons_succ]
          refine takeL (i := 10) (v := ?_) rfl (by kernel_rfl) (by kernel_rfl) (by kernel_rfl) (fun _ _ _ h => h) (Or.inl ⟨by rfl, ?_⟩) (by assumption) ?_
          rotate_left
          · (intro w hSw; (try dsimp only at hSw); go_simp; try (with_reducible rfl))
          try simp only [Act.put, List.setIfInBounds_toArray, List.set_cons_zero, List.set_cons_succ]
          refine takeL (i := 11) (v := ?_) rfl (by kernel_rfl) (by kernel_rfl) (by kernel_rfl) (fun _ _ _ h => h) (Or.inl ⟨by rfl, ?_⟩) (by assumption) ?_
          rotate_left
          · (intro w hSw; (try dsimp only at hSw); go_simp; try (with_reducible rfl))
          try simp only [Act.put, List.setIfInBounds_toArray, List.set_cons_zero, List.set_cons_succ]
          refine takeL (i := 12) (v := ?_) rfl (by kernel_rfl) (by kernel_rfl) (by kernel_rfl) (fun _ _ _ h => h) (Or.inl ⟨by rfl, ?_⟩) (by assumption) ?_
          rotate_left
          · (intro w hSw; (try dsimp only at hSw); go_simp; try (with_reducible rfl))
          try simp only [Act.put, List.setIfInBounds_toArray, List.set_cons_zero, List.set_cons_succ]
          refine takeL (i := 13) (v := ?_) rfl (by kernel_rfl) (by kernel_rfl) (by kernel_rfl) (fun _ _ _ h => h) (Or.inl ⟨by rfl, ?_⟩) (by assumption) ?_
          rotate_left
          · (intro w hSw; (try dsimp only at hSw); go_simp; try (with_reducible rfl))
          try simp only [Act.put, List.setIfInBounds_toArray, List.set_cons_zero, List.set_cons_succ]
          refine wpAnyH_done (by kernel_rfl) ?_ _
          go_wp2_with fail
          exact ⟨⟨3 + 1, rfl, by omega, after (by repeat first | (with_reducible exact hB1) | (with_reducible refine below_drew ?_) | (with_reducible refine below_on ?_ _) | (with_reducible refine below_alloc ?_ _) | (with_reducible refine below_set ?_ (by simp; try omega) _))⟩, by simp [intOf]⟩
        · have hq0 : Below w.heap.size w (on u0) := hq
          generalize on u0 = V0 at *
          clear u0 hq
          go_wp2_with (first | (go_at_call 39; with_reducible refine (cell_any _ _ _ _).mono ?_; rintro e wx ⟨rfl, hx⟩; obtain ⟨uv, rfl⟩ := after hx; clear hx) | (go_at_call 20; with_reducible refine (lv_t1 _ (hL' _ (by repeat first | (with_reducible exact hq0) | (with_reducible refine below_drew ?_) | (with_reducible refine below_on ?_ _) | (with_reducible refine below_alloc ?_ _) | (with_reducible refine below_set ?_ (by simp; try omega) _)))).mono ?_; rintro e wx ⟨rfl, hx⟩; obtain ⟨ux, rfl⟩ := after hx; clear hx) | (go_at_call 20; with_reducible refine (lv_t2 _ (hL' _ (by repeat first | (with_reducible exact hq0) | (with_reducible refine below_drew ?_) | (with_reducible refine below_on ?_ _) | (with_reducible refine below_alloc ?_ _) | (with_reducible refine below_set ?_ (by simp; try omega) _)))).mono ?_; rintro e wx ⟨rfl, hx⟩; obtain ⟨ux, rfl⟩ := after hx; clear hx) | fail)
          go_wp2_with (first | (go_at_call 12; with_reducible refine (lv_c0 _ (hL' _ (by repeat first | (with_reducible exact hq0) | (with_reducible refine below_drew ?_) | (with_reducible refine below_on ?_ _) | (with_reducible refine below_alloc ?_ _) | (with_reducible refine below_set ?_ (by simp; try omega) _)))).mono ?_; rintro e wx ⟨rfl, hx⟩; obtain ⟨ux, rfl⟩ := after hx; clear hx) | fail)
          have hR : Below (V0).heap.size (V0) ((on ux).alloc (.cells #[.int .i64 1, .int .i64 1, .int .i64 0, .int .i64 0, .int .i64 2, .int .i64 0] 32)) := by repeat first | (with_reducible exact Below.refl _ _) | (with_reducible refine below_on ?_ _) | (with_reducible refine below_alloc ?_ _)
          have A100 : ((on ux).alloc (.cells #[.int .i64 1, .int .i64 1, .int .i64 0, .int .i64 0, .int .i64 2, .int .i64 0] 32)).cell? ⟨(on ux).heap.size, 0, none⟩ = some (.int .i64 1) := by simp [go_sem]
          have A101 : ((on ux).alloc (.cells #[.int .i64 1, .int .i64 1, .int .i64 0, .int .i64 0, .int .i64 2, .int .i64 0] 32)).cell? ⟨(on ux).heap.size, 1, none⟩ = some (.int .i64 1) := by simp [go_sem]
          have A102 : ((on ux).alloc (.cells #[.int .i64 1, .int .i64 1, .int .i64 0, .int .i64 0, .int .i64 2, .int .i64 0] 32)).cell? ⟨(on ux).heap.size, 2, none⟩ = some (.int .i64 0) := by simp [go_sem]
          have A103 : ((on ux).alloc (.cells #[.int .i64 1, .int .i64 1, .int .i64 0, .int .i64 0, .int .i64 2, .int .i64 0] 32)).cell? ⟨(on ux).heap.size, 3, none⟩ = some (.int .i64 0) := by simp [go_sem]
          have A104 : ((on ux).alloc (.cells #[.int .i64 1, .int .i64 1, .int .i64 0, .int .i64 0, .int .i64 2, .int .i64 0] 32)).cell? ⟨(on ux).heap.size, 4, none⟩ = some (.int .i64 2) := by simp [go_sem]
          have A105 : ((on ux).alloc (.cells #[.int .i64 1, .int .i64 1, .int .i64 0, .int .i64 0, .int .i64 2, .int .i64 0] 32)).cell? ⟨(on ux).heap.size, 5, none⟩ = some (.int .i64 0) := by simp [go_sem]
          have hV1 : Below w.heap.size w ((on ux).alloc (.cells #[.int .i64 1, .int .i64 1, .int .i64 0, .int .i64 0, .int .i64 2, .int .i64 0] 32)) := by repeat first | (with_reducible exact hq0) | (with_reducible refine below_on ?_ _) | (with_reducible refine below_alloc ?_ _)
          clear hR   hq0
          generalize ((on ux).alloc (.cells #[.int .i64 1, .int .i64 1, .int .i64 0, .int .i64 0, .int .i64 2, .int .i64 0] 32)) = V1 at *
          generalize (on ux).heap.size = A1 at *
          clear ux
          go_wp2_with (first | (go_at_call 39; with_reducible refine (cell_any _ _ _ _).mono ?_; rintro e wx ⟨rfl, hx⟩; obtain ⟨uv, rfl⟩ := after hx; clear hx) | fail)
          go_wp2_with (first | (go_at_call 12; with_reducible refine (lv_c2 _ (hL' _ (by repeat first | (with_reducible exact hV1) | (with_reducible refine below_drew ?_) | (with_reducible refine below_on ?_ _) | (with_reducible refine below_alloc ?_ _) | (with_reducible refine below_set ?_ (by simp; try omega) _)))).mono ?_; rintro e wx ⟨rfl, hx⟩; obtain ⟨ux, rfl⟩ := after hx; clear hx) | fail)
          have hR : Below (V1).heap.size (V1) ((on ux).alloc (.cells #[.int .i64 1, .int .i64 1, .int .i64 2, .int .i64 2, .int .i64 0, .int .i64 2] 32)) := by repeat first | (with_reducible exact Below.refl _ _) | (with_reducible refine below_on ?_ _) | (with_reducible refine below_alloc ?_ _)
          have cR : ∀ {b_ i_ : Nat} {v_ : Value}, (V1).cell? ⟨b_, i_, none⟩ = some v_ → ((on ux).alloc (.cells #[.int .i64 1, .int .i64 1, .int .i64 2, .int .i64 2, .int .i64 0, .int .i64 2] 32)).cell? ⟨b_, i_, none⟩ = some v_ := fun h => (hR.cell (World.block_lt_of_cell? _ _ h)).trans h
          have A100' := cR A100
          have A101' := cR A101
          have A102' := cR A102
          have A103' := cR A103
          have A104' := cR A104
          have A105' := cR A105
          have A200 : ((on ux).alloc (.cells #[.int .i64 1, .int .i64 1, .int .i64 2, .int .i64 2, .int .i64 0, .int .i64 2] 32)).cell? ⟨(on ux).heap.size, 0, none⟩ = some (.int .i64 1) := by simp [go_sem]
          have A201 : ((on ux).alloc (.cells #[.int .i64 1, .int .i64 1, .int .i64 2, .int .i64 2, .int .i64 0, .int .i64 2] 32)).cell? ⟨(on ux).heap.size, 1, none⟩ = some (.int .i64 1) := by simp [go_sem]
          have A202 : ((on ux).alloc (.cells #[.int .i64 1, .int .i64 1, .int .i64 2, .int .i64 2, .int .i64 0, .int .i64 2] 32)).cell? ⟨(on ux).heap.size, 2, none⟩ = some (.int .i64 2) := by simp [go_sem]
          have A203 : ((on ux).alloc (.cells #[.int .i64 1, .int .i64 1, .int .i64 2, .int .i64 2, .int .i64 0, .int .i64 2] 32)).cell? ⟨(on ux).heap.size, 3, none⟩ = some (.int .i64 2) := by simp [go_sem]
          have A204 : ((on ux).alloc (.cells #[.int .i64 1, .int .i64 1, .int .i64 2, .int .i64 2, .int .i64 0, .int .i64 2] 32)).cell? ⟨(on ux).heap.size, 4, none⟩ = some (.int .i64 0) := by simp [go_sem]
          have A205 : ((on ux).alloc (.cells #[.int .i64 1, .int .i64 1, .int .i64 2, .int .i64 2, .int .i64 0, .int .i64 2] 32)).cell? ⟨(on ux).heap.size, 5, none⟩ = some (.int .i64 2) := by simp [go_sem]
          have hV2 : Below w.heap.size w ((on ux).alloc (.cells #[.int .i64 1, .int .i64 1, .int .i64 2, .int .i64 2, .int .i64 0, .int .i64 2] 32)) := by repeat first | (with_reducible exact hV1) | (with_reducible refine below_on ?_ _) | (with_reducible refine below_alloc ?_ _)
          clear hR cR A100 A101 A102 A103 A104 A105  hV1
          generalize ((on ux).alloc (.cells #[.int .i64 1, .int .i64 1, .int .i64 2, .int .i64 2, .int .i64 0, .int .i64 2] 32)) = V2 at *
          generalize (on ux).heap.size = A2 at *
          clear ux
          go_wp2_with fail
          clear A100' A101' A102' A103' A104' A105' A200 A201 A202 A203 A204 A205
          go_loopw [17] (fun iv wr => ∃ i : Int, iv = .int .u8 i ∧ (i = 0 ∨ i = 1 ∨ i = 2 ∨ i = 3 ∨ i = 4) ∧ ∃ u : Later w, wr = on u) (fun iv _ => (4 - intOf iv).toNat)
          case atStart => exact ⟨0, rfl, by omega, ⟨_, hV2⟩, rfl⟩
          case round =>
            obtain ⟨i, rfl, hi, u0, rfl⟩ := hrel
            have hq : Below w.heap.size w (on u0) := u0.b
            obtain rfl | rfl | rfl | rfl | rfl := hi
            · go_wp2_with (first | (go_at_call 45; with_reducible refine (line_any _ _ _).mono ?_; rintro e wx ⟨rfl, hx⟩; obtain ⟨uv, rfl⟩ := after hx; clear hx) | (go_at_call 39; with_reducible refine (cell_any _ _ _ _).mono ?_; rintro e wx ⟨rfl, hx⟩; obtain ⟨uw, rfl⟩ := after hx; clear hx) | (go_at_call 22; with_reducible refine (lv_s0 _ (hL' _ (by repeat first | (with_reducible exact hq) | (with_reducible refine below_drew ?_) | (with_reducible refine below_on ?_ _) | (with_reducible refine below_alloc ?_ _) | (with_reducible refine below_set ?_ (by simp; try omega) _)))).mono ?_; rintro e wx ⟨rfl, hx⟩; obtain ⟨ux, rfl⟩ := after hx; clear hx) | fail)
              exact ⟨⟨0 + 1, rfl, by omega, after (by repeat first | (with_reducible exact hq) | (with_reducible refine below_drew ?_) | (with_reducible refine below_on ?_ _) | (with_reducible refine below_alloc ?_ _) | (with_reducible refine below_set ?_ (by simp; try omega) _))⟩, by simp [intOf]⟩
            · go_wp2_with (first | (go_at_call 45; with_reducible refine (line_any _ _ _).mono ?_; rintro e wx ⟨rfl, hx⟩; obtain ⟨uv, rfl⟩ := after hx; clear hx) | (go_at_call 39; with_reducible refine (cell_any _ _ _ _).mono ?_; rintro e wx ⟨rfl, hx⟩; obtain ⟨uw, rfl⟩ := after hx; clear hx) | (go_at_call 22; with_reducible refine (lv_s1 _ (hL' _ (by repeat first | (with_reducible exact hq) | (with_reducible refine below_drew ?_) | (with_reducible refine below_on ?_ _) | (with_reducible refine below_alloc ?_ _) | (with_reducible refine below_set ?_ (by simp; try omega) _)))).mono ?_; rintro e wx ⟨rfl, hx⟩; obtain ⟨ux, rfl⟩ := after hx; clear hx) | fail)
              exact ⟨⟨1 + 1, rfl, by omega, after (by repeat first | (with_reducible exact hq) | (with_reducible refine below_drew ?_) | (with_reducible refine below_on ?_ _) | (with_reducible refine below_alloc ?_ _) | (with_reducible refine below_set ?_ (by simp; try omega) _))⟩, by simp [intOf]⟩
            · go_wp2_with (first | (go_at_call 45; with_reducible refine (line_any _ _ _).mono ?_; rintro e wx ⟨rfl, hx⟩; obtain ⟨uv, rfl⟩ := after hx; clear hx) | (go_at_call 39; with_reducible refine (cell_any _ _ _ _).mono ?_; rintro e wx ⟨rfl, hx⟩; obtain ⟨uw, rfl⟩ := after hx; clear hx) | (go_at_call 22; with_reducible refine (lv_s2 _ (hL' _ (by repeat first | (with_reducible exact hq) | (with_reducible refine below_drew ?_) | (with_reducible refine below_on ?_ _) | (with_reducible refine below_alloc ?_ _) | (with_reducible refine below_set ?_ (by simp; try omega) _)))).mono ?_; rintro e wx ⟨rfl, hx⟩; obtain ⟨ux, rfl⟩ := after hx; clear hx) | fail)
              exact ⟨⟨2 + 1, rfl, by omega, after (by repeat first | (with_reducible exact hq) | (with_reducible refine below_drew ?_) | (with_reducible refine below_on ?_ _) | (with_reducible refine below_alloc ?_ _) | (with_reducible refine below_set ?_ (by simp; try omega) _))⟩, by simp [intOf]⟩
            · go_wp2_with (first | (go_at_call 45; with_reducible refine (line_any _ _ _).mono ?_; rintro e wx ⟨rfl, hx⟩; obtain ⟨uv, rfl⟩ := after hx; clear hx) | (go_at_call 39; with_reducible refine (cell_any _ _ _ _).mono ?_; rintro e wx ⟨rfl, hx⟩; obtain ⟨uw, rfl⟩ := after hx; clear hx) | (go_at_call 22; with_reducible refine (lv_s3 _ (hL' _ (by repeat first | (with_reducible exact hq) | (with_reducible refine below_drew ?_) | (with_reducible refine below_on ?_ _) | (with_reducible refine below_alloc ?_ _) | (with_reducible refine below_set ?_ (by simp; try omega) _)))).mono ?_; rintro e wx ⟨rfl, hx⟩; obtain ⟨ux, rfl⟩ := after hx; clear hx) | fail)
              exact ⟨⟨3 + 1, rfl, by omega, after (by repeat first | (with_reducible exact hq) | (with_reducible refine below_drew ?_) | (with_reducible refine below_on ?_ _) | (with_reducible refine below_alloc ?_ _) | (with_reducible refine below_set ?_ (by simp; try omega) _))⟩, by simp [intOf]⟩
            · have hq3 : Below w.heap.size w (on u0) := hq
              generalize on u0 = V3 at *
              clear u0 hq
              go_wp2_with (first | (go_at_call 45; with_reducible refine (line_any _ _ _).mono ?_; rintro e wx ⟨rfl, hx⟩; obtain ⟨uv, rfl⟩ := after hx; clear hx) | (go_at_call 39; with_reducible refine (cell_any _ _ _ _).mono ?_; rintro e wx ⟨rfl, hx⟩; obtain ⟨uw, rfl⟩ := after hx; clear hx) | (go_at_call 22; with_reducible refine (lv_sa _ (hL' _ (by repeat first | (with_reducible exact hq3) | (with_reducible refine below_drew ?_) | (with_reducible refine below_on ?_ _) | (with_reducible refine below_alloc ?_ _) | (with_reducible refine below_set ?_ (by simp; try omega) _)))).mono ?_; rintro e wx ⟨rfl, hx⟩; obtain ⟨ux, rfl⟩ := after hx; clear hx) | (go_at_call 22; with_reducible refine (lv_sb _ (hL' _ (by repeat first | (with_reducible exact hq3) | (with_reducible refine below_drew ?_) | (with_reducible refine below_on ?_ _) | (with_reducible refine below_alloc ?_ _) | (with_reducible refine below_set ?_ (by simp; try omega) _)))).mono ?_; rintro e wx ⟨rfl, hx⟩; obtain ⟨ux, rfl⟩ := after hx; clear hx) | fail)
              go_wp2_with (first | (go_at_call 25; with_reducible refine (lv_m _ (hL' _ (by repeat first | (with_reducible exact hq3) | (with_reducible refine below_drew ?_) | (with_reducible refine below_on ?_ _) | (with_reducible refine below_alloc ?_ _) | (with_reducible refine below_set ?_ (by simp; try omega) _)))).mono ?_; rintro e wx ⟨rfl, hx⟩; obtain ⟨ux, rfl⟩ := after hx; clear hx) | fail)
              have hR : Below (V3).heap.size (V3) ((on ux).alloc (.cells #[.int .i64 1, .int .i64 4, .int .u8 1] 23)) := by repeat first | (with_reducible exact Below.refl _ _) | (with_reducible refine below_on ?_ _) | (with_reducible refine below_alloc ?_ _)
              have A400 : ((on ux).alloc (.cells #[.int .i64 1, .int .i64 4, .int .u8 1] 23)).cell? ⟨(on ux).heap.size, 0, none⟩ = some (.int .i64 1) := by simp [go_sem]
              have A401 : ((on ux).alloc (.cells #[.int .i64 1, .int .i64 4, .int .u8 1] 23)).cell? ⟨(on ux).heap.size, 1, none⟩ = some (.int .i64 4) := by simp [go_sem]
              have A402 : ((on ux).alloc (.cells #[.int .i64 1, .int .i64 4, .int .u8 1] 23)).cell? ⟨(on ux).heap.size, 2, none⟩ = some (.int .u8 1) := by simp [go_sem]
              have hV4 : Below w.heap.size w ((on ux).alloc (.cells #[.int .i64 1, .int .i64 4, .int .u8 1] 23)) := by repeat first | (with_reducible exact hq3) | (with_reducible refine below_on ?_ _) | (with_reducible refine below_alloc ?_ _)
              clear hR   hq3
              generalize ((on ux).alloc (.cells #[.int .i64 1, .int .i64 4, .int .u8 1] 23)) = V4 at *
              generalize (on ux).heap.size = A4 at *
              clear ux
              refine region_later (by kernel_rfl) (by kernel_rfl) ?_
              repeat (go_big_quiet_step ((first | (go_at_call 39; with_reducible exact Calls.later (cell_any _ _ _ _)) | fail)))
              refine wpQuiet_nil ?_
              rintro _ ⟨uz, rfl⟩
              have hV5 : Below w.heap.size w (on uz) := below_on hV4 uz
              clear A400 A401 A402 hV4
              generalize on uz = V5 at *
              clear uz
              go_wp2_with (first | (go_at_call 39; with_reducible refine (cell_any _ _ _ _).mono ?_; rintro e wx ⟨rfl, hx⟩; obtain ⟨ux, rfl⟩ := after hx; clear hx) | fail)
              have hR : Below (V5).heap.size (V5) (((on ux).alloc (.cells #[.int .i64 0, .int .i64 0, .int .u8 3, .int .i64 0, .int .i64 0, .int .u8 1, .int .i64 0, .int .i64 0, .int .u8 2, .int .i64 0, .int .i64 (-1), .int .u8 2, .int .i64 1, .int .i64 0, .int .u8 0] 23)).alloc (.cells #[.int .u8 7, .int .i64 0, .int .i64 0, .int .u8 5, .int .i64 1, .int .i64 1, .int .u8 2, .int .i64 1, .int .i64 1, .int .u8 6, .int .i64 0, .int .i64 0, .int .u8 4, .int .i64 2, .int .i64 0] 54)) := by repeat first | (with_reducible exact Below.refl _ _) | (with_reducible refine below_on ?_ _) | (with_reducible refine below_alloc ?_ _)
              have B600 : (((on ux).alloc (.cells #[.int .i64 0, .int .i64 0, .int .u8 3, .int .i64 0, .int .i64 0, .int .u8 1, .int .i64 0, .int .i64 0, .int .u8 2, .int .i64 0, .int .i64 (-1), .int .u8 2, .int .i64 1, .int .i64 0, .int .u8 0] 23)).alloc (.cells #[.int .u8 7, .int .i64 0, .int .i64 0, .int .u8 5, .int .i64 1, .int .i64 1, .int .u8 2, .int .i64 1, .int .i64 1, .int .u8 6, .int .i64 0, .int .i64 0, .int .u8 4, .int .i64 2, .int .i64 0] 54)).cell? ⟨(on ux).heap.size, 0, none⟩ = some (.int .i64 0) := by simp [go_sem]
              have B601 : (((on ux).alloc (.cells #[.int .i64 0, .int .i64 0, .int .u8 3, .int .i64 0, .int .i64 0, .int .u8 1, .int .i64 0, .int .i64 0, .int .u8 2, .int .i64 0, .int .i64 (-1), .int .u8 2, .int .i64 1, .int .i64 0, .int .u8 0] 23)).alloc (.cells #[.int .u8 7, .int .i64 0, .int .i64 0, .int .u8 5, .int .i64 1, .int .i64 1, .int .u8 2, .int .i64 1, .int .i64 1, .int .u8 6, .int .i64 0, .int .i64 0, .int .u8 4, .int .i64 2, .int .i64 0] 54)).cell? ⟨(on ux).heap.size, 1, none⟩ = some (.int .i64 0) := by simp [go_sem]
              have B602 : (((on ux).alloc (.cells #[.int .i64 0, .int .i64 0, .int .u8 3, .int .i64 0, .int .i64 0, .int .u8 1, .int .i64 0, .int .i64 0, .int .u8 2, .int .i64 0, .int .i64 (-1), .int .u8 2, .int .i64 1, .int .i64 0, .int .u8 0] 23)).alloc (.cells #[.int .u8 7, .int .i64 0, .int .i64 0, .int .u8 5, .int .i64 1, .int .i64 1, .int .u8 2, .int .i64 1, .int .i64 1, .int .u8 6, .int .i64 0, .int .i64 0, .int .u8 4, .int .i64 2, .int .i64 0] 54)).cell? ⟨(on ux).heap.size, 2, none⟩ = some (.int .u8 3) := by simp [go_sem]
              have B603 : (((on ux).alloc (.cells #[.int .i64 0, .int .i64 0, .int .u8 3, .int .i64 0, .int .i64 0, .int .u8 1, .int .i64 0, .int .i64 0, .int .u8 2, .int .i64 0, .int .i64 (-1), .int .u8 2, .int .i64 1, .int .i64 0, .int .u8 0] 23)).alloc (.cells #[.int .u8 7, .int .i64 0, .int .i64 0, .int .u8 5, .int .i64 1, .int .i64 1, .int .u8 2, .int .i64 1, .int .i64 1, .int .u8 6, .int .i64 0, .int .i64 0, .int .u8 4, .int .i64 2, .int .i64 0] 54)).cell? ⟨(on ux).heap.size, 3, none⟩ = some (.int .i64 0) := by simp [go_sem]
              have B604 : (((on ux).alloc (.cells #[.int .i64 0, .int .i64 0, .int .u8 3, .int .i64 0, .int .i64 0, .int .u8 1, .int .i64 0, .int .i64 0, .int .u8 2, .int .i64 0, .int .i64 (-1), .int .u8 2, .int .i64 1, .int .i64 0, .int .u8 0] 23)).alloc (.cells #[.int .u8 7, .int .i64 0, .int .i64 0, .int .u8 5, .int .i64 1, .int .i64 1, .int .u8 2, .int .i64 1, .int .i64 1, .int .u8 6, .int .i64 0, .int .i64 0, .int .u8 4, .int .i64 2, .int .i64 0] 54)).cell? ⟨(on ux).heap.size, 4, none⟩ = some (.int .i64 0) := by simp [go_sem]
              have B605 : (((on ux).alloc (.cells #[.int .i64 0, .int .i64 0, .int .u8 3, .int .i64 0, .int .i64 0, .int .u8 1, .int .i64 0, .int .i64 0, .int .u8 2, .int .i64 0, .int .i64 (-1), .int .u8 2, .int .i64 1, .int .i64 0, .int .u8 0] 23)).alloc (.cells #[.int .u8 7, .int .i64 0, .int .i64 0, .int .u8 5, .int .i64 1, .int .i64 1, .int .u8 2, .int .i64 1, .int .i64 1, .int .u8 6, .int .i64 0, .int .i64 0, .int .u8 4, .int .i64 2, .int .i64 0] 54)).cell? ⟨(on ux).heap.size, 5, none⟩ = some (.int .u8 1) := by simp [go_sem]
              have B606 : (((on ux).alloc (.cells #[.int .i64 0, .int .i64 0, .int .u8 3, .int .i64 0, .int .i64 0, .int .u8 1, .int .i64 0, .int .i64 0, .int .u8 2, .int .i64 0, .int .i64 (-1), .int .u8 2, .int .i64 1, .int .i64 0, .int .u8 0] 23)).alloc (.cells #[.int .u8 7, .int .i64 0, .int .i64 0, .int .u8 5, .int .i64 1, .int .i64 1, .int .u8 2, .int .i64 1, .int .i64 1, .int .u8 6, .int .i64 0, .int .i64 0, .int .u8 4, .int .i64 2, .int .i64 0] 54)).cell? ⟨(on ux).heap.size, 6, none⟩ = some (.int .i64 0) := by simp [go_sem]
              have B607 : (((on ux).alloc (.cells #[.int .i64 0, .int .i64 0, .int .u8 3, .int .i64 0, .int .i64 0, .int .u8 1, .int .i64 0, .int .i64 0, .int .u8 2, .int .i64 0, .int .i64 (-1), .int .u8 2, .int .i64 1, .int .i64 0, .int .u8 0] 23)).alloc (.cells #[.int .u8 7, .int .i64 0, .int .i64 0, .int .u8 5, .int .i64 1, .int .i64 1, .int .u8 2, .int .i64 1, .int .i64 1, .int .u8 6, .int .i64 0, .int .i64 0, .int .u8 4, .int .i64 2, .int .i64 0] 54)).cell? ⟨(on ux).heap.size, 7, none⟩ = some (.int .i64 0) := by simp [go_sem]
              have B608 : (((on ux).alloc (.cells #[.int .i64 0, .int .i64 0, .int .u8 3, .int .i64 0, .int .i64 0, .int .u8 1, .int .i64 0, .int .i64 0, .int .u8 2, .int .i64 0, .int .i64 (-1), .int .u8 2, .int .i64 1, .int .i64 0, .int .u8 0] 23)).alloc (.cells #[.int .u8 7, .int .i64 0, .int .i64 0, .int .u8 5, .int .i64 1, .int .i64 1, .int .u8 2, .int .i64 1, .int .i64 1, .int .u8 6, .int .i64 0, .int .i64 0, .int .u8 4, .int .i64 2, .int .i64 0] 54)).cell? ⟨(on ux).heap.size, 8, none⟩ = some (.int .u8 2) := by simp [go_sem]
              have B609 : (((on ux).alloc (.cells #[.int .i64 0, .int .i64 0, .int .u8 3, .int .i64 0, .int .i64 0, .int .u8 1, .int .i64 0, .int .i64 0, .int .u8 2, .int .i64 0, .int .i64 (-1), .int .u8 2, .int .i64 1, .int .i64 0, .int .u8 0] 23)).alloc (.cells #[.int .u8 7, .int .i64 0, .int .i64 0, .int .u8 5, .int .i64 1, .int .i64 1, .int .u8 2, .int .i64 1, .int .i64 1, .int .u8 6, .int .i64 0, .int .i64 0, .int .u8 4, .int .i64 2, .int .i64 0] 54)).cell? ⟨(on ux).heap.size, 9, none⟩ = some (.int .i64 0) := by simp [go_sem]
              have B6010 : (((on ux).alloc (.cells #[.int .i64 0, .int .i64 0, .int .u8 3, .int .i64 0, .int .i64 0, .int .u8 1, .int .i64 0, .int .i64 0, .int .u8 2, .int .i64 0, .int .i64 (-1), .int .u8 2, .int .i64 1, .int .i64 0, .int .u8 0] 23)).alloc (.cells #[.int .u8 7, .int .i64 0, .int .i64 0, .int .u8 5, .int .i64 1, .int .i64 1, .int .u8 2, .int .i64 1, .int .i64 1, .int .u8 6, .int .i64 0, .int .i64 0, .int .u8 4, .int .i64 2, .int .i64 0] 54)).cell? ⟨(on ux).heap.size, 10, none⟩ = some (.int .i64 (-1)) := by simp [go_sem]
              have B6011 : (((on ux).alloc (.cells #[.int .i64 0, .int .i64 0, .int .u8 3, .int .i64 0, .int .i64 0, .int .u8 1, .int .i64 0, .int .i64 0, .int .u8 2, .int .i64 0, .int .i64 (-1), .int .u8 2, .int .i64 1, .int .i64 0, .int .u8 0] 23)).alloc (.cells #[.int .u8 7, .int .i64 0, .int .i64 0, .int .u8 5, .int .i64 1, .int .i64 1, .int .u8 2, .int .i64 1, .int .i64 1, .int .u8 6, .int .i64 0, .int .i64 0, .int .u8 4, .int .i64 2, .int .i64 0] 54)).cell? ⟨(on ux).heap.size, 11, none⟩ = some (.int .u8 2) := by simp [go_sem]
              have B6012 : (((on ux).alloc (.cells #[.int .i64 0, .int .i64 0, .int .u8 3, .int .i64 0, .int .i64 0, .int .u8 1, .int .i64 0, .int .i64 0, .int .u8 2, .int .i64 0, .int .i64 (-1), .int .u8 2, .int .i64 1, .int .i64 0, .int .u8 0] 23)).alloc (.cells #[.int .u8 7, .int .i64 0, .int .i64 0, .int .u8 5, .int .i64 1, .int .i64 1, .int .u8 2, .int .i64 1, .int .i64 1, .int .u8 6, .int .i64 0, .int .i64 0, .int .u8 4, .int .i64 2, .int .i64 0] 54)).cell? ⟨(on ux).heap.size, 12, none⟩ = some (.int .i64 1) := by simp [go_sem]
              have B6013 : (((on ux).alloc (.cells #[.int .i64 0, .int .i64 0, .int .u8 3, .int .i64 0, .int .i64 0, .int .u8 1, .int .i64 0, .int .i64 0, .int .u8 2, .int .i64 0, .int .i64 (-1), .int .u8 2, .int .i64 1, .int .i64 0, .int .u8 0] 23)).alloc (.cells #[.int .u8 7, .int .i64 0, .int .i64 0, .int .u8 5, .int .i64 1, .int .i64 1, .int .u8 2, .int .i64 1, .int .i64 1, .int .u8 6, .int .i64 0, .int .i64 0, .int .u8 4, .int .i64 2, .int .i64 0] 54)).cell? ⟨(on ux).heap.size, 13, none⟩ = some (.int .i64 0) := by simp [go_sem]
              have B6014 : (((on ux).alloc (.cells #[.int .i64 0, .int .i64 0, .int .u8 3, .int .i64 0, .int .i64 0, .int .u8 1, .int .i64 0, .int .i64 0, .int .u8 2, .int .i64 0, .int .i64 (-1), .int .u8 2, .int .i64 1, .int .i64 0, .int .u8 0] 23)).alloc (.cells #[.int .u8 7, .int .i64 0, .int .i64 0, .int .u8 5, .int .i64 1, .int .i64 1, .int .u8 2, .int .i64 1, .int .i64 1, .int .u8 6, .int .i64 0, .int .i64 0, .int .u8 4, .int .i64 2, .int .i64 0] 54)).cell? ⟨(on ux).heap.size, 14, none⟩ = some (.int .u8 0) := by simp [go_sem]
              have B610 : (((on ux).alloc (.cells #[.int .i64 0, .int .i64 0, .int .u8 3, .int .i64 0, .int .i64 0, .int .u8 1, .int .i64 0, .int .i64 0, .int .u8 2, .int .i64 0, .int .i64 (-1), .int .u8 2, .int .i64 1, .int .i64 0, .int .u8 0] 23)).alloc (.cells #[.int .u8 7, .int .i64 0, .int .i64 0, .int .u8 5, .int .i64 1, .int .i64 1, .int .u8 2, .int .i64 1, .int .i64 1, .int .u8 6, .int .i64 0, .int .i64 0, .int .u8 4, .int .i64 2, .int .i64 0] 54)).cell? ⟨((on ux).heap.size + 1), 0, none⟩ = some (.int .u8 7) := by simp [go_sem]
              have B611 : (((on ux).alloc (.cells #[.int .i64 0, .int .i64 0, .int .u8 3, .int .i64 0, .int .i64 0, .int .u8 1, .int .i64 0, .int .i64 0, .int .u8 2, .int .i64 0, .int .i64 (-1), .int .u8 2, .int .i64 1, .int .i64 0, .int .u8 0] 23)).alloc (.cells #[.int .u8 7, .int .i64 0, .int .i64 0, .int .u8 5, .int .i64 1, .int .i64 1, .int .u8 2, .int .i64 1, .int .i64 1, .int .u8 6, .int .i64 0, .int .i64 0, .int .u8 4, .int .i64 2, .int .i64 0] 54)).cell? ⟨((on ux).heap.size + 1), 1, none⟩ = some (.int .i64 0) := by simp [go_sem]
              have B612 : (((on ux).alloc (.cells #[.int .i64 0, .int .i64 0, .int .u8 3, .int .i64 0, .int .i64 0, .int .u8 1, .int .i64 0, .int .i64 0, .int .u8 2, .int .i64 0, .int .i64 (-1), .int .u8 2, .int .i64 1, .int .i64 0, .int .u8 0] 23)).alloc (.cells #[.int .u8 7, .int .i64 0, .int .i64 0, .int .u8 5, .int .i64 1, .int .i64 1, .int .u8 2, .int .i64 1, .int .i64 1, .int .u8 6, .int .i64 0, .int .i64 0, .int .u8 4, .int .i64 2, .int .i64 0] 54)).cell? ⟨((on ux).heap.size + 1), 2, none⟩ = some (.int .i64 0) := by simp [go_sem]
              have B613 : (((on ux).alloc (.cells #[.int .i64 0, .int .i64 0, .int .u8 3, .int .i64 0, .int .i64 0, .int .u8 1, .int .i64 0, .int .i64 0, .int .u8 2, .int .i64 0, .int .i64 (-1), .int .u8 2, .int .i64 1, .int .i64 0, .int .u8 0] 23)).alloc (.cells #[.int .u8 7, .int .i64 0, .int .i64 0, .int .u8 5, .int .i64 1, .int .i64 1, .int .u8 2, .int .i64 1, .int .i64 1, .int .u8 6, .int .i64 0, .int .i64 0, .int .u8 4, .int .i64 2, .int .i64 0] 54)).cell? ⟨((on ux).heap.size + 1), 3, none⟩ = some (.int .u8 5) := by simp [go_sem]
              have B614 : (((on ux).alloc (.cells #[.int .i64 0, .int .i64 0, .int .u8 3, .int .i64 0, .int .i64 0, .int .u8 1, .int .i64 0, .int .i64 0, .int .u8 2, .int .i64 0, .int .i64 (-1), .int .u8 2, .int .i64 1, .int .i64 0, .int .u8 0] 23)).alloc (.cells #[.int .u8 7, .int .i64 0, .int .i64 0, .int .u8 5, .int .i64 1, .int .i64 1, .int .u8 2, .int .i64 1, .int .i64 1, .int .u8 6, .int .i64 0, .int .i64 0, .int .u8 4, .int .i64 2, .int .i64 0] 54)).cell? ⟨((on ux).heap.size + 1), 4, none⟩ = some (.int .i64 1) := by simp [go_sem]
              have B615 : (((on ux).alloc (.cells #[.int .i64 0, .int .i64 0, .int .u8 3, .int .i64 0, .int .i64 0, .int .u8 1, .int .i64 0, .int .i64 0, .int .u8 2, .int .i64 0, .int .i64 (-1), .int .u8 2, .int .i64 1, .int .i64 0, .int .u8 0] 23)).alloc (.cells #[.int .u8 7, .int .i64 0, .int .i64 0, .int .u8 5, .int .i64 1, .int .i64 1, .int .u8 2, .int .i64 1, .int .i64 1, .int .u8 6, .int .i64 0, .int .i64 0, .int .u8 4, .int .i64 2, .int .i64 0] 54)).cell? ⟨((on ux).heap.size + 1), 5, none⟩ = some (.int .i64 1) := by simp [go_sem]
              have B616 : (((on ux).alloc (.cells #[.int .i64 0, .int .i64 0, .int .u8 3, .int .i64 0, .int .i64 0, .int .u8 1, .int .i64 0, .int .i64 0, .int .u8 2, .int .i64 0, .int .i64 (-1), .int .u8 2, .int .i64 1, .int .i64 0, .int .u8 0] 23)).alloc (.cells #[.int .u8 7, .int .i64 0, .int .i64 0, .int .u8 5, .int .i64 1, .int .i64 1, .int .u8 2, .int .i64 1, .int .i64 1, .int .u8 6, .int .i64 0, .int .i64 0, .int .u8 4, .int .i64 2, .int .i64 0] 54)).cell? ⟨((on ux).heap.size + 1), 6, none⟩ = some (.int .u8 2) := by simp [go_sem]
              have B617 : (((on ux).alloc (.cells #[.int .i64 0, .int .i64 0, .int .u8 3, .int .i64 0, .int .i64 0, .int .u8 1, .int .i64 0, .int .i64 0, .int .u8 2, .int .i64 0, .int .i64 (-1), .int .u8 2, .int .i64 1, .int .i64 0, .int .u8 0] 23)).alloc (.cells #[.int .u8 7, .int .i64 0, .int .i64 0, .int .u8 5, .int .i64 1, .int .i64 1, .int .u8 2, .int .i64 1, .int .i64 1, .int .u8 6, .int .i64 0, .int .i64 0, .int .u8 4, .int .i64 2, .int .i64 0] 54)).cell? ⟨((on ux).heap.size + 1), 7, none⟩ = some (.int .i64 1) := by simp [go_sem]
              have B618 : (((on ux).alloc (.cells #[.int .i64 0, .int .i64 0, .int .u8 3, .int .i64 0, .int .i64 0, .int .u8 1, .int .i64 0, .int .i64 0, .int .u8 2, .int .i64 0, .int .i64 (-1), .int .u8 2, .int .i64 1, .int .i64 0, .int .u8 0] 23)).alloc (.cells #[.int .u8 7, .int .i64 0, .int .i64 0, .int .u8 5, .int .i64 1, .int .i64 1, .int .u8 2, .int .i64 1, .int .i64 1, .int .u8 6, .int .i64 0, .int .i64 0, .int .u8 4, .int .i64 2, .int .i64 0] 54)).cell? ⟨((on ux).heap.size + 1), 8, none⟩ = some (.int .i64 1) := by simp [go_sem]
              have B619 : (((on ux).alloc (.cells #[.int .i64 0, .int .i64 0, .int .u8 3, .int .i64 0, .int .i64 0, .int .u8 1, .int .i64 0, .int .i64 0, .int .u8 2, .int .i64 0, .int .i64 (-1), .int .u8 2, .int .i64 1, .int .i64 0, .int .u8 0] 23)).alloc (.cells #[.int .u8 7, .int .i64 0, .int .i64 0, .int .u8 5, .int .i64 1, .int .i64 1, .int .u8 2, .int .i64 1, .int .i64 1, .int .u8 6, .int .i64 0, .int .i64 0, .int .u8 4, .int .i64 2, .int .i64 0] 54)).cell? ⟨((on ux).heap.size + 1), 9, none⟩ = some (.int .u8 6) := by simp [go_sem]
              have B6110 : (((on ux).alloc (.cells #[.int .i64 0, .int .i64 0, .int .u8 3, .int .i64 0, .int .i64 0, .int .u8 1, .int .i64 0, .int .i64 0, .int .u8 2, .int .i64 0, .int .i64 (-1), .int .u8 2, .int .i64 1, .int .i64 0, .int .u8 0] 23)).alloc (.cells #[.int .u8 7, .int .i64 0, .int .i64 0, .int .u8 5, .int .i64 1, .int .i64 1, .int .u8 2, .int .i64 1, .int .i64 1, .int .u8 6, .int .i64 0, .int .i64 0, .int .u8 4, .int .i64 2, .int .i64 0] 54)).cell? ⟨((on ux).heap.size + 1), 10, none⟩ = some (.int .i64 0) := by simp [go_sem]
              have B6111 : (((on ux).alloc (.cells #[.int .i64 0, .int .i64 0, .int .u8 3, .int .i64 0, .int .i64 0, .int .u8 1, .int .i64 0, .int .i64 0, .int .u8 2, .int .i64 0, .int .i64 (-1), .int .u8 2, .int .i64 1, .int .i64 0, .int .u8 0] 23)).alloc (.cells #[.int .u8 7, .int .i64 0, .int .i64 0, .int .u8 5, .int .i64 1, .int .i64 1, .int .u8 2, .int .i64 1, .int .i64 1, .int .u8 6, .int .i64 0, .int .i64 0, .int .u8 4, .int .i64 2, .int .i64 0] 54)).cell? ⟨((on ux).heap.size + 1), 11, none⟩ = some (.int .i64 0) := by simp [go_sem]
              have B6112 : (((on ux).alloc (.cells #[.int .i64 0, .int .i64 0, .int .u8 3, .int .i64 0, .int .i64 0, .int .u8 1, .int .i64 0, .int .i64 0, .int .u8 2, .int .i64 0, .int .i64 (-1), .int .u8 2, .int .i64 1, .int .i64 0, .int .u8 0] 23)).alloc (.cells #[.int .u8 7, .int .i64 0, .int .i64 0, .int .u8 5, .int .i64 1, .int .i64 1, .int .u8 2, .int .i64 1, .int .i64 1, .int .u8 6, .int .i64 0, .int .i64 0, .int .u8 4, .int .i64 2, .int .i64 0] 54)).cell? ⟨((on ux).heap.size + 1), 12, none⟩ = some (.int .u8 4) := by simp [go_sem]
              have B6113 : (((on ux).alloc (.cells #[.int .i64 0, .int .i64 0, .int .u8 3, .int .i64 0, .int .i64 0, .int .u8 1, .int .i64 0, .int .i64 0, .int .u8 2, .int .i64 0, .int .i64 (-1), .int .u8 2, .int .i64 1, .int .i64 0, .int .u8 0] 23)).alloc (.cells #[.int .u8 7, .int .i64 0, .int .i64 0, .int .u8 5, .int .i64 1, .int .i64 1, .int .u8 2, .int .i64 1, .int .i64 1, .int .u8 6, .int .i64 0, .int .i64 0, .int .u8 4, .int .i64 2, .int .i64 0] 54)).cell? ⟨((on ux).heap.size + 1), 13, none⟩ = some (.int .i64 2) := by simp [go_sem]
              have B6114 : (((on ux).alloc (.cells #[.int .i64 0, .int .i64 0, .int .u8 3, .int .i64 0, .int .i64 0, .int .u8 1, .int .i64 0, .int .i64 0, .int .u8 2, .int .i64 0, .int .i64 (-1), .int .u8 2, .int .i64 1, .int .i64 0, .int .u8 0] 23)).alloc (.cells #[.int .u8 7, .int .i64 0, .int .i64 0, .int .u8 5, .int .i64 1, .int .i64 1, .int .u8 2, .int .i64 1, .int .i64 1, .int .u8 6, .int .i64 0, .int .i64 0, .int .u8 4, .int .i64 2, .int .i64 0] 54)).cell? ⟨((on ux).heap.size + 1), 14, none⟩ = some (.int .i64 0) := by simp [go_sem]
              have hV6 : Below w.heap.size w (((on ux).alloc (.cells #[.int .i64 0, .int .i64 0, .int .u8 3, .int .i64 0, .int .i64 0, .int .u8 1, .int .i64 0, .int .i64 0, .int .u8 2, .int .i64 0, .int .i64 (-1), .int .u8 2, .int .i64 1, .int .i64 0, .int .u8 0] 23)).alloc (.cells #[.int .u8 7, .int .i64 0, .int .i64 0, .int .u8 5, .int .i64 1, .int .i64 1, .int .u8 2, .int .i64 1, .int .i64 1, .int .u8 6, .int .i64 0, .int .i64 0, .int .u8 4, .int .i64 2, .int .i64 0] 54)) := by repeat first | (with_reducible exact hV5) | (with_reducible refine below_on ?_ _) | (with_reducible refine below_alloc ?_ _)
              clear hR   hV5
              generalize (((on ux).alloc (.cells #[.int .i64 0, .int .i64 0, .int .u8 3, .int .i64 0, .int .i64 0, .int .u8 1, .int .i64 0, .int .i64 0, .int .u8 2, .int .i64 0, .int .i64 (-1), .int .u8 2, .int .i64 1, .int .i64 0, .int .u8 0] 23)).alloc (.cells #[.int .u8 7, .int .i64 0, .int .i64 0, .int .u8 5, .int .i64 1, .int .i64 1, .int .u8 2, .int .i64 1, .int .i64 1, .int .u8 6, .int .i64 0, .int .i64 0, .int .u8 4, .int .i64 2, .int .i64 0] 54)) = V6 at *
              generalize (on ux).heap.size = B6 at *
              clear ux
              go_loopw [28] (fun iv wr => ∃ i : Int, iv = .int .i64 i ∧ (i = 0 ∨ i = 1 ∨ i = 2 ∨ i = 3 ∨ i = 4 ∨ i = 5) ∧ ∃ u : Later V6, wr = on u) (fun iv _ => (5 - intOf iv).toNat)
              case atStart => exact ⟨0, rfl, by omega, ⟨_, Below.refl _ _⟩, rfl⟩
              case round =>
                obtain ⟨i, rfl, hi, u0, rfl⟩ := hrel
                have hq : Below w.heap.size w (on u0) := below_on hV6 u0
                obtain rfl | rfl | rfl | rfl | rfl | rfl := hi
                · have fa0 : (on u0).cell? ⟨B6, 0, none⟩ = some (.int .i64 0) := held_c u0 B600
                  have fb0 : (on u0).cell? ⟨(B6 + 1), 0, none⟩ = some (.int .u8 7) := held_c u0 B610
                  have fa1 : (on u0).cell? ⟨B6, 1, none⟩ = some (.int .i64 0) := held_c u0 B601
                  have fb1 : (on u0).cell? ⟨(B6 + 1), 1, none⟩ = some (.int .i64 0) := held_c u0 B611
                  have fa2 : (on u0).cell? ⟨B6, 2, none⟩ = some (.int .u8 3) := held_c u0 B602
                  have fb2 : (on u0).cell? ⟨(B6 + 1), 2, none⟩ = some (.int .i64 0) := held_c u0 B612
                  have z1 : B6 < (on u0).heap.size := World.block_lt_of_cell? _ _ fa0
                  have z2 : B6 + 1 < (on u0).heap.size := World.block_lt_of_cell? _ _ fb0
                  clear B600 B601 B602 B603 B604 B605 B606 B607 B608 B609 B6010 B6011 B6012 B6013 B6014 B610 B611 B612 B613 B614 B615 B616 B617 B618 B619 B6110 B6111 B6112 B6113 B6114
                  go_wp2_with fail
                  have s5 : V6.heap.size ≤ (on u0).heap.size := on_size u0
                  have y0 : ¬ (on u0).heap.size = B6 := by omega
                  have y1 : ¬ (on u0).heap.size = B6 + 1 := by omega
                  have y2 : ¬ B6 = (on u0).heap.size := by omega
                  have y3 : ¬ B6 + 1 = (on u0).heap.size := by omega
                  go_region_held3 (fun w' => w'.cell? ⟨B6, 0, none⟩ = some (.int .i64 0) ∧ w'.cell? ⟨(B6 + 1), 0, none⟩ = some (.int .u8 7) ∧ w'.cell? ⟨B6, 1, none⟩ = some (.int .i64 0) ∧ w'.cell? ⟨(B6 + 1), 1, none⟩ = some (.int .i64 0) ∧ w'.cell? ⟨B6, 2, none⟩ = some (.int .u8 3) ∧ w'.cell? ⟨(B6 + 1), 2, none⟩ = some (.int .i64 0)) (((first | (simp [go_sem, *]; done) | fail))) ((first | (go_at_call 39; with_reducible refine (cell_any _ _ _ _).mono ?_; rintro e wx ⟨rfl, hx⟩; obtain ⟨ux, rfl⟩ := after hx; clear hx; have s0 : (on u0).heap.size ≤ (on ux).heap.size := (by have := on_size ux; (try simp at this); omega); have n0 : ¬ (on ux).heap.size = B6 := (by omega); have n1 : ¬ (on ux).heap.size = B6 + 1 := (by omega); have n2 : ¬ B6 = (on ux).heap.size := (by omega); have n3 : ¬ B6 + 1 = (on ux).heap.size := (by omega)) | (go_at_call 28; with_reducible refine (lv_b0 _ (hL' _ (by repeat first | (with_reducible exact hq) | (with_reducible refine below_drew ?_) | (with_reducible refine below_on ?_ _) | (with_reducible refine below_alloc ?_ _) | (with_reducible refine below_set ?_ (by simp; try omega) _)))).mono ?_; rintro e wx ⟨rfl, hx⟩; obtain ⟨ux, rfl⟩ := after hx; clear hx; have s0 : (on u0).heap.size ≤ (on ux).heap.size := (by have := on_size ux; (try simp at this); omega); have n0 : ¬ (on ux).heap.size = B6 := (by omega); have n1 : ¬ (on ux).heap.size = B6 + 1 := (by omega); have n2 : ¬ B6 = (on ux).heap.size := (by omega); have n3 : ¬ B6 + 1 = (on ux).heap.size := (by omega))))
                  all_goals go_wp2_with fail
                  all_goals refine region_later (by kernel_rfl) (by kernel_rfl) ?_
                  all_goals repeat (go_big_quiet_step (fail))
                  all_goals refine wpQuiet_nil ?_
                  all_goals rintro _ ⟨u9, rfl⟩
                  all_goals go_wp2_with fail
                  all_goals exact ⟨⟨0 + 1, rfl, by omega, after (by repeat first | (with_reducible exact Below.refl _ _) | (with_reducible refine below_on ?_ _) | (with_reducible refine below_drew ?_) | (with_reducible refine below_alloc ?_ _) | (with_reducible refine below_set ?_ (by simp; omega) _))⟩, by simp [intOf]⟩
                · have fa0 : (on u0).cell? ⟨B6, 3, none⟩ = some (.int .i64 0) := held_c u0 B603
                  have fb0 : (on u0).cell? ⟨(B6 + 1), 3, none⟩ = some (.int .u8 5) := held_c u0 B613
                  have fa1 : (on u0).cell? ⟨B6, 4, none⟩ = some (.int .i64 0) := held_c u0 B604
                  have fb1 : (on u0).cell? ⟨(B6 + 1), 4, none⟩ = some (.int .i64 1) := held_c u0 B614
                  have fa2 : (on u0).cell? ⟨B6, 5, none⟩ = some (.int .u8 1) := held_c u0 B605
                  have fb2 : (on u0).cell? ⟨(B6 + 1), 5, none⟩ = some (.int .i64 1) := held_c u0 B615
                  have z1 : B6 < (on u0).heap.size := World.block_lt_of_cell? _ _ fa0
                  have z2 : B6 + 1 < (on u0).heap.size := World.block_lt_of_cell? _ _ fb0
                  clear B600 B601 B602 B603 B604 B605 B606 B607 B608 B609 B6010 B6011 B6012 B6013 B6014 B610 B611 B612 B613 B614 B615 B616 B617 B618 B619 B6110 B6111 B6112 B6113 B6114
                  go_wp2_with fail
                  have s5 : V6.heap.size ≤ (on u0).heap.size := on_size u0
                  have y0 : ¬ (on u0).heap.size = B6 := by omega
                  have y1 : ¬ (on u0).heap.size = B6 + 1 := by omega
                  have y2 : ¬ B6 = (on u0).heap.size := by omega
                  have y3 : ¬ B6 + 1 = (on u0).heap.size := by omega
                  go_region_held3 (fun w' => w'.cell? ⟨B6, 3, none⟩ = some (.int .i64 0) ∧ w'.cell? ⟨(B6 + 1), 3, none⟩ = some (.int .u8 5) ∧ w'.cell? ⟨B6, 4, none⟩ = some (.int .i64 0) ∧ w'.cell? ⟨(B6 + 1), 4, none⟩ = some (.int .i64 1) ∧ w'.cell? ⟨B6, 5, none⟩ = some (.int .u8 1) ∧ w'.cell? ⟨(B6 + 1), 5, none⟩ = some (.int .i64 1)) (((first | (simp [go_sem, *]; done) | fail))) ((first | (go_at_call 39; with_reducible refine (cell_any _ _ _ _).mono ?_; rintro e wx ⟨rfl, hx⟩; obtain ⟨ux, rfl⟩ := after hx; clear hx; have s0 : (on u0).heap.size ≤ (on ux).heap.size := (by have := on_size ux; (try simp at this); omega); have n0 : ¬ (on ux).heap.size = B6 := (by omega); have n1 : ¬ (on ux).heap.size = B6 + 1 := (by omega); have n2 : ¬ B6 = (on ux).heap.size := (by omega); have n3 : ¬ B6 + 1 = (on ux).heap.size := (by omega)) | (go_at_call 28; with_reducible refine (lv_b1 _ (hL' _ (by repeat first | (with_reducible exact hq) | (with_reducible refine below_drew ?_) | (with_reducible refine below_on ?_ _) | (with_reducible refine below_alloc ?_ _) | (with_reducible refine below_set ?_ (by simp; try omega) _)))).mono ?_; rintro e wx ⟨rfl, hx⟩; obtain ⟨ux, rfl⟩ := after hx; clear hx; have s0 : (on u0).heap.size ≤ (on ux).heap.size := (by have := on_size ux; (try simp at this); omega); have n0 : ¬ (on ux).heap.size = B6 := (by omega); have n1 : ¬ (on ux).heap.size = B6 + 1 := (by omega); have n2 : ¬ B6 = (on ux).heap.size := (by omega); have n3 : ¬ B6 + 1 = (on ux).heap.size := (by omega))))
                  all_goals go_wp2_with fail
                  all_goals refine region_later (by kernel_rfl) (by kernel_rfl) ?_
                  all_goals repeat (go_big_quiet_step (fail))
                  all_goals refine wpQuiet_nil ?_
                  all_goals rintro _ ⟨u9, rfl⟩
                  all_goals go_wp2_with fail
                  all_goals exact ⟨⟨1 + 1, rfl, by omega, after (by repeat first | (with_reducible exact Below.refl _ _) | (with_reducible refine below_on ?_ _) | (with_reducible refine below_drew ?_) | (with_reducible refine below_alloc ?_ _) | (with_reducible refine below_set ?_ (by simp; omega) _))⟩, by simp [intOf]⟩
                · have fa0 : (on u0).cell? ⟨B6, 6, none⟩ = some (.int .i64 0) := held_c u0 B606
                  have fb0 : (on u0).cell? ⟨(B6 + 1), 6, none⟩ = some (.int .u8 2) := held_c u0 B616
                  have fa1 : (on u0).cell? ⟨B6, 7, none⟩ = some (.int .i64 0) := held_c u0 B607
                  have fb1 : (on u0).cell? ⟨(B6 + 1), 7, none⟩ = some (.int .i64 1) := held_c u0 B617
                  have fa2 : (on u0).cell? ⟨B6, 8, none⟩ = some (.int .u8 2) := held_c u0 B608
                  have fb2 : (on u0).cell? ⟨(B6 + 1), 8, none⟩ = some (.int .i64 1) := held_c u0 B618
                  have z1 : B6 < (on u0).heap.size := World.block_lt_of_cell? _ _ fa0
                  have z2 : B6 + 1 < (on u0).heap.size := World.block_lt_of_cell? _ _ fb0
                  clear B600 B601 B602 B603 B604 B605 B606 B607 B608 B609 B6010 B6011 B6012 B6013 B6014 B610 B611 B612 B613 B614 B615 B616 B617 B618 B619 B6110 B6111 B6112 B6113 B6114
                  go_wp2_with fail
                  have s5 : V6.heap.size ≤ (on u0).heap.size := on_size u0
                  have y0 : ¬ (on u0).heap.size = B6 := by omega
                  have y1 : ¬ (on u0).heap.size = B6 + 1 := by omega
                  have y2 : ¬ B6 = (on u0).heap.size := by omega
                  have y3 : ¬ B6 + 1 = (on u0).heap.size := by omega
                  go_region_held3 (fun w' => w'.cell? ⟨B6, 6, none⟩ = some (.int .i64 0) ∧ w'.cell? ⟨(B6 + 1), 6, none⟩ = some (.int .u8 2) ∧ w'.cell? ⟨B6, 7, none⟩ = some (.int .i64 0) ∧ w'.cell? ⟨(B6 + 1), 7, none⟩ = some (.int .i64 1) ∧ w'.cell? ⟨B6, 8, none⟩ = some (.int .u8 2) ∧ w'.cell? ⟨(B6 + 1), 8, none⟩ = some (.int .i64 1)) (((first | (simp [go_sem, *]; done) | fail))) ((first | (go_at_call 39; with_reducible refine (cell_any _ _ _ _).mono ?_; rintro e wx ⟨rfl, hx⟩; obtain ⟨ux, rfl⟩ := after hx; clear hx; have s0 : (on u0).heap.size ≤ (on ux).heap.size := (by have := on_size ux; (try simp at this); omega); have n0 : ¬ (on ux).heap.size = B6 := (by omega); have n1 : ¬ (on ux).heap.size = B6 + 1 := (by omega); have n2 : ¬ B6 = (on ux).heap.size := (by omega); have n3 : ¬ B6 + 1 = (on ux).heap.size := (by omega)) | (go_at_call 28; with_reducible refine (lv_b2 _ (hL' _ (by repeat first | (with_reducible exact hq) | (with_reducible refine below_drew ?_) | (with_reducible refine below_on ?_ _) | (with_reducible refine below_alloc ?_ _) | (with_reducible refine below_set ?_ (by simp; try omega) _)))).mono ?_; rintro e wx ⟨rfl, hx⟩; obtain ⟨ux, rfl⟩ := after hx; clear hx; have s0 : (on u0).heap.size ≤ (on ux).heap.size := (by have := on_size ux; (try simp at this); omega); have n0 : ¬ (on ux).heap.size = B6 := (by omega); have n1 : ¬ (on ux).heap.size = B6 + 1 := (by omega); have n2 : ¬ B6 = (on ux).heap.size := (by omega); have n3 : ¬ B6 + 1 = (on ux).heap.size := (by omega))))
                  all_goals go_wp2_with fail
                  all_goals refine region_later (by kernel_rfl) (by kernel_rfl) ?_
                  all_goals repeat (go_big_quiet_step (fail))
                  all_goals refine wpQuiet_nil ?_
                  all_goals rintro _ ⟨u9, rfl⟩
                  all_goals go_wp2_with fail
                  all_goals exact ⟨⟨2 + 1, rfl, by omega, after (by repeat first | (with_reducible exact Below.refl _ _) | (with_reducible refine below_on ?_ _) | (with_reducible refine below_drew ?_) | (with_reducible refine below_alloc ?_ _) | (with_reducible refine below_set ?_ (by simp; omega) _))⟩, by simp [intOf]⟩
                · have fa0 : (on u0).cell? ⟨B6, 9, none⟩ = some (.int .i64 0) := held_c u0 B609
                  have fb0 : (on u0).cell? ⟨(B6 + 1), 9, none⟩ = some (.int .u8 6) := held_c u0 B619
                  have fa1 : (on u0).cell? ⟨B6, 10, none⟩ = some (.int .i64 (-1)) := held_c u0 B6010
                  have fb1 : (on u0).cell? ⟨(B6 + 1), 10, none⟩ = some (.int .i64 0) := held_c u0 B6110
                  have fa2 : (on u0).cell? ⟨B6, 11, none⟩ = some (.int .u8 2) := held_c u0 B6011
                  have fb2 : (on u0).cell? ⟨(B6 + 1), 11, none⟩ = some (.int .i64 0) := held_c u0 B6111
                  have z1 : B6 < (on u0).heap.size := World.block_lt_of_cell? _ _ fa0
                  have z2 : B6 + 1 < (on u0).heap.size := World.block_lt_of_cell? _ _ fb0
                  clear B600 B601 B602 B603 B604 B605 B606 B607 B608 B609 B6010 B6011 B6012 B6013 B6014 B610 B611 B612 B613 B614 B615 B616 B617 B618 B619 B6110 B6111 B6112 B6113 B6114
                  go_wp2_with fail
                  have s5 : V6.heap.size ≤ (on u0).heap.size := on_size u0
                  have y0 : ¬ (on u0).heap.size = B6 := by omega
                  have y1 : ¬ (on u0).heap.size = B6 + 1 := by omega
                  have y2 : ¬ B6 = (on u0).heap.size := by omega
                  have y3 : ¬ B6 + 1 = (on u0).heap.size := by omega
                  go_region_held3 (fun w' => w'.cell? ⟨B6, 9, none⟩ = some (.int .i64 0) ∧ w'.cell? ⟨(B6 + 1), 9, none⟩ = some (.int .u8 6) ∧ w'.cell? ⟨B6, 10, none⟩ = some (.int .i64 (-1)) ∧ w'.cell? ⟨(B6 + 1), 10, none⟩ = some (.int .i64 0) ∧ w'.cell? ⟨B6, 11, none⟩ = some (.int .u8 2) ∧ w'.cell? ⟨(B6 + 1), 11, none⟩ = some (.int .i64 0)) (((first | (simp [go_sem, *]; done) | fail))) ((first | (go_at_call 39; with_reducible refine (cell_any _ _ _ _).mono ?_; rintro e wx ⟨rfl, hx⟩; obtain ⟨ux, rfl⟩ := after hx; clear hx; have s0 : (on u0).heap.size ≤ (on ux).heap.size := (by have := on_size ux; (try simp at this); omega); have n0 : ¬ (on ux).heap.size = B6 := (by omega); have n1 : ¬ (on ux).heap.size = B6 + 1 := (by omega); have n2 : ¬ B6 = (on ux).heap.size := (by omega); have n3 : ¬ B6 + 1 = (on ux).heap.size := (by omega)) | (go_at_call 28; with_reducible refine (lv_b3 _ (hL' _ (by repeat first | (with_reducible exact hq) | (with_reducible refine below_drew ?_) | (with_reducible refine below_on ?_ _) | (with_reducible refine below_alloc ?_ _) | (with_reducible refine below_set ?_ (by simp; try omega) _)))).mono ?_; rintro e wx ⟨rfl, hx⟩; obtain ⟨ux, rfl⟩ := after hx; clear hx; have s0 : (on u0).heap.size ≤ (on ux).heap.size := (by have := on_size ux; (try simp at this); omega); have n0 : ¬ (on ux).heap.size = B6 := (by omega); have n1 : ¬ (on ux).heap.size = B6 + 1 := (by omega); have n2 : ¬ B6 = (on ux).heap.size := (by omega); have n3 : ¬ B6 + 1 = (on ux).heap.size := (by omega))))
                  all_goals go_wp2_with fail
                  all_goals refine region_later (by kernel_rfl) (by kernel_rfl) ?_
                  all_goals repeat (go_big_quiet_step (fail))
                  all_goals refine wpQuiet_nil ?_
                  all_goals rintro _ ⟨u9, rfl⟩
                  all_goals go_wp2_with fail
                  all_goals exact ⟨⟨3 + 1, rfl, by omega, after (by repeat first | (with_reducible exact Below.refl _ _) | (with_reducible refine below_on ?_ _) | (with_reducible refine below_drew ?_) | (with_reducible refine below_alloc ?_ _) | (with_reducible refine below_set ?_ (by simp; omega) _))⟩, by simp [intOf]⟩
                · have fa0 : (on u0).cell? ⟨B6, 12, none⟩ = some (.int .i64 1) := held_c u0 B6012
                  have fb0 : (on u0).cell? ⟨(B6 + 1), 12, none⟩ = some (.int .u8 4) := held_c u0 B6112
                  have fa1 : (on u0).cell? ⟨B6, 13, none⟩ = some (.int .i64 0) := held_c u0 B6013
                  have fb1 : (on u0).cell? ⟨(B6 + 1), 13, none⟩ = some (.int .i64 2) := held_c u0 B6113
                  have fa2 : (on u0).cell? ⟨B6, 14, none⟩ = some (.int .u8 0) := held_c u0 B6014
                  have fb2 : (on u0).cell? ⟨(B6 + 1), 14, none⟩ = some (.int .i64 0) := held_c u0 B6114
                  have z1 : B6 < (on u0).heap.size := World.block_lt_of_cell? _ _ fa0
                  have z2 : B6 + 1 < (on u0).heap.size := World.block_lt_of_cell? _ _ fb0
                  clear B600 B601 B602 B603 B604 B605 B606 B607 B608 B609 B6010 B6011 B6012 B6013 B6014 B610 B611 B612 B613 B614 B615 B616 B617 B618 B619 B6110 B6111 B6112 B6113 B6114
                  go_wp2_with fail
                  have s5 : V6.heap.size ≤ (on u0).heap.size := on_size u0
                  have y0 : ¬ (on u0).heap.size = B6 := by omega
                  have y1 : ¬ (on u0).heap.size = B6 + 1 := by omega
                  have y2 : ¬ B6 = (on u0).heap.size := by omega
                  have y3 : ¬ B6 + 1 = (on u0).heap.size := by omega
                  go_region_held3 (fun w' => w'.cell? ⟨B6, 12, none⟩ = some (.int .i64 1) ∧ w'.cell? ⟨(B6 + 1), 12, none⟩ = some (.int .u8 4) ∧ w'.cell? ⟨B6, 13, none⟩ = some (.int .i64 0) ∧ w'.cell? ⟨(B6 + 1), 13, none⟩ = some (.int .i64 2) ∧ w'.cell? ⟨B6, 14, none⟩ = some (.int .u8 0) ∧ w'.cell? ⟨(B6 + 1), 14, none⟩ = some (.int .i64 0)) (((first | (simp [go_sem, *]; done) | fail))) ((first | (go_at_call 39; with_reducible refine (cell_any _ _ _ _).mono ?_; rintro e wx ⟨rfl, hx⟩; obtain ⟨ux, rfl⟩ := after hx; clear hx; have s0 : (on u0).heap.size ≤ (on ux).heap.size := (by have := on_size ux; (try simp at this); omega); have n0 : ¬ (on ux).heap.size = B6 := (by omega); have n1 : ¬ (on ux).heap.size = B6 + 1 := (by omega); have n2 : ¬ B6 = (on ux).heap.size := (by omega); have n3 : ¬ B6 + 1 = (on ux).heap.size := (by omega)) | (go_at_call 28; with_reducible refine (lv_b4 _ (hL' _ (by repeat first | (with_reducible exact hq) | (with_reducible refine below_drew ?_) | (with_reducible refine below_on ?_ _) | (with_reducible refine below_alloc ?_ _) | (with_reducible refine below_set ?_ (by simp; try omega) _)))).mono ?_; rintro e wx ⟨rfl, hx⟩; obtain ⟨ux, rfl⟩ := after hx; clear hx; have s0 : (on u0).heap.size ≤ (on ux).heap.size := (by have := on_size ux; (try simp at this); omega); have n0 : ¬ (on ux).heap.size = B6 := (by omega); have n1 : ¬ (on ux).heap.size = B6 + 1 := (by omega); have n2 : ¬ B6 = (on ux).heap.size := (by omega); have n3 : ¬ B6 + 1 = (on ux).heap.size := (by omega))))
                  all_goals go_wp2_with fail
                  all_goals refine region_later (by kernel_rfl) (by kernel_rfl) ?_
                  all_goals repeat (go_big_quiet_step (fail))
                  all_goals refine wpQuiet_nil ?_
                  all_goals rintro _ ⟨u9, rfl⟩
                  all_goals go_wp2_with fail
                  all_goals exact ⟨⟨4 + 1, rfl, by omega, after (by repeat first | (with_reducible exact Below.refl _ _) | (with_reducible refine below_on ?_ _) | (with_reducible refine below_drew ?_) | (with_reducible refine below_alloc ?_ _) | (with_reducible refine below_set ?_ (by simp; omega) _))⟩, by simp [intOf]⟩
                · go_wp2_with (first | (go_at_call 39; with_reducible refine (cell_any _ _ _ _).mono ?_; rintro e wx ⟨rfl, hx⟩; obtain ⟨uv, rfl⟩ := after hx; clear hx) | (go_at_call 11; with_reducible refine (lv_g _ (hL' _ (by repeat first | (with_reducible exact hq) | (with_reducible refine below_drew ?_) | (with_reducible refine below_on ?_ _) | (with_reducible refine below_alloc ?_ _) | (with_reducible refine below_set ?_ (by simp; try omega) _)))).mono ?_; rintro e wx ⟨rfl, hx⟩; obtain ⟨ux, rfl⟩ := after hx; clear hx) | fail)
                  go_ret
                  exact ⟨rfl, (by repeat first | (with_reducible exact hq) | (with_reducible refine below_drew ?_) | (with_reducible refine below_on ?_ _) | (with_reducible refine below_alloc ?_ _) | (with_reducible refine below_set ?_ (by simp; try omega) _))⟩

end Go.Proofs.YtgkiliijefkcaaaDoor
