/-
  Says: a piece of PatternsSame.
-/
import Derived.Test.YtdnekeegpenioaaDoorFr2
import Derived.Deep.RegionHeld3
import Derived.RowKit3
import Derived.BigQuiet
import Derived.Deep.QuietTactic
import Derived.BigRegion
set_option linter.unusedVariables false
set_option linter.unusedSimpArgs false
namespace Go.Proofs.YtdnekeegpenioaaDoor
open Go Go.RowKit

attribute [local go_sem] World.cell?_alloc_some frozen?_alloc_cells fz0 fz1 fz2 fz3 fz4 fz5

section
variable {P : Program} {l : List Oper} {Q : Exit → Act → World → Prop} {md : Region.Mode} {S : World → Prop}
theorem get_drop {α : Type} {l r : List α} {i : Nat} {o : α} (h : l.drop i = o :: r) : l.toArray[i]? = some o := by
  have : (l.drop i)[0]? = some o := by rw [h]; rfl
  simpa using this
/-- Taken first, the operation written out. -/
theorem takeL {i : Nat} {oi : Oper} {r : List Oper} {v : Value} {fuel : Nat} {listed : Array Bool} {a : Act} {w : World} (hi : l.drop i = oi :: r)
    (hs : Region.noSelect l.toArray = true) (hf : Region.free md l.toArray listed i = true) (hr : (Region.ready md l.toArray listed).contains i = true)
    (hQ : ∀ c a w, Q (.panic c) (a.put oi.dst v) w → Q (.panic c) a w) (hy : YieldsIf P l.toArray S oi v a) (hS : S w)
    (h : wpAnyH P md l.toArray Q S fuel (listed.setIfInBounds i true) (a.put oi.dst v) w) : wpAnyH P md l.toArray Q S (fuel + 1) listed a w :=
  wpAnyH_take (get_drop hi) hs hf hr hQ hy hS h
/-- The only one that may come up. -/
theorem consL {i : Nat} {o : Oper} {r : List Oper} {fuel : Nat} {listed : Array Bool} {a : Act} {w : World} (hi : l.drop i = o :: r)
    (h : ∀ K' : Act → World → Prop, Shut (∀ a w, S w → (S w → wpAnyH P md l.toArray Q S fuel (listed.setIfInBounds i true) a w) → K' a w) → if Region.wanted o (yielded l.toArray a.tmps) = true then Oper.wp P o a w K' Q else K' (a.put o.dst undef) w) : AllReadyH P md l.toArray Q S fuel listed a w [i] :=
  AllReadyH.cons (get_drop hi) h AllReadyH.nil
end

set_option maxRecDepth 100000 in
set_option maxHeartbeats 40000000 in
theorem fr1 (xW xH yW yH h0 h1 : Int) (kx ky : Nat → Int) (px py : Option Addr) (nx cx ny cy : Nat) (w : World) (hL : Lay w) (hbx : Byts w px nx kx) (hby : Byts w py ny ky) (x1 : 0 ≤ xW) (x2 : 0 ≤ xH) (y1 : 0 ≤ yW) (y2 : 0 ≤ yH) (hnx : (nx : Int) ≤ 9223372036854775807) (hny : (ny : Int) ≤ 9223372036854775807) (hkx : ∀ i, i < nx → 0 ≤ kx i ∧ kx i ≤ 255) (a : Act) (W0 : World) (hS : S3 w a) (hIn : In xW xH yW yH h0 h1 px py nx cx ny cy w W0) :
    (sq 1 (bodyOf Tryd.f6)).wp Tryd.prog (fun e a' W' => e = .normal ∧ P1 xW xH yW yH h0 h1 kx ky px py nx cx ny cy w a' W') a W0 := by
  have hin : ∀ W, Below W0.heap.size W0 W → In xW xH yW yH h0 h1 px py nx cx ny cy w W := fun W hb => by
    obtain ⟨i1, i2, i3, i4, i5, i6, i7, i8, i9, i10⟩ := hIn
    exact ⟨cRy hb i1, cRy hb i2, cRy hb i3, cRy hb i4, cRy hb i5, cRy hb i6, cRy hb i7, cRy hb i8, i9.trans (hb.mono i9.size), Nat.le_trans i10 hb.size⟩
  obtain ⟨p0, p1, p2, p3, p4, p5, p6, p7, hB0, hsz0⟩ := hIn
  obtain ⟨hsz, hdf, s3, s4, s5, s6⟩ := hS
  obtain ⟨tm, dfs⟩ := a
  simp only at hsz hdf
  subst hdf
  obtain ⟨g_, rfl⟩ := lit191 tm hsz
  replace s3 : g_ 3 = .pointer (some ⟨w.heap.size, 0, none⟩) := s3
  replace s4 : g_ 4 = .pointer (some ⟨w.heap.size + 1, 0, none⟩) := s4
  replace s5 : g_ 5 = .pointer (some ⟨w.heap.size + 1 + 1, 0, none⟩) := s5
  replace s6 : g_ 6 = .bool false := s6
  clear hsz
  have hnA : pN (pW xW) (pW xH) nx kx ≤ 96 := pN_le (by unfold pW; omega) (by unfold pW; omega)
  have hnB : pN (pW yW) (pW yH) ny ky ≤ 96 := pN_le (by unfold pW; omega) (by unfold pW; omega)
  have hkA : ∀ j, j < pN (pW xW) (pW xH) nx kx → 1 ≤ pK (pW xW) (pW xH) nx kx j ∧ pK (pW xW) (pW xH) nx kx j ≤ 3 := fun j hj => pK_range hkx j hj
  have hsafe : ∀ W, Below W0.heap.size W0 W → W.cell? ⟨w.heap.size, 0, none⟩ = some (.int .u8 xW) ∧ W.cell? ⟨w.heap.size, 1, none⟩ = some (.int .u8 xH) ∧ W.cell? ⟨w.heap.size, 2, none⟩ = some (.slice px nx cx) ∧ W.cell? ⟨w.heap.size + 1, 0, none⟩ = some (.int .u8 yW) ∧ W.cell? ⟨w.heap.size + 1, 1, none⟩ = some (.int .u8 yH) ∧ W.cell? ⟨w.heap.size + 1, 2, none⟩ = some (.slice py ny cy) := fun W hb => ⟨cRy hb p0, cRy hb p1, cRy hb p2, cRy hb p3, cRy hb p4, cRy hb p5⟩
  simp only [sq, bodyOf, Tryd.f6]
  simp only [s3, s4, s5, s6]
  clear hkx
  refine wp_region_held_drew (S := fun w' => w'.cell? ⟨w.heap.size, 0, none⟩ = some (.int .u8 xW) ∧ w'.cell? ⟨w.heap.size, 1, none⟩ = some (.int .u8 xH) ∧ w'.cell? ⟨w.heap.size, 2, none⟩ = some (.slice px nx cx) ∧ w'.cell? ⟨w.heap.size + 1, 0, none⟩ = some (.int .u8 yW) ∧ w'.cell? ⟨w.heap.size + 1, 1, none⟩ = some (.int .u8 yH) ∧ w'.cell? ⟨w.heap.size + 1, 2, none⟩ = some (.slice py ny cy)) (by kernel_rfl) ?_ (fun hHeld => ?_)
  · exact hsafe _ (below_drew (Below.refl _ _))
  refine takeL (i := 0) (v := ?_) rfl (by kernel_rfl) (by kernel_rfl) (by kernel_rfl) (fun _ _ _ h => absurd h.1 (fun q => by cases q)) (Or.inl ⟨by rfl, ?_⟩) (by assumption) ?_
  rotate_left
  · (intro w hSw; (try dsimp only at hSw); go_simp; try (with_reducible rfl))
  try simp only [Act.put, List.setIfInBounds_toArray, List.set_cons_zero, List.set_cons_succ]
  refine takeL (i := 2) (v := ?_) rfl (by kernel_rfl) (by kernel_rfl) (by kernel_rfl) (fun _ _ _ h => absurd h.1 (fun q => by cases q)) (Or.inl ⟨by rfl, ?_⟩) (by assumption) ?_
  rotate_left
  · (intro w hSw; (try dsimp only at hSw); go_simp; try (with_reducible rfl))
  try simp only [Act.put, List.setIfInBounds_toArray, List.set_cons_zero, List.set_cons_succ]
  refine wpAnyH_ready (rs := [1, 4, 5]) (by kernel_rfl) (by simp) ?_
  refine AllReadyH.cons (get_drop rfl) (fun K hK => ?_) (AllReadyH.cons (get_drop rfl) (fun K hK => ?_) (AllReadyH.cons (get_drop rfl) (fun K hK => ?_) AllReadyH.nil))
  · skip
    go_simp
    (first | (go_at_call 17; (with_reducible refine (pof_any xW xH kx px nx cx _ (lay_below hL (by repeat first | (with_reducible exact Below.refl _ _) | (with_reducible exact hB0) | (with_reducible refine below_drew ?_) | (with_reducible refine below_on ?_ _) | (with_reducible refine below_alloc ?_ _) | (with_reducible refine below_set ?_ (by simp; try omega) _))) (Byts.below hbx (by repeat first | (with_reducible exact Below.refl _ _) | (with_reducible exact hB0) | (with_reducible refine below_drew ?_) | (with_reducible refine below_on ?_ _) | (with_reducible refine below_alloc ?_ _) | (with_reducible refine below_set ?_ (by simp; try omega) _))) (by omega) (by omega) (by omega)).mono ?_); rintro ea wa ⟨hpa, hxa⟩; obtain ⟨pa, ca, rfl, hca, hfa⟩ := hpa; obtain ⟨ua, rfl⟩ := after hxa; clear hxa; have sa := on_size ua; (try simp at sa); (try have na1 : ¬ W0.heap.size = (on ua).heap.size := by omega); (try have na2 : ¬ (on ua).heap.size = W0.heap.size := by omega); have fa : ∀ ad, pa = some ad → _ ∧ ad.block < (on ua).heap.size := fun ad h => ⟨(hfa ad h).1, by obtain ⟨_, _, _, cs, hh⟩ := hfa ad h; exact hz_lt hh⟩; (try simp at fa)))
    refine hK.out _ _ ?_ (fun hHeld => ?_)
    · ((try dsimp only); (exact hsafe _ (by repeat first | (with_reducible exact Below.refl _ _) | (with_reducible refine below_drew ?_) | (with_reducible refine below_on ?_ _) | (with_reducible refine below_alloc ?_ _) | (with_reducible refine below_set ?_ (by simp; try omega) _))))
    clear hK K
    try simp only [Act.put, List.setIfInBounds_toArray, List.set_cons_zero, List.set_cons_succ]
    refine wpAnyH_ready (rs := [3, 4, 5]) (by kernel_rfl) (by simp) ?_
    refine AllReadyH.cons (get_drop rfl) (fun K hK => ?_) (AllReadyH.cons (get_drop rfl) (fun K hK => ?_) (AllReadyH.cons (get_drop rfl) (fun K hK => ?_) AllReadyH.nil))
    · skip
      go_simp
      (first | (go_at_call 17; (with_reducible refine (pof_any yW yH ky py ny cy _ (lay_below hL (by repeat first | (with_reducible exact Below.refl _ _) | (with_reducible exact hB0) | (with_reducible refine below_drew ?_) | (with_reducible refine below_on ?_ _) | (with_reducible refine below_alloc ?_ _) | (with_reducible refine below_set ?_ (by simp; try omega) _))) (Byts.below hby (by repeat first | (with_reducible exact Below.refl _ _) | (with_reducible exact hB0) | (with_reducible refine below_drew ?_) | (with_reducible refine below_on ?_ _) | (with_reducible refine below_alloc ?_ _) | (with_reducible refine below_set ?_ (by simp; try omega) _))) (by omega) (by omega) (by omega)).mono ?_); rintro eb wb ⟨hpb, hxb⟩; obtain ⟨pb, cb, rfl, hcb, hfb⟩ := hpb; obtain ⟨ub, rfl⟩ := after hxb; clear hxb; have sb := on_size ub; (try simp at sb); (try have nb1 : ¬ W0.heap.size = (on ub).heap.size := by omega); (try have nb2 : ¬ (on ub).heap.size = W0.heap.size := by omega); (try have nc1 : ¬ (on ua).heap.size = (on ub).heap.size := by omega); (try have nc2 : ¬ (on ub).heap.size = (on ua).heap.size := by omega); have fb : ∀ ad, pb = some ad → _ ∧ ad.block < (on ub).heap.size := fun ad h => ⟨(hfb ad h).1, by obtain ⟨_, _, _, cs, hh⟩ := hfb ad h; exact hz_lt hh⟩; (try simp at fb)))
      refine hK.out _ _ ?_ (fun hHeld => ?_)
      · ((try dsimp only); (exact hsafe _ (by repeat first | (with_reducible exact Below.refl _ _) | (with_reducible refine below_drew ?_) | (with_reducible refine below_on ?_ _) | (with_reducible refine below_alloc ?_ _) | (with_reducible refine below_set ?_ (by simp; try omega) _))))
      clear hK K
      try simp only [Act.put, List.setIfInBounds_toArray, List.set_cons_zero, List.set_cons_succ]
      refine wpAnyH_ready (rs := [4, 5]) (by kernel_rfl) (by simp) ?_
      refine AllReadyH.cons (get_drop rfl) (fun K hK => ?_) (AllReadyH.cons (get_drop rfl) (fun K hK => ?_) AllReadyH.nil)
      · skip
        go_simp
        refine hK.out _ _ ?_ (fun hHeld => ?_)
        · ((try dsimp only); (exact hsafe _ (by repeat first | (with_reducible exact Below.refl _ _) | (with_reducible refine below_drew ?_) | (with_reducible refine below_on ?_ _) | (with_reducible refine below_alloc ?_ _) | (with_reducible refine below_set ?_ (by simp; try omega) _))))
        clear hK K
        try simp only [Act.put, List.setIfInBounds_toArray, List.set_cons_zero, List.set_cons_succ]
        refine wpAnyH_ready (rs := [5]) (by kernel_rfl) (by simp) ?_
        refine AllReadyH.cons (get_drop rfl) (fun K hK => ?_) AllReadyH.nil
        go_simp
        refine hK.out _ _ ?_ (fun hHeld => ?_)
        · ((try dsimp only); (exact hsafe _ (by repeat first | (with_reducible exact Below.refl _ _) | (with_reducible refine below_drew ?_) | (with_reducible refine below_on ?_ _) | (with_reducible refine below_alloc ?_ _) | (with_reducible refine below_set ?_ (by simp; try omega) _))))
        clear hK K
        try simp only [Act.put, List.setIfInBounds_toArray, List.set_cons_zero, List.set_cons_succ]
        refine wpAnyH_ready (rs := [6]) (by kernel_rfl) (by simp) ?_
        refine AllReadyH.cons (get_drop rfl) (fun K hK => ?_) AllReadyH.nil
        go_simp
        refine hK.out _ _ ?_ (fun hHeld => ?_)
        · ((try dsimp only); (exact hsafe _ (by repeat first | (with_reducible exact Below.refl _ _) | (with_reducible refine below_drew ?_) | (with_reducible refine below_on ?_ _) | (with_reducible refine below_alloc ?_ _) | (with_reducible refine below_set ?_ (by simp; try omega) _))))
        clear hK K
        try simp only [Act.put, List.setIfInBounds_toArray, List.set_cons_zero, List.set_cons_succ]
        refine wpAnyH_ready (rs := [7]) (by kernel_rfl) (by simp) ?_
        refine AllReadyH.cons (get_drop rfl) (fun K hK => ?_) AllReadyH.nil
        go_simp
        refine hK.out _ _ ?_ (fun hHeld => ?_)
        · ((try dsimp only); (exact hsafe _ (by repeat first | (with_reducible exact Below.refl _ _) | (with_reducible refine below_drew ?_) | (with_reducible refine below_on ?_ _) | (with_reducible refine below_alloc ?_ _) | (with_reducible refine below_set ?_ (by simp; try omega) _))))
        clear hK K
        try simp only [Act.put, List.setIfInBounds_toArray, List.set_cons_zero, List.set_cons_succ]
        refine wpAnyH_done (by kernel_rfl) ?_ _
        go_wp2_with fail
        exact ⟨_, _, pa, pb, ca, cb, ⟨rfl, rfl, rfl, rfl, rfl⟩, ⟨(by repeat first | (with_reducible refine hz_new ?_; first | (simp; done) | fail) | (with_reducible refine hz_drew ?_) | (with_reducible refine hz_on _ ?_) | (with_reducible refine hz_alloc ?_) | (with_reducible refine (Below.heap_setCell _ _ _ _ (by first | omega | (simp; done) | (simp; omega))).trans ?_) | (refine held_set3 (x0 := .int .i64 0) (x1 := .int .i64 0) (x2 := .slice none 0 0) ?_)), (by repeat first | (with_reducible refine hz_new ?_; first | (simp; done) | fail) | (with_reducible refine hz_drew ?_) | (with_reducible refine hz_on _ ?_) | (with_reducible refine hz_alloc ?_) | (with_reducible refine (Below.heap_setCell _ _ _ _ (by first | omega | (simp; done) | (simp; omega))).trans ?_) | (refine held_set3 (x0 := .int .i64 0) (x1 := .int .i64 0) (x2 := .slice none 0 0) ?_)), (by repeat first | (with_reducible exact hca) | (with_reducible refine Crs.set ?_ (fun ad h => by have := fa ad h; first | omega | (simp; omega)) _) | (with_reducible refine Crs.al ?_ _) | (with_reducible refine Crs.onl _ ?_) | (with_reducible refine Crs.dr ?_)), (by repeat first | (with_reducible exact hcb) | (with_reducible refine Crs.set ?_ (fun ad h => by have := fb ad h; first | omega | (simp; omega)) _) | (with_reducible refine Crs.al ?_ _) | (with_reducible refine Crs.onl _ ?_) | (with_reducible refine Crs.dr ?_)), (by repeat first | (with_reducible exact Below.refl _ _) | (with_reducible exact hB0) | (with_reducible refine below_drew ?_) | (with_reducible refine below_on ?_ _) | (with_reducible refine below_alloc ?_ _) | (with_reducible refine below_set ?_ (by simp; try omega) _)), lay_below hL (by repeat first | (with_reducible exact Below.refl _ _) | (with_reducible exact hB0) | (with_reducible refine below_drew ?_) | (with_reducible refine below_on ?_ _) | (with_reducible refine below_alloc ?_ _) | (with_reducible refine below_set ?_ (by simp; try omega) _)), hnA, hnB, hkA⟩, hin _ (by repeat first | (with_reducible exact Below.refl _ _) | (with_reducible refine below_drew ?_) | (with_reducible refine below_on ?_ _) | (with_reducible refine below_alloc ?_ _) | (with_reducible refine below_set ?_ (by simp; try omega) _)), rfl, rfl, by first | omega | (simp; done) | (simp; omega), by first | omega | (simp; done) | (simp; omega), (fun ad h => by have := fa ad h; exact ⟨by first | omega | (simp; omega), by first | omega | (simp; omega)⟩)⟩
      · skip
        go_simp
        refine hK.out _ _ ?_ (fun hHeld => ?_)
        · ((try dsimp only); (exact hsafe _ (by repeat first | (with_reducible exact Below.refl _ _) | (with_reducible refine below_drew ?_) | (with_reducible refine below_on ?_ _) | (with_reducible refine below_alloc ?_ _) | (with_reducible refine below_set ?_ (by simp; try omega) _))))
        clear hK K
        try simp only [Act.put, List.setIfInBounds_toArray, List.set_cons_zero, List.set_cons_succ]
        refine wpAnyH_ready (rs := [4]) (by kernel_rfl) (by simp) ?_
        refine AllReadyH.cons (get_drop rfl) (fun K hK => ?_) AllReadyH.nil
        go_simp
        refine hK.out _ _ ?_ (fun hHeld => ?_)
        · ((try dsimp only); (exact hsafe _ (by repeat first | (with_reducible exact Below.refl _ _) | (with_reducible refine below_drew ?_) | (with_reducible refine below_on ?_ _) | (with_reducible refine below_alloc ?_ _) | (with_reducible refine below_set ?_ (by simp; try omega) _))))
        clear hK K
        try simp only [Act.put, List.setIfInBounds_toArray, List.set_cons_zero, List.set_cons_succ]
        refine wpAnyH_ready (rs := [6]) (by kernel_rfl) (by simp) ?_
        refine AllReadyH.cons (get_drop rfl) (fun K hK => ?_) AllReadyH.nil
        go_simp
        refine hK.out _ _ ?_ (fun hHeld => ?_)
        · ((try dsimp only); (exact hsafe _ (by repeat first | (with_reducible exact Below.refl _ _) | (with_reducible refine below_drew ?_) | (with_reducible refine below_on ?_ _) | (with_reducible refine below_alloc ?_ _) | (with_reducible refine below_set ?_ (by simp; try omega) _))))
        clear hK K
        try simp only [Act.put, List.setIfInBounds_toArray, List.set_cons_zero, List.set_cons_succ]
        refine wpAnyH_ready (rs := [7]) (by kernel_rfl) (by simp) ?_
        refine AllReadyH.cons (get_drop rfl) (fun K hK => ?_) AllReadyH.nil
        go_simp
        refine hK.out _ _ ?_ (fun hHeld => ?_)
        · ((try dsimp only); (exact hsafe _ (by repeat first | (with_reducible exact Below.refl _ _) | (with_reducible refine below_drew ?_) | (with_reducible refine below_on ?_ _) | (with_reducible refine below_alloc ?_ _) | (with_reducible refine below_set ?_ (by simp; try omega) _))))
        clear hK K
        try simp only [Act.put, List.setIfInBounds_toArray, List.set_cons_zero, List.set_cons_succ]
        refine wpAnyH_done (by kernel_rfl) ?_ _
        go_wp2_with fail
        exact ⟨_, _, pa, pb, ca, cb, ⟨rfl, rfl, rfl, rfl, rfl⟩, ⟨(by repeat first | (with_reducible refine hz_new ?_; first | (simp; done) | fail) | (with_reducible refine hz_drew ?_) | (with_reducible refine hz_on _ ?_) | (with_reducible refine hz_alloc ?_) | (with_reducible refine (Below.heap_setCell _ _ _ _ (by first | omega | (simp; done) | (simp; omega))).trans ?_) | (refine held_set3 (x0 := .int .i64 0) (x1 := .int .i64 0) (x2 := .slice none 0 0) ?_)), (by repeat first | (with_reducible refine hz_new ?_; first | (simp; done) | fail) | (with_reducible refine hz_drew ?_) | (with_reducible refine hz_on _ ?_) | (with_reducible refine hz_alloc ?_) | (with_reducible refine (Below.heap_setCell _ _ _ _ (by first | omega | (simp; done) | (simp; omega))).trans ?_) | (refine held_set3 (x0 := .int .i64 0) (x1 := .int .i64 0) (x2 := .slice none 0 0) ?_)), (by repeat first | (with_reducible exact hca) | (with_reducible refine Crs.set ?_ (fun ad h => by have := fa ad h; first | omega | (simp; omega)) _) | (with_reducible refine Crs.al ?_ _) | (with_reducible refine Crs.onl _ ?_) | (with_reducible refine Crs.dr ?_)), (by repeat first | (with_reducible exact hcb) | (with_reducible refine Crs.set ?_ (fun ad h => by have := fb ad h; first | omega | (simp; omega)) _) | (with_reducible refine Crs.al ?_ _) | (with_reducible refine Crs.onl _ ?_) | (with_reducible refine Crs.dr ?_)), (by repeat first | (with_reducible exact Below.refl _ _) | (with_reducible exact hB0) | (with_reducible refine below_drew ?_) | (with_reducible refine below_on ?_ _) | (with_reducible refine below_alloc ?_ _) | (with_reducible refine below_set ?_ (by simp; try omega) _)), lay_below hL (by repeat first | (with_reducible exact Below.refl _ _) | (with_reducible exact hB0) | (with_reducible refine below_drew ?_) | (with_reducible refine below_on ?_ _) | (with_reducible refine below_alloc ?_ _) | (with_reducible refine below_set ?_ (by simp; try omega) _)), hnA, hnB, hkA⟩, hin _ (by repeat first | (with_reducible exact Below.refl _ _) | (with_reducible refine below_drew ?_) | (with_reducible refine below_on ?_ _) | (with_reducible refine below_alloc ?_ _) | (with_reducible refine below_set ?_ (by simp; try omega) _)), rfl, rfl, by first | omega | (simp; done) | (simp; omega), by first | omega | (simp; done) | (simp; omega), (fun ad h => by have := fa ad h; exact ⟨by first | omega | (simp; omega), by first | omega | (simp; omega)⟩)⟩
    · skip
      go_simp
      refine hK.out _ _ ?_ (fun hHeld => ?_)
      · ((try dsimp only); (exact hsafe _ (by repeat first | (with_reducible exact Below.refl _ _) | (with_reducible refine below_drew ?_) | (with_reducible refine below_on ?_ _) | (with_reducible refine below_alloc ?_ _) | (with_reducible refine below_set ?_ (by simp; try omega) _))))
      clear hK K
      try simp only [Act.put, List.setIfInBounds_toArray, List.set_cons_zero, List.set_cons_succ]
      refine wpAnyH_ready (rs := [3, 5]) (by kernel_rfl) (by simp) ?_
      refine AllReadyH.cons (get_drop rfl) (fun K hK => ?_) (AllReadyH.cons (get_drop rfl) (fun K hK => ?_) AllReadyH.nil)
      · skip
        go_simp
        (first | (go_at_call 17; (with_reducible refine (pof_any yW yH ky py ny cy _ (lay_below hL (by repeat first | (with_reducible exact Below.refl _ _) | (with_reducible exact hB0) | (with_reducible refine below_drew ?_) | (with_reducible refine below_on ?_ _) | (with_reducible refine below_alloc ?_ _) | (with_reducible refine below_set ?_ (by simp; try omega) _))) (Byts.below hby (by repeat first | (with_reducible exact Below.refl _ _) | (with_reducible exact hB0) | (with_reducible refine below_drew ?_) | (with_reducible refine below_on ?_ _) | (with_reducible refine below_alloc ?_ _) | (with_reducible refine below_set ?_ (by simp; try omega) _))) (by omega) (by omega) (by omega)).mono ?_); rintro eb wb ⟨hpb, hxb⟩; obtain ⟨pb, cb, rfl, hcb, hfb⟩ := hpb; obtain ⟨ub, rfl⟩ := after hxb; clear hxb; have sb := on_size ub; (try simp at sb); (try have nb1 : ¬ W0.heap.size = (on ub).heap.size := by omega); (try have nb2 : ¬ (on ub).heap.size = W0.heap.size := by omega); (try have nc1 : ¬ (on ua).heap.size = (on ub).heap.size := by omega); (try have nc2 : ¬ (on ub).heap.size = (on ua).heap.size := by omega); have fb : ∀ ad, pb = some ad → _ ∧ ad.block < (on ub).heap.size := fun ad h => ⟨(hfb ad h).1, by obtain ⟨_, _, _, cs, hh⟩ := hfb ad h; exact hz_lt hh⟩; (try simp at fb)))
        refine hK.out _ _ ?_ (fun hHeld => ?_)
        · ((try dsimp only); (exact hsafe _ (by repeat first | (with_reducible exact Below.refl _ _) | (with_reducible refine below_drew ?_) | (with_reducible refine below_on ?_ _) | (with_reducible refine below_alloc ?_ _) | (with_reducible refine below_set ?_ (by simp; try omega) _))))
        clear hK K
        try simp only [Act.put, List.setIfInBounds_toArray, List.set_cons_zero, List.set_cons_succ]
        refine wpAnyH_ready (rs := [5]) (by kernel_rfl) (by simp) ?_
        refine AllReadyH.cons (get_drop rfl) (fun K hK => ?_) AllReadyH.nil
        go_simp
        refine hK.out _ _ ?_ (fun hHeld => ?_)
        · ((try dsimp only); (exact hsafe _ (by repeat first | (with_reducible exact Below.refl _ _) | (with_reducible refine below_drew ?_) | (with_reducible refine below_on ?_ _) | (with_reducible refine below_alloc ?_ _) | (with_reducible refine below_set ?_ (by simp; try omega) _))))
        clear hK K
        try simp only [Act.put, List.setIfInBounds_toArray, List.set_cons_zero, List.set_cons_succ]
        refine wpAnyH_ready (rs := [6]) (by kernel_rfl) (by simp) ?_
        refine AllReadyH.cons (get_drop rfl) (fun K hK => ?_) AllReadyH.nil
        go_simp
        refine hK.out _ _ ?_ (fun hHeld => ?_)
        · ((try dsimp only); (exact hsafe _ (by repeat first | (with_reducible exact Below.refl _ _) | (with_reducible refine below_drew ?_) | (with_reducible refine below_on ?_ _) | (with_reducible refine below_alloc ?_ _) | (with_reducible refine below_set ?_ (by simp; try omega) _))))
        clear hK K
        try simp only [Act.put, List.setIfInBounds_toArray, List.set_cons_zero, List.set_cons_succ]
        refine wpAnyH_ready (rs := [7]) (by kernel_rfl) (by simp) ?_
        refine AllReadyH.cons (get_drop rfl) (fun K hK => ?_) AllReadyH.nil
        go_simp
        refine hK.out _ _ ?_ (fun hHeld => ?_)
        · ((try dsimp only); (exact hsafe _ (by repeat first | (with_reducible exact Below.refl _ _) | (with_reducible refine below_drew ?_) | (with_reducible refine below_on ?_ _) | (with_reducible refine below_alloc ?_ _) | (with_reducible refine below_set ?_ (by simp; try omega) _))))
        clear hK K
        try simp only [Act.put, List.setIfInBounds_toArray, List.set_cons_zero, List.set_cons_succ]
        refine wpAnyH_done (by kernel_rfl) ?_ _
        go_wp2_with fail
        exact ⟨_, _, pa, pb, ca, cb, ⟨rfl, rfl, rfl, rfl, rfl⟩, ⟨(by repeat first | (with_reducible refine hz_new ?_; first | (simp; done) | fail) | (with_reducible refine hz_drew ?_) | (with_reducible refine hz_on _ ?_) | (with_reducible refine hz_alloc ?_) | (with_reducible refine (Below.heap_setCell _ _ _ _ (by first | omega | (simp; done) | (simp; omega))).trans ?_) | (refine held_set3 (x0 := .int .i64 0) (x1 := .int .i64 0) (x2 := .slice none 0 0) ?_)), (by repeat first | (with_reducible refine hz_new ?_; first | (simp; done) | fail) | (with_reducible refine hz_drew ?_) | (with_reducible refine hz_on _ ?_) | (with_reducible refine hz_alloc ?_) | (with_reducible refine (Below.heap_setCell _ _ _ _ (by first | omega | (simp; done) | (simp; omega))).trans ?_) | (refine held_set3 (x0 := .int .i64 0) (x1 := .int .i64 0) (x2 := .slice none 0 0) ?_)), (by repeat first | (with_reducible exact hca) | (with_reducible refine Crs.set ?_ (fun ad h => by have := fa ad h; first | omega | (simp; omega)) _) | (with_reducible refine Crs.al ?_ _) | (with_reducible refine Crs.onl _ ?_) | (with_reducible refine Crs.dr ?_)), (by repeat first | (with_reducible exact hcb) | (with_reducible refine Crs.set ?_ (fun ad h => by have := fb ad h; first | omega | (simp; omega)) _) | (with_reducible refine Crs.al ?_ _) | (with_reducible refine Crs.onl _ ?_) | (with_reducible refine Crs.dr ?_)), (by repeat first | (with_reducible exact Below.refl _ _) | (with_reducible exact hB0) | (with_reducible refine below_drew ?_) | (with_reducible refine below_on ?_ _) | (with_reducible refine below_alloc ?_ _) | (with_reducible refine below_set ?_ (by simp; try omega) _)), lay_below hL (by repeat first | (with_reducible exact Below.refl _ _) | (with_reducible exact hB0) | (with_reducible refine below_drew ?_) | (with_reducible refine below_on ?_ _) | (with_reducible refine below_alloc ?_ _) | (with_reducible refine below_set ?_ (by simp; try omega) _)), hnA, hnB, hkA⟩, hin _ (by repeat first | (with_reducible exact Below.refl _ _) | (with_reducible refine below_drew ?_) | (with_reducible refine below_on ?_ _) | (with_reducible refine below_alloc ?_ _) | (with_reducible refine below_set ?_ (by simp; try omega) _)), rfl, rfl, by first | omega | (simp; done) | (simp; omega), by first | omega | (simp; done) | (simp; omega), (fun ad h => by have := fa ad h; exact ⟨by first | omega | (simp; omega), by first | omega | (simp; omega)⟩)⟩
      · skip
        go_simp
        refine hK.out _ _ ?_ (fun hHeld => ?_)
        · ((try dsimp only); (exact hsafe _ (by repeat first | (with_reducible exact Below.refl _ _) | (with_reducible refine below_drew ?_) | (with_reducible refine below_on ?_ _) | (with_reducible refine below_alloc ?_ _) | (with_reducible refine below_set ?_ (by simp; try omega) _))))
        clear hK K
        try simp only [Act.put, List.setIfInBounds_toArray, List.set_cons_zero, List.set_cons_succ]
        refine wpAnyH_ready (rs := [3]) (by kernel_rfl) (by simp) ?_
        refine AllReadyH.cons (get_drop rfl) (fun K hK => ?_) AllReadyH.nil
        go_simp
        (first | (go_at_call 17; (with_reducible refine (pof_any yW yH ky py ny cy _ (lay_below hL (by repeat first | (with_reducible exact Below.refl _ _) | (with_reducible exact hB0) | (with_reducible refine below_drew ?_) | (with_reducible refine below_on ?_ _) | (with_reducible refine below_alloc ?_ _) | (with_reducible refine below_set ?_ (by simp; try omega) _))) (Byts.below hby (by repeat first | (with_reducible exact Below.refl _ _) | (with_reducible exact hB0) | (with_reducible refine below_drew ?_) | (with_reducible refine below_on ?_ _) | (with_reducible refine below_alloc ?_ _) | (with_reducible refine below_set ?_ (by simp; try omega) _))) (by omega) (by omega) (by omega)).mono ?_); rintro eb wb ⟨hpb, hxb⟩; obtain ⟨pb, cb, rfl, hcb, hfb⟩ := hpb; obtain ⟨ub, rfl⟩ := after hxb; clear hxb; have sb := on_size ub; (try simp at sb); (try have nb1 : ¬ W0.heap.size = (on ub).heap.size := by omega); (try have nb2 : ¬ (on ub).heap.size = W0.heap.size := by omega); (try have nc1 : ¬ (on ua).heap.size = (on ub).heap.size := by omega); (try have nc2 : ¬ (on ub).heap.size = (on ua).heap.size := by omega); have fb : ∀ ad, pb = some ad → _ ∧ ad.block < (on ub).heap.size := fun ad h => ⟨(hfb ad h).1, by obtain ⟨_, _, _, cs, hh⟩ := hfb ad h; exact hz_lt hh⟩; (try simp at fb)))
        refine hK.out _ _ ?_ (fun hHeld => ?_)
        · ((try dsimp only); (exact hsafe _ (by repeat first | (with_reducible exact Below.refl _ _) | (with_reducible refine below_drew ?_) | (with_reducible refine below_on ?_ _) | (with_reducible refine below_alloc ?_ _) | (with_reducible refine below_set ?_ (by simp; try omega) _))))
        clear hK K
        try simp only [Act.put, List.setIfInBounds_toArray, List.set_cons_zero, List.set_cons_succ]
        refine wpAnyH_ready (rs := [6]) (by kernel_rfl) (by simp) ?_
        refine AllReadyH.cons (get_drop rfl) (fun K hK => ?_) AllReadyH.nil
        go_simp
        refine hK.out _ _ ?_ (fun hHeld => ?_)
        · ((try dsimp only); (exact hsafe _ (by repeat first | (with_reducible exact Below.refl _ _) | (with_reducible refine below_drew ?_) | (with_reducible refine below_on ?_ _) | (with_reducible refine below_alloc ?_ _) | (with_reducible refine below_set ?_ (by simp; try omega) _))))
        clear hK K
        try simp only [Act.put, List.setIfInBounds_toArray, List.set_cons_zero, List.set_cons_succ]
        refine wpAnyH_ready (rs := [7]) (by kernel_rfl) (by simp) ?_
        refine AllReadyH.cons (get_drop rfl) (fun K hK => ?_) AllReadyH.nil
        go_simp
        refine hK.out _ _ ?_ (fun hHeld => ?_)
        · ((try dsimp only); (exact hsafe _ (by repeat first | (with_reducible exact Below.refl _ _) | (with_reducible refine below_drew ?_) | (with_reducible refine below_on ?_ _) | (with_reducible refine below_alloc ?_ _) | (with_reducible refine below_set ?_ (by simp; try omega) _))))
        clear hK K
        try simp only [Act.put, List.setIfInBounds_toArray, List.set_cons_zero, List.set_cons_succ]
        refine wpAnyH_done (by kernel_rfl) ?_ _
        go_wp2_with fail
        exact ⟨_, _, pa, pb, ca, cb, ⟨rfl, rfl, rfl, rfl, rfl⟩, ⟨(by repeat first | (with_reducible refine hz_new ?_; first | (simp; done) | fail) | (with_reducible refine hz_drew ?_) | (with_reducible refine hz_on _ ?_) | (with_reducible refine hz_alloc ?_) | (with_reducible refine (Below.heap_setCell _ _ _ _ (by first | omega | (simp; done) | (simp; omega))).trans ?_) | (refine held_set3 (x0 := .int .i64 0) (x1 := .int .i64 0) (x2 := .slice none 0 0) ?_)), (by repeat first | (with_reducible refine hz_new ?_; first | (simp; done) | fail) | (with_reducible refine hz_drew ?_) | (with_reducible refine hz_on _ ?_) | (with_reducible refine hz_alloc ?_) | (with_reducible refine (Below.heap_setCell _ _ _ _ (by first | omega | (simp; done) | (simp; omega))).trans ?_) | (refine held_set3 (x0 := .int .i64 0) (x1 := .int .i64 0) (x2 := .slice none 0 0) ?_)), (by repeat first | (with_reducible exact hca) | (with_reducible refine Crs.set ?_ (fun ad h => by have := fa ad h; first | omega | (simp; omega)) _) | (with_reducible refine Crs.al ?_ _) | (with_reducible refine Crs.onl _ ?_) | (with_reducible refine Crs.dr ?_)), (by repeat first | (with_reducible exact hcb) | (with_reducible refine Crs.set ?_ (fun ad h => by have := fb ad h; first | omega | (simp; omega)) _) | (with_reducible refine Crs.al ?_ _) | (with_reducible refine Crs.onl _ ?_) | (with_reducible refine Crs.dr ?_)), (by repeat first | (with_reducible exact Below.refl _ _) | (with_reducible exact hB0) | (with_reducible refine below_drew ?_) | (with_reducible refine below_on ?_ _) | (with_reducible refine below_alloc ?_ _) | (with_reducible refine below_set ?_ (by simp; try omega) _)), lay_below hL (by repeat first | (with_reducible exact Below.refl _ _) | (with_reducible exact hB0) | (with_reducible refine below_drew ?_) | (with_reducible refine below_on ?_ _) | (with_reducible refine below_alloc ?_ _) | (with_reducible refine below_set ?_ (by simp; try omega) _)), hnA, hnB, hkA⟩, hin _ (by repeat first | (with_reducible exact Below.refl _ _) | (with_reducible refine below_drew ?_) | (with_reducible refine below_on ?_ _) | (with_reducible refine below_alloc ?_ _) | (with_reducible refine below_set ?_ (by simp; try omega) _)), rfl, rfl, by first | omega | (simp; done) | (simp; omega), by first | omega | (simp; done) | (simp; omega), (fun ad h => by have := fa ad h; exact ⟨by first | omega | (simp; omega), by first | omega | (simp; omega)⟩)⟩
    · skip
      go_simp
      refine hK.out _ _ ?_ (fun hHeld => ?_)
      · ((try dsimp only); (exact hsafe _ (by repeat first | (with_reducible exact Below.refl _ _) | (with_reducible refine below_drew ?_) | (with_reducible refine below_on ?_ _) | (with_reducible refine below_alloc ?_ _) | (with_reducible refine below_set ?_ (by simp; try omega) _))))
      clear hK K
      try simp only [Act.put, List.setIfInBounds_toArray, List.set_cons_zero, List.set_cons_succ]
      refine wpAnyH_ready (rs := [3, 4]) (by kernel_rfl) (by simp) ?_
      refine AllReadyH.cons (get_drop rfl) (fun K hK => ?_) (AllReadyH.cons (get_drop rfl) (fun K hK => ?_) AllReadyH.nil)
      · skip
        go_simp
        (first | (go_at_call 17; (with_reducible refine (pof_any yW yH ky py ny cy _ (lay_below hL (by repeat first | (with_reducible exact Below.refl _ _) | (with_reducible exact hB0) | (with_reducible refine below_drew ?_) | (with_reducible refine below_on ?_ _) | (with_reducible refine below_alloc ?_ _) | (with_reducible refine below_set ?_ (by simp; try omega) _))) (Byts.below hby (by repeat first | (with_reducible exact Below.refl _ _) | (with_reducible exact hB0) | (with_reducible refine below_drew ?_) | (with_reducible refine below_on ?_ _) | (with_reducible refine below_alloc ?_ _) | (with_reducible refine below_set ?_ (by simp; try omega) _))) (by omega) (by omega) (by omega)).mono ?_); rintro eb wb ⟨hpb, hxb⟩; obtain ⟨pb, cb, rfl, hcb, hfb⟩ := hpb; obtain ⟨ub, rfl⟩ := after hxb; clear hxb; have sb := on_size ub; (try simp at sb); (try have nb1 : ¬ W0.heap.size = (on ub).heap.size := by omega); (try have nb2 : ¬ (on ub).heap.size = W0.heap.size := by omega); (try have nc1 : ¬ (on ua).heap.size = (on ub).heap.size := by omega); (try have nc2 : ¬ (on ub).heap.size = (on ua).heap.size := by omega); have fb : ∀ ad, pb = some ad → _ ∧ ad.block < (on ub).heap.size := fun ad h => ⟨(hfb ad h).1, by obtain ⟨_, _, _, cs, hh⟩ := hfb ad h; exact hz_lt hh⟩; (try simp at fb)))
        refine hK.out _ _ ?_ (fun hHeld => ?_)
        · ((try dsimp only); (exact hsafe _ (by repeat first | (with_reducible exact Below.refl _ _) | (with_reducible refine below_drew ?_) | (with_reducible refine below_on ?_ _) | (with_reducible refine below_alloc ?_ _) | (with_reducible refine below_set ?_ (by simp; try omega) _))))
        clear hK K
        try simp only [Act.put, List.setIfInBounds_toArray, List.set_cons_zero, List.set_cons_succ]
        refine wpAnyH_ready (rs := [4]) (by kernel_rfl) (by simp) ?_
        refine AllReadyH.cons (get_drop rfl) (fun K hK => ?_) AllReadyH.nil
        go_simp
        refine hK.out _ _ ?_ (fun hHeld => ?_)
        · ((try dsimp only); (exact hsafe _ (by repeat first | (with_reducible exact Below.refl _ _) | (with_reducible refine below_drew ?_) | (with_reducible refine below_on ?_ _) | (with_reducible refine below_alloc ?_ _) | (with_reducible refine below_set ?_ (by simp; try omega) _))))
        clear hK K
        try simp only [Act.put, List.setIfInBounds_toArray, List.set_cons_zero, List.set_cons_succ]
        refine wpAnyH_ready (rs := [6]) (by kernel_rfl) (by simp) ?_
        refine AllReadyH.cons (get_drop rfl) (fun K hK => ?_) AllReadyH.nil
        go_simp
        refine hK.out _ _ ?_ (fun hHeld => ?_)
        · ((try dsimp only); (exact hsafe _ (by repeat first | (with_reducible exact Below.refl _ _) | (with_reducible refine below_drew ?_) | (with_reducible refine below_on ?_ _) | (with_reducible refine below_alloc ?_ _) | (with_reducible refine below_set ?_ (by simp; try omega) _))))
        clear hK K
        try simp only [Act.put, List.setIfInBounds_toArray, List.set_cons_zero, List.set_cons_succ]
        refine wpAnyH_ready (rs := [7]) (by kernel_rfl) (by simp) ?_
        refine AllReadyH.cons (get_drop rfl) (fun K hK => ?_) AllReadyH.nil
        go_simp
        refine hK.out _ _ ?_ (fun hHeld => ?_)
        · ((try dsimp only); (exact hsafe _ (by repeat first | (with_reducible exact Below.refl _ _) | (with_reducible refine below_drew ?_) | (with_reducible refine below_on ?_ _) | (with_reducible refine below_alloc ?_ _) | (with_reducible refine below_set ?_ (by simp; try omega) _))))
        clear hK K
        try simp only [Act.put, List.setIfInBounds_toArray, List.set_cons_zero, List.set_cons_succ]
        refine wpAnyH_done (by kernel_rfl) ?_ _
        go_wp2_with fail
        exact ⟨_, _, pa, pb, ca, cb, ⟨rfl, rfl, rfl, rfl, rfl⟩, ⟨(by repeat first | (with_reducible refine hz_new ?_; first | (simp; done) | fail) | (with_reducible refine hz_drew ?_) | (with_reducible refine hz_on _ ?_) | (with_reducible refine hz_alloc ?_) | (with_reducible refine (Below.heap_setCell _ _ _ _ (by first | omega | (simp; done) | (simp; omega))).trans ?_) | (refine held_set3 (x0 := .int .i64 0) (x1 := .int .i64 0) (x2 := .slice none 0 0) ?_)), (by repeat first | (with_reducible refine hz_new ?_; first | (simp; done) | fail) | (with_reducible refine hz_drew ?_) | (with_reducible refine hz_on _ ?_) | (with_reducible refine hz_alloc ?_) | (with_reducible refine (Below.heap_setCell _ _ _ _ (by first | omega | (simp; done) | (simp; omega))).trans ?_) | (refine held_set3 (x0 := .int .i64 0) (x1 := .int .i64 0) (x2 := .slice none 0 0) ?_)), (by repeat first | (with_reducible exact hca) | (with_reducible refine Crs.set ?_ (fun ad h => by have := fa ad h; first | omega | (simp; omega)) _) | (with_reducible refine Crs.al ?_ _) | (with_reducible refine Crs.onl _ ?_) | (with_reducible refine Crs.dr ?_)), (by repeat first | (with_reducible exact hcb) | (with_reducible refine Crs.set ?_ (fun ad h => by have := fb ad h; first | omega | (simp; omega)) _) | (with_reducible refine Crs.al ?_ _) | (with_reducible refine Crs.onl _ ?_) | (with_reducible refine Crs.dr ?_)), (by repeat first | (with_reducible exact Below.refl _ _) | (with_reducible exact hB0) | (with_reducible refine below_drew ?_) | (with_reducible refine below_on ?_ _) | (with_reducible refine below_alloc ?_ _) | (with_reducible refine below_set ?_ (by simp; try omega) _)), lay_below hL (by repeat first | (with_reducible exact Below.refl _ _) | (with_reducible exact hB0) | (with_reducible refine below_drew ?_) | (with_reducible refine below_on ?_ _) | (with_reducible refine below_alloc ?_ _) | (with_reducible refine below_set ?_ (by simp; try omega) _)), hnA, hnB, hkA⟩, hin _ (by repeat first | (with_reducible exact Below.refl _ _) | (with_reducible refine below_drew ?_) | (with_reducible refine below_on ?_ _) | (with_reducible refine below_alloc ?_ _) | (with_reducible refine below_set ?_ (by simp; try omega) _)), rfl, rfl, by first | omega | (simp; done) | (simp; omega), by first | omega | (simp; done) | (simp; omega), (fun ad h => by have := fa ad h; exact ⟨by first | omega | (simp; omega), by first | omega | (simp; omega)⟩)⟩
      · skip
        go_simp
        refine hK.out _ _ ?_ (fun hHeld => ?_)
        · ((try dsimp only); (exact hsafe _ (by repeat first | (with_reducible exact Below.refl _ _) | (with_reducible refine below_drew ?_) | (with_reducible refine below_on ?_ _) | (with_reducible refine below_alloc ?_ _) | (with_reducible refine below_set ?_ (by simp; try omega) _))))
        clear hK K
        try simp only [Act.put, List.setIfInBounds_toArray, List.set_cons_zero, List.set_cons_succ]
        refine wpAnyH_ready (rs := [3]) (by kernel_rfl) (by simp) ?_
        refine AllReadyH.cons (get_drop rfl) (fun K hK => ?_) AllReadyH.nil
        go_simp
        (first | (go_at_call 17; (with_reducible refine (pof_any yW yH ky py ny cy _ (lay_below hL (by repeat first | (with_reducible exact Below.refl _ _) | (with_reducible exact hB0) | (with_reducible refine below_drew ?_) | (with_reducible refine below_on ?_ _) | (with_reducible refine below_alloc ?_ _) | (with_reducible refine below_set ?_ (by simp; try omega) _))) (Byts.below hby (by repeat first | (with_reducible exact Below.refl _ _) | (with_reducible exact hB0) | (with_reducible refine below_drew ?_) | (with_reducible refine below_on ?_ _) | (with_reducible refine below_alloc ?_ _) | (with_reducible refine below_set ?_ (by simp; try omega) _))) (by omega) (by omega) (by omega)).mono ?_); rintro eb wb ⟨hpb, hxb⟩; obtain ⟨pb, cb, rfl, hcb, hfb⟩ := hpb; obtain ⟨ub, rfl⟩ := after hxb; clear hxb; have sb := on_size ub; (try simp at sb); (try have nb1 : ¬ W0.heap.size = (on ub).heap.size := by omega); (try have nb2 : ¬ (on ub).heap.size = W0.heap.size := by omega); (try have nc1 : ¬ (on ua).heap.size = (on ub).heap.size := by omega); (try have nc2 : ¬ (on ub).heap.size = (on ua).heap.size := by omega); have fb : ∀ ad, pb = some ad → _ ∧ ad.block < (on ub).heap.size := fun ad h => ⟨(hfb ad h).1, by obtain ⟨_, _, _, cs, hh⟩ := hfb ad h; exact hz_lt hh⟩; (try simp at fb)))
        refine hK.out _ _ ?_ (fun hHeld => ?_)
        · ((try dsimp only); (exact hsafe _ (by repeat first | (with_reducible exact Below.refl _ _) | (with_reducible refine below_drew ?_) | (with_reducible refine below_on ?_ _) | (with_reducible refine below_alloc ?_ _) | (with_reducible refine below_set ?_ (by simp; try omega) _))))
        clear hK K
        try simp only [Act.put, List.setIfInBounds_toArray, List.set_cons_zero, List.set_cons_succ]
        refine wpAnyH_ready (rs := [6]) (by kernel_rfl) (by simp) ?_
        refine AllReadyH.cons (get_drop rfl) (fun K hK => ?_) AllReadyH.nil
        go_simp
        refine hK.out _ _ ?_ (fun hHeld => ?_)
        · ((try dsimp only); (exact hsafe _ (by repeat first | (with_reducible exact Below.refl _ _) | (with_reducible refine below_drew ?_) | (with_reducible refine below_on ?_ _) | (with_reducible refine below_alloc ?_ _) | (with_reducible refine below_set ?_ (by simp; try omega) _))))
        clear hK K
        try simp only [Act.put, List.setIfInBounds_toArray, List.set_cons_zero, List.set_cons_succ]
        refine wpAnyH_ready (rs := [7]) (by kernel_rfl) (by simp) ?_
        refine AllReadyH.cons (get_drop rfl) (fun K hK => ?_) AllReadyH.nil
        go_simp
        refine hK.out _ _ ?_ (fun hHeld => ?_)
        · ((try dsimp only); (exact hsafe _ (by repeat first | (with_reducible exact Below.refl _ _) | (with_reducible refine below_drew ?_) | (with_reducible refine below_on ?_ _) | (with_reducible refine below_alloc ?_ _) | (with_reducible refine below_set ?_ (by simp; try omega) _))))
        clear hK K
        try simp only [Act.put, List.setIfInBounds_toArray, List.set_cons_zero, List.set_cons_succ]
        refine wpAnyH_done (by kernel_rfl) ?_ _
        go_wp2_with fail
        exact ⟨_, _, pa, pb, ca, cb, ⟨rfl, rfl, rfl, rfl, rfl⟩, ⟨(by repeat first | (with_reducible refine hz_new ?_; first | (simp; done) | fail) | (with_reducible refine hz_drew ?_) | (with_reducible refine hz_on _ ?_) | (with_reducible refine hz_alloc ?_) | (with_reducible refine (Below.heap_setCell _ _ _ _ (by first | omega | (simp; done) | (simp; omega))).trans ?_) | (refine held_set3 (x0 := .int .i64 0) (x1 := .int .i64 0) (x2 := .slice none 0 0) ?_)), (by repeat first | (with_reducible refine hz_new ?_; first | (simp; done) | fail) | (with_reducible refine hz_drew ?_) | (with_reducible refine hz_on _ ?_) | (with_reducible refine hz_alloc ?_) | (with_reducible refine (Below.heap_setCell _ _ _ _ (by first | omega | (simp; done) | (simp; omega))).trans ?_) | (refine held_set3 (x0 := .int .i64 0) (x1 := .int .i64 0) (x2 := .slice none 0 0) ?_)), (by repeat first | (with_reducible exact hca) | (with_reducible refine Crs.set ?_ (fun ad h => by have := fa ad h; first | omega | (simp; omega)) _) | (with_reducible refine Crs.al ?_ _) | (with_reducible refine Crs.onl _ ?_) | (with_reducible refine Crs.dr ?_)), (by repeat first | (with_reducible exact hcb) | (with_reducible refine Crs.set ?_ (fun ad h => by have := fb ad h; first | omega | (simp; omega)) _) | (with_reducible refine Crs.al ?_ _) | (with_reducible refine Crs.onl _ ?_) | (with_reducible refine Crs.dr ?_)), (by repeat first | (with_reducible exact Below.refl _ _) | (with_reducible exact hB0) | (with_reducible refine below_drew ?_) | (with_reducible refine below_on ?_ _) | (with_reducible refine below_alloc ?_ _) | (with_reducible refine below_set ?_ (by simp; try omega) _)), lay_below hL (by repeat first | (with_reducible exact Below.refl _ _) | (with_reducible exact hB0) | (with_reducible refine below_drew ?_) | (with_reducible refine below_on ?_ _) | (with_reducible refine below_alloc ?_ _) | (with_reducible refine below_set ?_ (by simp; try omega) _)), hnA, hnB, hkA⟩, hin _ (by repeat first | (with_reducible exact Below.refl _ _) | (with_reducible refine below_drew ?_) | (with_reducible refine below_on ?_ _) | (with_reducible refine below_alloc ?_ _) | (with_reducible refine below_set ?_ (by simp; try omega) _)), rfl, rfl, by first | omega | (simp; done) | (simp; omega), by first | omega | (simp; done) | (simp; omega), (fun ad h => by have := fa ad h; exact ⟨by first | omega | (simp; omega), by first | omega | (simp; omega)⟩)⟩
  · skip
    go_simp
    refine hK.out _ _ ?_ (fun hHeld => ?_)
    · ((try dsimp only); (exact hsafe _ (by repeat first | (with_reducible exact Below.refl _ _) | (with_reducible refine below_drew ?_) | (with_reducible refine below_on ?_ _) | (with_reducible refine below_alloc ?_ _) | (with_reducible refine below_set ?_ (by simp; try omega) _))))
    clear hK K
    try simp only [Act.put, List.setIfInBounds_toArray, List.set_cons_zero, List.set_cons_succ]
    refine wpAnyH_ready (rs := [1, 5]) (by kernel_rfl) (by simp) ?_
    refine AllReadyH.cons (get_drop rfl) (fun K hK => ?_) (AllReadyH.cons (get_drop rfl) (fun K hK => ?_) AllReadyH.nil)
    · skip
      go_simp
      (first | (go_at_call 17; (with_reducible refine (pof_any xW xH kx px nx cx _ (lay_below hL (by repeat first | (with_reducible exact Below.refl _ _) | (with_reducible exact hB0) | (with_reducible refine below_drew ?_) | (with_reducible refine below_on ?_ _) | (with_reducible refine below_alloc ?_ _) | (with_reducible refine below_set ?_ (by simp; try omega) _))) (Byts.below hbx (by repeat first | (with_reducible exact Below.refl _ _) | (with_reducible exact hB0) | (with_reducible refine below_drew ?_) | (with_reducible refine below_on ?_ _) | (with_reducible refine below_alloc ?_ _) | (with_reducible refine below_set ?_ (by simp; try omega) _))) (by omega) (by omega) (by omega)).mono ?_); rintro ea wa ⟨hpa, hxa⟩; obtain ⟨pa, ca, rfl, hca, hfa⟩ := hpa; obtain ⟨ua, rfl⟩ := after hxa; clear hxa; have sa := on_size ua; (try simp at sa); (try have na1 : ¬ W0.heap.size = (on ua).heap.size := by omega); (try have na2 : ¬ (on ua).heap.size = W0.heap.size := by omega); have fa : ∀ ad, pa = some ad → _ ∧ ad.block < (on ua).heap.size := fun ad h => ⟨(hfa ad h).1, by obtain ⟨_, _, _, cs, hh⟩ := hfa ad h; exact hz_lt hh⟩; (try simp at fa)))
      refine hK.out _ _ ?_ (fun hHeld => ?_)
      · ((try dsimp only); (exact hsafe _ (by repeat first | (with_reducible exact Below.refl _ _) | (with_reducible refine below_drew ?_) | (with_reducible refine below_on ?_ _) | (with_reducible refine below_alloc ?_ _) | (with_reducible refine below_set ?_ (by simp; try omega) _))))
      clear hK K
      try simp only [Act.put, List.setIfInBounds_toArray, List.set_cons_zero, List.set_cons_succ]
      refine wpAnyH_ready (rs := [3, 5]) (by kernel_rfl) (by simp) ?_
      refine AllReadyH.cons (get_drop rfl) (fun K hK => ?_) (AllReadyH.cons (get_drop rfl) (fun K hK => ?_) AllReadyH.nil)
      · skip
        go_simp
        (first | (go_at_call 17; (with_reducible refine (pof_any yW yH ky py ny cy _ (lay_below hL (by repeat first | (with_reducible exact Below.refl _ _) | (with_reducible exact hB0) | (with_reducible refine below_drew ?_) | (with_reducible refine below_on ?_ _) | (with_reducible refine below_alloc ?_ _) | (with_reducible refine below_set ?_ (by simp; try omega) _))) (Byts.below hby (by repeat first | (with_reducible exact Below.refl _ _) | (with_reducible exact hB0) | (with_reducible refine below_drew ?_) | (with_reducible refine below_on ?_ _) | (with_reducible refine below_alloc ?_ _) | (with_reducible refine below_set ?_ (by simp; try omega) _))) (by omega) (by omega) (by omega)).mono ?_); rintro eb wb ⟨hpb, hxb⟩; obtain ⟨pb, cb, rfl, hcb, hfb⟩ := hpb; obtain ⟨ub, rfl⟩ := after hxb; clear hxb; have sb := on_size ub; (try simp at sb); (try have nb1 : ¬ W0.heap.size = (on ub).heap.size := by omega); (try have nb2 : ¬ (on ub).heap.size = W0.heap.size := by omega); (try have nc1 : ¬ (on ua).heap.size = (on ub).heap.size := by omega); (try have nc2 : ¬ (on ub).heap.size = (on ua).heap.size := by omega); have fb : ∀ ad, pb = some ad → _ ∧ ad.block < (on ub).heap.size := fun ad h => ⟨(hfb ad h).1, by obtain ⟨_, _, _, cs, hh⟩ := hfb ad h; exact hz_lt hh⟩; (try simp at fb)))
        refine hK.out _ _ ?_ (fun hHeld => ?_)
        · ((try dsimp only); (exact hsafe _ (by repeat first | (with_reducible exact Below.refl _ _) | (with_reducible refine below_drew ?_) | (with_reducible refine below_on ?_ _) | (with_reducible refine below_alloc ?_ _) | (with_reducible refine below_set ?_ (by simp; try omega) _))))
        clear hK K
        try simp only [Act.put, List.setIfInBounds_toArray, List.set_cons_zero, List.set_cons_succ]
        refine wpAnyH_ready (rs := [5]) (by kernel_rfl) (by simp) ?_
        refine AllReadyH.cons (get_drop rfl) (fun K hK => ?_) AllReadyH.nil
        go_simp
        refine hK.out _ _ ?_ (fun hHeld => ?_)
        · ((try dsimp only); (exact hsafe _ (by repeat first | (with_reducible exact Below.refl _ _) | (with_reducible refine below_drew ?_) | (with_reducible refine below_on ?_ _) | (with_reducible refine below_alloc ?_ _) | (with_reducible refine below_set ?_ (by simp; try omega) _))))
        clear hK K
        try simp only [Act.put, List.setIfInBounds_toArray, List.set_cons_zero, List.set_cons_succ]
        refine wpAnyH_ready (rs := [6]) (by kernel_rfl) (by simp) ?_
        refine AllReadyH.cons (get_drop rfl) (fun K hK => ?_) AllReadyH.nil
        go_simp
        refine hK.out _ _ ?_ (fun hHeld => ?_)
        · ((try dsimp only); (exact hsafe _ (by repeat first | (with_reducible exact Below.refl _ _) | (with_reducible refine below_drew ?_) | (with_reducible refine below_on ?_ _) | (with_reducible refine below_alloc ?_ _) | (with_reducible refine below_set ?_ (by simp; try omega) _))))
        clear hK K
        try simp only [Act.put, List.setIfInBounds_toArray, List.set_cons_zero, List.set_cons_succ]
        refine wpAnyH_ready (rs := [7]) (by kernel_rfl) (by simp) ?_
        refine AllReadyH.cons (get_drop rfl) (fun K hK => ?_) AllReadyH.nil
        go_simp
        refine hK.out _ _ ?_ (fun hHeld => ?_)
        · ((try dsimp only); (exact hsafe _ (by repeat first | (with_reducible exact Below.refl _ _) | (with_reducible refine below_drew ?_) | (with_reducible refine below_on ?_ _) | (with_reducible refine below_alloc ?_ _) | (with_reducible refine below_set ?_ (by simp; try omega) _))))
        clear hK K
        try simp only [Act.put, List.setIfInBounds_toArray, List.set_cons_zero, List.set_cons_succ]
        refine wpAnyH_done (by kernel_rfl) ?_ _
        go_wp2_with fail
        exact ⟨_, _, pa, pb, ca, cb, ⟨rfl, rfl, rfl, rfl, rfl⟩, ⟨(by repeat first | (with_reducible refine hz_new ?_; first | (simp; done) | fail) | (with_reducible refine hz_drew ?_) | (with_reducible refine hz_on _ ?_) | (with_reducible refine hz_alloc ?_) | (with_reducible refine (Below.heap_setCell _ _ _ _ (by first | omega | (simp; done) | (simp; omega))).trans ?_) | (refine held_set3 (x0 := .int .i64 0) (x1 := .int .i64 0) (x2 := .slice none 0 0) ?_)), (by repeat first | (with_reducible refine hz_new ?_; first | (simp; done) | fail) | (with_reducible refine hz_drew ?_) | (with_reducible refine hz_on _ ?_) | (with_reducible refine hz_alloc ?_) | (with_reducible refine (Below.heap_setCell _ _ _ _ (by first | omega | (simp; done) | (simp; omega))).trans ?_) | (refine held_set3 (x0 := .int .i64 0) (x1 := .int .i64 0) (x2 := .slice none 0 0) ?_)), (by repeat first | (with_reducible exact hca) | (with_reducible refine Crs.set ?_ (fun ad h => by have := fa ad h; first | omega | (simp; omega)) _) | (with_reducible refine Crs.al ?_ _) | (with_reducible refine Crs.onl _ ?_) | (with_reducible refine Crs.dr ?_)), (by repeat first | (with_reducible exact hcb) | (with_reducible refine Crs.set ?_ (fun ad h => by have := fb ad h; first | omega | (simp; omega)) _) | (with_reducible refine Crs.al ?_ _) | (with_reducible refine Crs.onl _ ?_) | (with_reducible refine Crs.dr ?_)), (by repeat first | (with_reducible exact Below.refl _ _) | (with_reducible exact hB0) | (with_reducible refine below_drew ?_) | (with_reducible refine below_on ?_ _) | (with_reducible refine below_alloc ?_ _) | (with_reducible refine below_set ?_ (by simp; try omega) _)), lay_below hL (by repeat first | (with_reducible exact Below.refl _ _) | (with_reducible exact hB0) | (with_reducible refine below_drew ?_) | (with_reducible refine below_on ?_ _) | (with_reducible refine below_alloc ?_ _) | (with_reducible refine below_set ?_ (by simp; try omega) _)), hnA, hnB, hkA⟩, hin _ (by repeat first | (with_reducible exact Below.refl _ _) | (with_reducible refine below_drew ?_) | (with_reducible refine below_on ?_ _) | (with_reducible refine below_alloc ?_ _) | (with_reducible refine below_set ?_ (by simp; try omega) _)), rfl, rfl, by first | omega | (simp; done) | (simp; omega), by first | omega | (simp; done) | (simp; omega), (fun ad h => by have := fa ad h; exact ⟨by first | omega | (simp; omega), by first | omega | (simp; omega)⟩)⟩
      · skip
        go_simp
        refine hK.out _ _ ?_ (fun hHeld => ?_)
        · ((try dsimp only); (exact hsafe _ (by repeat first | (with_reducible exact Below.refl _ _) | (with_reducible refine below_drew ?_) | (with_reducible refine below_on ?_ _) | (with_reducible refine below_alloc ?_ _) | (with_reducible refine below_set ?_ (by simp; try omega) _))))
        clear hK K
        try simp only [Act.put, List.setIfInBounds_toArray, List.set_cons_zero, List.set_cons_succ]
        refine wpAnyH_ready (rs := [3]) (by kernel_rfl) (by simp) ?_
        refine AllReadyH.cons (get_drop rfl) (fun K hK => ?_) AllReadyH.nil
        go_simp
        (first | (go_at_call 17; (with_reducible refine (pof_any yW yH ky py ny cy _ (lay_below hL (by repeat first | (with_reducible exact Below.refl _ _) | (with_reducible exact hB0) | (with_reducible refine below_drew ?_) | (with_reducible refine below_on ?_ _) | (with_reducible refine below_alloc ?_ _) | (with_reducible refine below_set ?_ (by simp; try omega) _))) (Byts.below hby (by repeat first | (with_reducible exact Below.refl _ _) | (with_reducible exact hB0) | (with_reducible refine below_drew ?_) | (with_reducible refine below_on ?_ _) | (with_reducible refine below_alloc ?_ _) | (with_reducible refine below_set ?_ (by simp; try omega) _))) (by omega) (by omega) (by omega)).mono ?_); rintro eb wb ⟨hpb, hxb⟩; obtain ⟨pb, cb, rfl, hcb, hfb⟩ := hpb; obtain ⟨ub, rfl⟩ := after hxb; clear hxb; have sb := on_size ub; (try simp at sb); (try have nb1 : ¬ W0.heap.size = (on ub).heap.size := by omega); (try have nb2 : ¬ (on ub).heap.size = W0.heap.size := by omega); (try have nc1 : ¬ (on ua).heap.size = (on ub).heap.size := by omega); (try have nc2 : ¬ (on ub).heap.size = (on ua).heap.size := by omega); have fb : ∀ ad, pb = some ad → _ ∧ ad.block < (on ub).heap.size := fun ad h => ⟨(hfb ad h).1, by obtain ⟨_, _, _, cs, hh⟩ := hfb ad h; exact hz_lt hh⟩; (try simp at fb)))
        refine hK.out _ _ ?_ (fun hHeld => ?_)
        · ((try dsimp only); (exact hsafe _ (by repeat first | (with_reducible exact Below.refl _ _) | (with_reducible refine below_drew ?_) | (with_reducible refine below_on ?_ _) | (with_reducible refine below_alloc ?_ _) | (with_reducible refine below_set ?_ (by simp; try omega) _))))
        clear hK K
        try simp only [Act.put, List.setIfInBounds_toArray, List.set_cons_zero, List.set_cons_succ]
        refine wpAnyH_ready (rs := [6]) (by kernel_rfl) (by simp) ?_
        refine AllReadyH.cons (get_drop rfl) (fun K hK => ?_) AllReadyH.nil
        go_simp
        refine hK.out _ _ ?_ (fun hHeld => ?_)
        · ((try dsimp only); (exact hsafe _ (by repeat first | (with_reducible exact Below.refl _ _) | (with_reducible refine below_drew ?_) | (with_reducible refine below_on ?_ _) | (with_reducible refine below_alloc ?_ _) | (with_reducible refine below_set ?_ (by simp; try omega) _))))
        clear hK K
        try simp only [Act.put, List.setIfInBounds_toArray, List.set_cons_zero, List.set_cons_succ]
        refine wpAnyH_ready (rs := [7]) (by kernel_rfl) (by simp) ?_
        refine AllReadyH.cons (get_drop rfl) (fun K hK => ?_) AllReadyH.nil
        go_simp
        refine hK.out _ _ ?_ (fun hHeld => ?_)
        · ((try dsimp only); (exact hsafe _ (by repeat first | (with_reducible exact Below.refl _ _) | (with_reducible refine below_drew ?_) | (with_reducible refine below_on ?_ _) | (with_reducible refine below_alloc ?_ _) | (with_reducible refine below_set ?_ (by simp; try omega) _))))
        clear hK K
        try simp only [Act.put, List.setIfInBounds_toArray, List.set_cons_zero, List.set_cons_succ]
        refine wpAnyH_done (by kernel_rfl) ?_ _
        go_wp2_with fail
        exact ⟨_, _, pa, pb, ca, cb, ⟨rfl, rfl, rfl, rfl, rfl⟩, ⟨(by repeat first | (with_reducible refine hz_new ?_; first | (simp; done) | fail) | (with_reducible refine hz_drew ?_) | (with_reducible refine hz_on _ ?_) | (with_reducible refine hz_alloc ?_) | (with_reducible refine (Below.heap_setCell _ _ _ _ (by first | omega | (simp; done) | (simp; omega))).trans ?_) | (refine held_set3 (x0 := .int .i64 0) (x1 := .int .i64 0) (x2 := .slice none 0 0) ?_)), (by repeat first | (with_reducible refine hz_new ?_; first | (simp; done) | fail) | (with_reducible refine hz_drew ?_) | (with_reducible refine hz_on _ ?_) | (with_reducible refine hz_alloc ?_) | (with_reducible refine (Below.heap_setCell _ _ _ _ (by first | omega | (simp; done) | (simp; omega))).trans ?_) | (refine held_set3 (x0 := .int .i64 0) (x1 := .int .i64 0) (x2 := .slice none 0 0) ?_)), (by repeat first | (with_reducible exact hca) | (with_reducible refine Crs.set ?_ (fun ad h => by have := fa ad h; first | omega | (simp; omega)) _) | (with_reducible refine Crs.al ?_ _) | (with_reducible refine Crs.onl _ ?_) | (with_reducible refine Crs.dr ?_)), (by repeat first | (with_reducible exact hcb) | (with_reducible refine Crs.set ?_ (fun ad h => by have := fb ad h; first | omega | (simp; omega)) _) | (with_reducible refine Crs.al ?_ _) | (with_reducible refine Crs.onl _ ?_) | (with_reducible refine Crs.dr ?_)), (by repeat first | (with_reducible exact Below.refl _ _) | (with_reducible exact hB0) | (with_reducible refine below_drew ?_) | (with_reducible refine below_on ?_ _) | (with_reducible refine below_alloc ?_ _) | (with_reducible refine below_set ?_ (by simp; try omega) _)), lay_below hL (by repeat first | (with_reducible exact Below.refl _ _) | (with_reducible exact hB0) | (with_reducible refine below_drew ?_) | (with_reducible refine below_on ?_ _) | (with_reducible refine below_alloc ?_ _) | (with_reducible refine below_set ?_ (by simp; try omega) _)), hnA, hnB, hkA⟩, hin _ (by repeat first | (with_reducible exact Below.refl _ _) | (with_reducible refine below_drew ?_) | (with_reducible refine below_on ?_ _) | (with_reducible refine below_alloc ?_ _) | (with_reducible refine below_set ?_ (by simp; try omega) _)), rfl, rfl, by first | omega | (simp; done) | (simp; omega), by first | omega | (simp; done) | (simp; omega), (fun ad h => by have := fa ad h; exact ⟨by first | omega | (simp; omega), by first | omega | (simp; omega)⟩)⟩
    · skip
      go_simp
      refine hK.out _ _ ?_ (fun hHeld => ?_)
      · ((try dsimp only); (exact hsafe _ (by repeat first | (with_reducible exact Below.refl _ _) | (with_reducible refine below_drew ?_) | (with_reducible refine below_on ?_ _) | (with_reducible refine below_alloc ?_ _) | (with_reducible refine below_set ?_ (by simp; try omega) _))))
      clear hK K
      try simp only [Act.put, List.setIfInBounds_toArray, List.set_cons_zero, List.set_cons_succ]
      refine wpAnyH_ready (rs := [1]) (by kernel_rfl) (by simp) ?_
      refine AllReadyH.cons (get_drop rfl) (fun K hK => ?_) AllReadyH.nil
      go_simp
      (first | (go_at_call 17; (with_reducible refine (pof_any xW xH kx px nx cx _ (lay_below hL (by repeat first | (with_reducible exact Below.refl _ _) | (with_reducible exact hB0) | (with_reducible refine below_drew ?_) | (with_reducible refine below_on ?_ _) | (with_reducible refine below_alloc ?_ _) | (with_reducible refine below_set ?_ (by simp; try omega) _))) (Byts.below hbx (by repeat first | (with_reducible exact Below.refl _ _) | (with_reducible exact hB0) | (with_reducible refine below_drew ?_) | (with_reducible refine below_on ?_ _) | (with_reducible refine below_alloc ?_ _) | (with_reducible refine below_set ?_ (by simp; try omega) _))) (by omega) (by omega) (by omega)).mono ?_); rintro ea wa ⟨hpa, hxa⟩; obtain ⟨pa, ca, rfl, hca, hfa⟩ := hpa; obtain ⟨ua, rfl⟩ := after hxa; clear hxa; have sa := on_size ua; (try simp at sa); (try have na1 : ¬ W0.heap.size = (on ua).heap.size := by omega); (try have na2 : ¬ (on ua).heap.size = W0.heap.size := by omega); have fa : ∀ ad, pa = some ad → _ ∧ ad.block < (on ua).heap.size := fun ad h => ⟨(hfa ad h).1, by obtain ⟨_, _, _, cs, hh⟩ := hfa ad h; exact hz_lt hh⟩; (try simp at fa)))
      refine hK.out _ _ ?_ (fun hHeld => ?_)
      · ((try dsimp only); (exact hsafe _ (by repeat first | (with_reducible exact Below.refl _ _) | (with_reducible refine below_drew ?_) | (with_reducible refine below_on ?_ _) | (with_reducible refine below_alloc ?_ _) | (with_reducible refine below_set ?_ (by simp; try omega) _))))
      clear hK K
      try simp only [Act.put, List.setIfInBounds_toArray, List.set_cons_zero, List.set_cons_succ]
      refine wpAnyH_ready (rs := [3]) (by kernel_rfl) (by simp) ?_
      refine AllReadyH.cons (get_drop rfl) (fun K hK => ?_) AllReadyH.nil
      go_simp
      (first | (go_at_call 17; (with_reducible refine (pof_any yW yH ky py ny cy _ (lay_below hL (by repeat first | (with_reducible exact Below.refl _ _) | (with_reducible exact hB0) | (with_reducible refine below_drew ?_) | (with_reducible refine below_on ?_ _) | (with_reducible refine below_alloc ?_ _) | (with_reducible refine below_set ?_ (by simp; try omega) _))) (Byts.below hby (by repeat first | (with_reducible exact Below.refl _ _) | (with_reducible exact hB0) | (with_reducible refine below_drew ?_) | (with_reducible refine below_on ?_ _) | (with_reducible refine below_alloc ?_ _) | (with_reducible refine below_set ?_ (by simp; try omega) _))) (by omega) (by omega) (by omega)).mono ?_); rintro eb wb ⟨hpb, hxb⟩; obtain ⟨pb, cb, rfl, hcb, hfb⟩ := hpb; obtain ⟨ub, rfl⟩ := after hxb; clear hxb; have sb := on_size ub; (try simp at sb); (try have nb1 : ¬ W0.heap.size = (on ub).heap.size := by omega); (try have nb2 : ¬ (on ub).heap.size = W0.heap.size := by omega); (try have nc1 : ¬ (on ua).heap.size = (on ub).heap.size := by omega); (try have nc2 : ¬ (on ub).heap.size = (on ua).heap.size := by omega); have fb : ∀ ad, pb = some ad → _ ∧ ad.block < (on ub).heap.size := fun ad h => ⟨(hfb ad h).1, by obtain ⟨_, _, _, cs, hh⟩ := hfb ad h; exact hz_lt hh⟩; (try simp at fb)))
      refine hK.out _ _ ?_ (fun hHeld => ?_)
      · ((try dsimp only); (exact hsafe _ (by repeat first | (with_reducible exact Below.refl _ _) | (with_reducible refine below_drew ?_) | (with_reducible refine below_on ?_ _) | (with_reducible refine below_alloc ?_ _) | (with_reducible refine below_set ?_ (by simp; try omega) _))))
      clear hK K
      try simp only [Act.put, List.setIfInBounds_toArray, List.set_cons_zero, List.set_cons_succ]
      refine wpAnyH_ready (rs := [6]) (by kernel_rfl) (by simp) ?_
      refine AllReadyH.cons (get_drop rfl) (fun K hK => ?_) AllReadyH.nil
      go_simp
      refine hK.out _ _ ?_ (fun hHeld => ?_)
      · ((try dsimp only); (exact hsafe _ (by repeat first | (with_reducible exact Below.refl _ _) | (with_reducible refine below_drew ?_) | (with_reducible refine below_on ?_ _) | (with_reducible refine below_alloc ?_ _) | (with_reducible refine below_set ?_ (by simp; try omega) _))))
      clear hK K
      try simp only [Act.put, List.setIfInBounds_toArray, List.set_cons_zero, List.set_cons_succ]
      refine wpAnyH_ready (rs := [7]) (by kernel_rfl) (by simp) ?_
      refine AllReadyH.cons (get_drop rfl) (fun K hK => ?_) AllReadyH.nil
      go_simp
      refine hK.out _ _ ?_ (fun hHeld => ?_)
      · ((try dsimp only); (exact hsafe _ (by repeat first | (with_reducible exact Below.refl _ _) | (with_reducible refine below_drew ?_) | (with_reducible refine below_on ?_ _) | (with_reducible refine below_alloc ?_ _) | (with_reducible refine below_set ?_ (by simp; try omega) _))))
      clear hK K
      try simp only [Act.put, List.setIfInBounds_toArray, List.set_cons_zero, List.set_cons_succ]
      refine wpAnyH_done (by kernel_rfl) ?_ _
      go_wp2_with fail
      exact ⟨_, _, pa, pb, ca, cb, ⟨rfl, rfl, rfl, rfl, rfl⟩, ⟨(by repeat first | (with_reducible refine hz_new ?_; first | (simp; done) | fail) | (with_reducible refine hz_drew ?_) | (with_reducible refine hz_on _ ?_) | (with_reducible refine hz_alloc ?_) | (with_reducible refine (Below.heap_setCell _ _ _ _ (by first | omega | (simp; done) | (simp; omega))).trans ?_) | (refine held_set3 (x0 := .int .i64 0) (x1 := .int .i64 0) (x2 := .slice none 0 0) ?_)), (by repeat first | (with_reducible refine hz_new ?_; first | (simp; done) | fail) | (with_reducible refine hz_drew ?_) | (with_reducible refine hz_on _ ?_) | (with_reducible refine hz_alloc ?_) | (with_reducible refine (Below.heap_setCell _ _ _ _ (by first | omega | (simp; done) | (simp; omega))).trans ?_) | (refine held_set3 (x0 := .int .i64 0) (x1 := .int .i64 0) (x2 := .slice none 0 0) ?_)), (by repeat first | (with_reducible exact hca) | (with_reducible refine Crs.set ?_ (fun ad h => by have := fa ad h; first | omega | (simp; omega)) _) | (with_reducible refine Crs.al ?_ _) | (with_reducible refine Crs.onl _ ?_) | (with_reducible refine Crs.dr ?_)), (by repeat first | (with_reducible exact hcb) | (with_reducible refine Crs.set ?_ (fun ad h => by have := fb ad h; first | omega | (simp; omega)) _) | (with_reducible refine Crs.al ?_ _) | (with_reducible refine Crs.onl _ ?_) | (with_reducible refine Crs.dr ?_)), (by repeat first | (with_reducible exact Below.refl _ _) | (with_reducible exact hB0) | (with_reducible refine below_drew ?_) | (with_reducible refine below_on ?_ _) | (with_reducible refine below_alloc ?_ _) | (with_reducible refine below_set ?_ (by simp; try omega) _)), lay_below hL (by repeat first | (with_reducible exact Below.refl _ _) | (with_reducible exact hB0) | (with_reducible refine below_drew ?_) | (with_reducible refine below_on ?_ _) | (with_reducible refine below_alloc ?_ _) | (with_reducible refine below_set ?_ (by simp; try omega) _)), hnA, hnB, hkA⟩, hin _ (by repeat first | (with_reducible exact Below.refl _ _) | (with_reducible refine below_drew ?_) | (with_reducible refine below_on ?_ _) | (with_reducible refine below_alloc ?_ _) | (with_reducible refine below_set ?_ (by simp; try omega) _)), rfl, rfl, by first | omega | (simp; done) | (simp; omega), by first | omega | (simp; done) | (simp; omega), (fun ad h => by have := fa ad h; exact ⟨by first | omega | (simp; omega), by first | omega | (simp; omega)⟩)⟩
  · skip
    go_simp
    refine hK.out _ _ ?_ (fun hHeld => ?_)
    · ((try dsimp only); (exact hsafe _ (by repeat first | (with_reducible exact Below.refl _ _) | (with_reducible refine below_drew ?_) | (with_reducible refine below_on ?_ _) | (with_reducible refine below_alloc ?_ _) | (with_reducible refine below_set ?_ (by simp; try omega) _))))
    clear hK K
    try simp only [Act.put, List.setIfInBounds_toArray, List.set_cons_zero, List.set_cons_succ]
    refine wpAnyH_ready (rs := [1, 4]) (by kernel_rfl) (by simp) ?_
    refine AllReadyH.cons (get_drop rfl) (fun K hK => ?_) (AllReadyH.cons (get_drop rfl) (fun K hK => ?_) AllReadyH.nil)
    · skip
      go_simp
      (first | (go_at_call 17; (with_reducible refine (pof_any xW xH kx px nx cx _ (lay_below hL (by repeat first | (with_reducible exact Below.refl _ _) | (with_reducible exact hB0) | (with_reducible refine below_drew ?_) | (with_reducible refine below_on ?_ _) | (with_reducible refine below_alloc ?_ _) | (with_reducible refine below_set ?_ (by simp; try omega) _))) (Byts.below hbx (by repeat first | (with_reducible exact Below.refl _ _) | (with_reducible exact hB0) | (with_reducible refine below_drew ?_) | (with_reducible refine below_on ?_ _) | (with_reducible refine below_alloc ?_ _) | (with_reducible refine below_set ?_ (by simp; try omega) _))) (by omega) (by omega) (by omega)).mono ?_); rintro ea wa ⟨hpa, hxa⟩; obtain ⟨pa, ca, rfl, hca, hfa⟩ := hpa; obtain ⟨ua, rfl⟩ := after hxa; clear hxa; have sa := on_size ua; (try simp at sa); (try have na1 : ¬ W0.heap.size = (on ua).heap.size := by omega); (try have na2 : ¬ (on ua).heap.size = W0.heap.size := by omega); have fa : ∀ ad, pa = some ad → _ ∧ ad.block < (on ua).heap.size := fun ad h => ⟨(hfa ad h).1, by obtain ⟨_, _, _, cs, hh⟩ := hfa ad h; exact hz_lt hh⟩; (try simp at fa)))
      refine hK.out _ _ ?_ (fun hHeld => ?_)
      · ((try dsimp only); (exact hsafe _ (by repeat first | (with_reducible exact Below.refl _ _) | (with_reducible refine below_drew ?_) | (with_reducible refine below_on ?_ _) | (with_reducible refine below_alloc ?_ _) | (with_reducible refine below_set ?_ (by simp; try omega) _))))
      clear hK K
      try simp only [Act.put, List.setIfInBounds_toArray, List.set_cons_zero, List.set_cons_succ]
      refine wpAnyH_ready (rs := [3, 4]) (by kernel_rfl) (by simp) ?_
      refine AllReadyH.cons (get_drop rfl) (fun K hK => ?_) (AllReadyH.cons (get_drop rfl) (fun K hK => ?_) AllReadyH.nil)
      · skip
        go_simp
        (first | (go_at_call 17; (with_reducible refine (pof_any yW yH ky py ny cy _ (lay_below hL (by repeat first | (with_reducible exact Below.refl _ _) | (with_reducible exact hB0) | (with_reducible refine below_drew ?_) | (with_reducible refine below_on ?_ _) | (with_reducible refine below_alloc ?_ _) | (with_reducible refine below_set ?_ (by simp; try omega) _))) (Byts.below hby (by repeat first | (with_reducible exact Below.refl _ _) | (with_reducible exact hB0) | (with_reducible refine below_drew ?_) | (with_reducible refine below_on ?_ _) | (with_reducible refine below_alloc ?_ _) | (with_reducible refine below_set ?_ (by simp; try omega) _))) (by omega) (by omega) (by omega)).mono ?_); rintro eb wb ⟨hpb, hxb⟩; obtain ⟨pb, cb, rfl, hcb, hfb⟩ := hpb; obtain ⟨ub, rfl⟩ := after hxb; clear hxb; have sb := on_size ub; (try simp at sb); (try have nb1 : ¬ W0.heap.size = (on ub).heap.size := by omega); (try have nb2 : ¬ (on ub).heap.size = W0.heap.size := by omega); (try have nc1 : ¬ (on ua).heap.size = (on ub).heap.size := by omega); (try have nc2 : ¬ (on ub).heap.size = (on ua).heap.size := by omega); have fb : ∀ ad, pb = some ad → _ ∧ ad.block < (on ub).heap.size := fun ad h => ⟨(hfb ad h).1, by obtain ⟨_, _, _, cs, hh⟩ := hfb ad h; exact hz_lt hh⟩; (try simp at fb)))
        refine hK.out _ _ ?_ (fun hHeld => ?_)
        · ((try dsimp only); (exact hsafe _ (by repeat first | (with_reducible exact Below.refl _ _) | (with_reducible refine below_drew ?_) | (with_reducible refine below_on ?_ _) | (with_reducible refine below_alloc ?_ _) | (with_reducible refine below_set ?_ (by simp; try omega) _))))
        clear hK K
        try simp only [Act.put, List.setIfInBounds_toArray, List.set_cons_zero, List.set_cons_succ]
        refine wpAnyH_ready (rs := [4]) (by kernel_rfl) (by simp) ?_
        refine AllReadyH.cons (get_drop rfl) (fun K hK => ?_) AllReadyH.nil
        go_simp
        refine hK.out _ _ ?_ (fun hHeld => ?_)
        · ((try dsimp only); (exact hsafe _ (by repeat first | (with_reducible exact Below.refl _ _) | (with_reducible refine below_drew ?_) | (with_reducible refine below_on ?_ _) | (with_reducible refine below_alloc ?_ _) | (with_reducible refine below_set ?_ (by simp; try omega) _))))
        clear hK K
        try simp only [Act.put, List.setIfInBounds_toArray, List.set_cons_zero, List.set_cons_succ]
        refine wpAnyH_ready (rs := [6]) (by kernel_rfl) (by simp) ?_
        refine AllReadyH.cons (get_drop rfl) (fun K hK => ?_) AllReadyH.nil
        go_simp
        refine hK.out _ _ ?_ (fun hHeld => ?_)
        · ((try dsimp only); (exact hsafe _ (by repeat first | (with_reducible exact Below.refl _ _) | (with_reducible refine below_drew ?_) | (with_reducible refine below_on ?_ _) | (with_reducible refine below_alloc ?_ _) | (with_reducible refine below_set ?_ (by simp; try omega) _))))
        clear hK K
        try simp only [Act.put, List.setIfInBounds_toArray, List.set_cons_zero, List.set_cons_succ]
        refine wpAnyH_ready (rs := [7]) (by kernel_rfl) (by simp) ?_
        refine AllReadyH.cons (get_drop rfl) (fun K hK => ?_) AllReadyH.nil
        go_simp
        refine hK.out _ _ ?_ (fun hHeld => ?_)
        · ((try dsimp only); (exact hsafe _ (by repeat first | (with_reducible exact Below.refl _ _) | (with_reducible refine below_drew ?_) | (with_reducible refine below_on ?_ _) | (with_reducible refine below_alloc ?_ _) | (with_reducible refine below_set ?_ (by simp; try omega) _))))
        clear hK K
        try simp only [Act.put, List.setIfInBounds_toArray, List.set_cons_zero, List.set_cons_succ]
        refine wpAnyH_done (by kernel_rfl) ?_ _
        go_wp2_with fail
        exact ⟨_, _, pa, pb, ca, cb, ⟨rfl, rfl, rfl, rfl, rfl⟩, ⟨(by repeat first | (with_reducible refine hz_new ?_; first | (simp; done) | fail) | (with_reducible refine hz_drew ?_) | (with_reducible refine hz_on _ ?_) | (with_reducible refine hz_alloc ?_) | (with_reducible refine (Below.heap_setCell _ _ _ _ (by first | omega | (simp; done) | (simp; omega))).trans ?_) | (refine held_set3 (x0 := .int .i64 0) (x1 := .int .i64 0) (x2 := .slice none 0 0) ?_)), (by repeat first | (with_reducible refine hz_new ?_; first | (simp; done) | fail) | (with_reducible refine hz_drew ?_) | (with_reducible refine hz_on _ ?_) | (with_reducible refine hz_alloc ?_) | (with_reducible refine (Below.heap_setCell _ _ _ _ (by first | omega | (simp; done) | (simp; omega))).trans ?_) | (refine held_set3 (x0 := .int .i64 0) (x1 := .int .i64 0) (x2 := .slice none 0 0) ?_)), (by repeat first | (with_reducible exact hca) | (with_reducible refine Crs.set ?_ (fun ad h => by have := fa ad h; first | omega | (simp; omega)) _) | (with_reducible refine Crs.al ?_ _) | (with_reducible refine Crs.onl _ ?_) | (with_reducible refine Crs.dr ?_)), (by repeat first | (with_reducible exact hcb) | (with_reducible refine Crs.set ?_ (fun ad h => by have := fb ad h; first | omega | (simp; omega)) _) | (with_reducible refine Crs.al ?_ _) | (with_reducible refine Crs.onl _ ?_) | (with_reducible refine Crs.dr ?_)), (by repeat first | (with_reducible exact Below.refl _ _) | (with_reducible exact hB0) | (with_reducible refine below_drew ?_) | (with_reducible refine below_on ?_ _) | (with_reducible refine below_alloc ?_ _) | (with_reducible refine below_set ?_ (by simp; try omega) _)), lay_below hL (by repeat first | (with_reducible exact Below.refl _ _) | (with_reducible exact hB0) | (with_reducible refine below_drew ?_) | (with_reducible refine below_on ?_ _) | (with_reducible refine below_alloc ?_ _) | (with_reducible refine below_set ?_ (by simp; try omega) _)), hnA, hnB, hkA⟩, hin _ (by repeat first | (with_reducible exact Below.refl _ _) | (with_reducible refine below_drew ?_) | (with_reducible refine below_on ?_ _) | (with_reducible refine below_alloc ?_ _) | (with_reducible refine below_set ?_ (by simp; try omega) _)), rfl, rfl, by first | omega | (simp; done) | (simp; omega), by first | omega | (simp; done) | (simp; omega), (fun ad h => by have := fa ad h; exact ⟨by first | omega | (simp; omega), by first | omega | (simp; omega)⟩)⟩
      · skip
        go_simp
        refine hK.out _ _ ?_ (fun hHeld => ?_)
        · ((try dsimp only); (exact hsafe _ (by repeat first | (with_reducible exact Below.refl _ _) | (with_reducible refine below_drew ?_) | (with_reducible refine below_on ?_ _) | (with_reducible refine below_alloc ?_ _) | (with_reducible refine below_set ?_ (by simp; try omega) _))))
        clear hK K
        try simp only [Act.put, List.setIfInBounds_toArray, List.set_cons_zero, List.set_cons_succ]
        refine wpAnyH_ready (rs := [3]) (by kernel_rfl) (by simp) ?_
        refine AllReadyH.cons (get_drop rfl) (fun K hK => ?_) AllReadyH.nil
        go_simp
        (first | (go_at_call 17; (with_reducible refine (pof_any yW yH ky py ny cy _ (lay_below hL (by repeat first | (with_reducible exact Below.refl _ _) | (with_reducible exact hB0) | (with_reducible refine below_drew ?_) | (with_reducible refine below_on ?_ _) | (with_reducible refine below_alloc ?_ _) | (with_reducible refine below_set ?_ (by simp; try omega) _))) (Byts.below hby (by repeat first | (with_reducible exact Below.refl _ _) | (with_reducible exact hB0) | (with_reducible refine below_drew ?_) | (with_reducible refine below_on ?_ _) | (with_reducible refine below_alloc ?_ _) | (with_reducible refine below_set ?_ (by simp; try omega) _))) (by omega) (by omega) (by omega)).mono ?_); rintro eb wb ⟨hpb, hxb⟩; obtain ⟨pb, cb, rfl, hcb, hfb⟩ := hpb; obtain ⟨ub, rfl⟩ := after hxb; clear hxb; have sb := on_size ub; (try simp at sb); (try have nb1 : ¬ W0.heap.size = (on ub).heap.size := by omega); (try have nb2 : ¬ (on ub).heap.size = W0.heap.size := by omega); (try have nc1 : ¬ (on ua).heap.size = (on ub).heap.size := by omega); (try have nc2 : ¬ (on ub).heap.size = (on ua).heap.size := by omega); have fb : ∀ ad, pb = some ad → _ ∧ ad.block < (on ub).heap.size := fun ad h => ⟨(hfb ad h).1, by obtain ⟨_, _, _, cs, hh⟩ := hfb ad h; exact hz_lt hh⟩; (try simp at fb)))
        refine hK.out _ _ ?_ (fun hHeld => ?_)
        · ((try dsimp only); (exact hsafe _ (by repeat first | (with_reducible exact Below.refl _ _) | (with_reducible refine below_drew ?_) | (with_reducible refine below_on ?_ _) | (with_reducible refine below_alloc ?_ _) | (with_reducible refine below_set ?_ (by simp; try omega) _))))
        clear hK K
        try simp only [Act.put, List.setIfInBounds_toArray, List.set_cons_zero, List.set_cons_succ]
        refine wpAnyH_ready (rs := [6]) (by kernel_rfl) (by simp) ?_
        refine AllReadyH.cons (get_drop rfl) (fun K hK => ?_) AllReadyH.nil
        go_simp
        refine hK.out _ _ ?_ (fun hHeld => ?_)
        · ((try dsimp only); (exact hsafe _ (by repeat first | (with_reducible exact Below.refl _ _) | (with_reducible refine below_drew ?_) | (with_reducible refine below_on ?_ _) | (with_reducible refine below_alloc ?_ _) | (with_reducible refine below_set ?_ (by simp; try omega) _))))
        clear hK K
        try simp only [Act.put, List.setIfInBounds_toArray, List.set_cons_zero, List.set_cons_succ]
        refine wpAnyH_ready (rs := [7]) (by kernel_rfl) (by simp) ?_
        refine AllReadyH.cons (get_drop rfl) (fun K hK => ?_) AllReadyH.nil
        go_simp
        refine hK.out _ _ ?_ (fun hHeld => ?_)
        · ((try dsimp only); (exact hsafe _ (by repeat first | (with_reducible exact Below.refl _ _) | (with_reducible refine below_drew ?_) | (with_reducible refine below_on ?_ _) | (with_reducible refine below_alloc ?_ _) | (with_reducible refine below_set ?_ (by simp; try omega) _))))
        clear hK K
        try simp only [Act.put, List.setIfInBounds_toArray, List.set_cons_zero, List.set_cons_succ]
        refine wpAnyH_done (by kernel_rfl) ?_ _
        go_wp2_with fail
        exact ⟨_, _, pa, pb, ca, cb, ⟨rfl, rfl, rfl, rfl, rfl⟩, ⟨(by repeat first | (with_reducible refine hz_new ?_; first | (simp; done) | fail) | (with_reducible refine hz_drew ?_) | (with_reducible refine hz_on _ ?_) | (with_reducible refine hz_alloc ?_) | (with_reducible refine (Below.heap_setCell _ _ _ _ (by first | omega | (simp; done) | (simp; omega))).trans ?_) | (refine held_set3 (x0 := .int .i64 0) (x1 := .int .i64 0) (x2 := .slice none 0 0) ?_)), (by repeat first | (with_reducible refine hz_new ?_; first | (simp; done) | fail) | (with_reducible refine hz_drew ?_) | (with_reducible refine hz_on _ ?_) | (with_reducible refine hz_alloc ?_) | (with_reducible refine (Below.heap_setCell _ _ _ _ (by first | omega | (simp; done) | (simp; omega))).trans ?_) | (refine held_set3 (x0 := .int .i64 0) (x1 := .int .i64 0) (x2 := .slice none 0 0) ?_)), (by repeat first | (with_reducible exact hca) | (with_reducible refine Crs.set ?_ (fun ad h => by have := fa ad h; first | omega | (simp; omega)) _) | (with_reducible refine Crs.al ?_ _) | (with_reducible refine Crs.onl _ ?_) | (with_reducible refine Crs.dr ?_)), (by repeat first | (with_reducible exact hcb) | (with_reducible refine Crs.set ?_ (fun ad h => by have := fb ad h; first | omega | (simp; omega)) _) | (with_reducible refine Crs.al ?_ _) | (with_reducible refine Crs.onl _ ?_) | (with_reducible refine Crs.dr ?_)), (by repeat first | (with_reducible exact Below.refl _ _) | (with_reducible exact hB0) | (with_reducible refine below_drew ?_) | (with_reducible refine below_on ?_ _) | (with_reducible refine below_alloc ?_ _) | (with_reducible refine below_set ?_ (by simp; try omega) _)), lay_below hL (by repeat first | (with_reducible exact Below.refl _ _) | (with_reducible exact hB0) | (with_reducible refine below_drew ?_) | (with_reducible refine below_on ?_ _) | (with_reducible refine below_alloc ?_ _) | (with_reducible refine below_set ?_ (by simp; try omega) _)), hnA, hnB, hkA⟩, hin _ (by repeat first | (with_reducible exact Below.refl _ _) | (with_reducible refine below_drew ?_) | (with_reducible refine below_on ?_ _) | (with_reducible refine below_alloc ?_ _) | (with_reducible refine below_set ?_ (by simp; try omega) _)), rfl, rfl, by first | omega | (simp; done) | (simp; omega), by first | omega | (simp; done) | (simp; omega), (fun ad h => by have := fa ad h; exact ⟨by first | omega | (simp; omega), by first | omega | (simp; omega)⟩)⟩
    · skip
      go_simp
      refine hK.out _ _ ?_ (fun hHeld => ?_)
      · ((try dsimp only); (exact hsafe _ (by repeat first | (with_reducible exact Below.refl _ _) | (with_reducible refine below_drew ?_) | (with_reducible refine below_on ?_ _) | (with_reducible refine below_alloc ?_ _) | (with_reducible refine below_set ?_ (by simp; try omega) _))))
      clear hK K
      try simp only [Act.put, List.setIfInBounds_toArray, List.set_cons_zero, List.set_cons_succ]
      refine wpAnyH_ready (rs := [1]) (by kernel_rfl) (by simp) ?_
      refine AllReadyH.cons (get_drop rfl) (fun K hK => ?_) AllReadyH.nil
      go_simp
      (first | (go_at_call 17; (with_reducible refine (pof_any xW xH kx px nx cx _ (lay_below hL (by repeat first | (with_reducible exact Below.refl _ _) | (with_reducible exact hB0) | (with_reducible refine below_drew ?_) | (with_reducible refine below_on ?_ _) | (with_reducible refine below_alloc ?_ _) | (with_reducible refine below_set ?_ (by simp; try omega) _))) (Byts.below hbx (by repeat first | (with_reducible exact Below.refl _ _) | (with_reducible exact hB0) | (with_reducible refine below_drew ?_) | (with_reducible refine below_on ?_ _) | (with_reducible refine below_alloc ?_ _) | (with_reducible refine below_set ?_ (by simp; try omega) _))) (by omega) (by omega) (by omega)).mono ?_); rintro ea wa ⟨hpa, hxa⟩; obtain ⟨pa, ca, rfl, hca, hfa⟩ := hpa; obtain ⟨ua, rfl⟩ := after hxa; clear hxa; have sa := on_size ua; (try simp at sa); (try have na1 : ¬ W0.heap.size = (on ua).heap.size := by omega); (try have na2 : ¬ (on ua).heap.size = W0.heap.size := by omega); have fa : ∀ ad, pa = some ad → _ ∧ ad.block < (on ua).heap.size := fun ad h => ⟨(hfa ad h).1, by obtain ⟨_, _, _, cs, hh⟩ := hfa ad h; exact hz_lt hh⟩; (try simp at fa)))
      refine hK.out _ _ ?_ (fun hHeld => ?_)
      · ((try dsimp only); (exact hsafe _ (by repeat first | (with_reducible exact Below.refl _ _) | (with_reducible refine below_drew ?_) | (with_reducible refine below_on ?_ _) | (with_reducible refine below_alloc ?_ _) | (with_reducible refine below_set ?_ (by simp; try omega) _))))
      clear hK K
      try simp only [Act.put, List.setIfInBounds_toArray, List.set_cons_zero, List.set_cons_succ]
      refine wpAnyH_ready (rs := [3]) (by kernel_rfl) (by simp) ?_
      refine AllReadyH.cons (get_drop rfl) (fun K hK => ?_) AllReadyH.nil
      go_simp
      (first | (go_at_call 17; (with_reducible refine (pof_any yW yH ky py ny cy _ (lay_below hL (by repeat first | (with_reducible exact Below.refl _ _) | (with_reducible exact hB0) | (with_reducible refine below_drew ?_) | (with_reducible refine below_on ?_ _) | (with_reducible refine below_alloc ?_ _) | (with_reducible refine below_set ?_ (by simp; try omega) _))) (Byts.below hby (by repeat first | (with_reducible exact Below.refl _ _) | (with_reducible exact hB0) | (with_reducible refine below_drew ?_) | (with_reducible refine below_on ?_ _) | (with_reducible refine below_alloc ?_ _) | (with_reducible refine below_set ?_ (by simp; try omega) _))) (by omega) (by omega) (by omega)).mono ?_); rintro eb wb ⟨hpb, hxb⟩; obtain ⟨pb, cb, rfl, hcb, hfb⟩ := hpb; obtain ⟨ub, rfl⟩ := after hxb; clear hxb; have sb := on_size ub; (try simp at sb); (try have nb1 : ¬ W0.heap.size = (on ub).heap.size := by omega); (try have nb2 : ¬ (on ub).heap.size = W0.heap.size := by omega); (try have nc1 : ¬ (on ua).heap.size = (on ub).heap.size := by omega); (try have nc2 : ¬ (on ub).heap.size = (on ua).heap.size := by omega); have fb : ∀ ad, pb = some ad → _ ∧ ad.block < (on ub).heap.size := fun ad h => ⟨(hfb ad h).1, by obtain ⟨_, _, _, cs, hh⟩ := hfb ad h; exact hz_lt hh⟩; (try simp at fb)))
      refine hK.out _ _ ?_ (fun hHeld => ?_)
      · ((try dsimp only); (exact hsafe _ (by repeat first | (with_reducible exact Below.refl _ _) | (with_reducible refine below_drew ?_) | (with_reducible refine below_on ?_ _) | (with_reducible refine below_alloc ?_ _) | (with_reducible refine below_set ?_ (by simp; try omega) _))))
      clear hK K
      try simp only [Act.put, List.setIfInBounds_toArray, List.set_cons_zero, List.set_cons_succ]
      refine wpAnyH_ready (rs := [6]) (by kernel_rfl) (by simp) ?_
      refine AllReadyH.cons (get_drop rfl) (fun K hK => ?_) AllReadyH.nil
      go_simp
      refine hK.out _ _ ?_ (fun hHeld => ?_)
      · ((try dsimp only); (exact hsafe _ (by repeat first | (with_reducible exact Below.refl _ _) | (with_reducible refine below_drew ?_) | (with_reducible refine below_on ?_ _) | (with_reducible refine below_alloc ?_ _) | (with_reducible refine below_set ?_ (by simp; try omega) _))))
      clear hK K
      try simp only [Act.put, List.setIfInBounds_toArray, List.set_cons_zero, List.set_cons_succ]
      refine wpAnyH_ready (rs := [7]) (by kernel_rfl) (by simp) ?_
      refine AllReadyH.cons (get_drop rfl) (fun K hK => ?_) AllReadyH.nil
      go_simp
      refine hK.out _ _ ?_ (fun hHeld => ?_)
      · ((try dsimp only); (exact hsafe _ (by repeat first | (with_reducible exact Below.refl _ _) | (with_reducible refine below_drew ?_) | (with_reducible refine below_on ?_ _) | (with_reducible refine below_alloc ?_ _) | (with_reducible refine below_set ?_ (by simp; try omega) _))))
      clear hK K
      try simp only [Act.put, List.setIfInBounds_toArray, List.set_cons_zero, List.set_cons_succ]
      refine wpAnyH_done (by kernel_rfl) ?_ _
      go_wp2_with fail
      exact ⟨_, _, pa, pb, ca, cb, ⟨rfl, rfl, rfl, rfl, rfl⟩, ⟨(by repeat first | (with_reducible refine hz_new ?_; first | (simp; done) | fail) | (with_reducible refine hz_drew ?_) | (with_reducible refine hz_on _ ?_) | (with_reducible refine hz_alloc ?_) | (with_reducible refine (Below.heap_setCell _ _ _ _ (by first | omega | (simp; done) | (simp; omega))).trans ?_) | (refine held_set3 (x0 := .int .i64 0) (x1 := .int .i64 0) (x2 := .slice none 0 0) ?_)), (by repeat first | (with_reducible refine hz_new ?_; first | (simp; done) | fail) | (with_reducible refine hz_drew ?_) | (with_reducible refine hz_on _ ?_) | (with_reducible refine hz_alloc ?_) | (with_reducible refine (Below.heap_setCell _ _ _ _ (by first | omega | (simp; done) | (simp; omega))).trans ?_) | (refine held_set3 (x0 := .int .i64 0) (x1 := .int .i64 0) (x2 := .slice none 0 0) ?_)), (by repeat first | (with_reducible exact hca) | (with_reducible refine Crs.set ?_ (fun ad h => by have := fa ad h; first | omega | (simp; omega)) _) | (with_reducible refine Crs.al ?_ _) | (with_reducible refine Crs.onl _ ?_) | (with_reducible refine Crs.dr ?_)), (by repeat first | (with_reducible exact hcb) | (with_reducible refine Crs.set ?_ (fun ad h => by have := fb ad h; first | omega | (simp; omega)) _) | (with_reducible refine Crs.al ?_ _) | (with_reducible refine Crs.onl _ ?_) | (with_reducible refine Crs.dr ?_)), (by repeat first | (with_reducible exact Below.refl _ _) | (with_reducible exact hB0) | (with_reducible refine below_drew ?_) | (with_reducible refine below_on ?_ _) | (with_reducible refine below_alloc ?_ _) | (with_reducible refine below_set ?_ (by simp; try omega) _)), lay_below hL (by repeat first | (with_reducible exact Below.refl _ _) | (with_reducible exact hB0) | (with_reducible refine below_drew ?_) | (with_reducible refine below_on ?_ _) | (with_reducible refine below_alloc ?_ _) | (with_reducible refine below_set ?_ (by simp; try omega) _)), hnA, hnB, hkA⟩, hin _ (by repeat first | (with_reducible exact Below.refl _ _) | (with_reducible refine below_drew ?_) | (with_reducible refine below_on ?_ _) | (with_reducible refine below_alloc ?_ _) | (with_reducible refine below_set ?_ (by simp; try omega) _)), rfl, rfl, by first | omega | (simp; done) | (simp; omega), by first | omega | (simp; done) | (simp; omega), (fun ad h => by have := fa ad h; exact ⟨by first | omega | (simp; omega), by first | omega | (simp; omega)⟩)⟩

end Go.Proofs.YtdnekeegpenioaaDoor
