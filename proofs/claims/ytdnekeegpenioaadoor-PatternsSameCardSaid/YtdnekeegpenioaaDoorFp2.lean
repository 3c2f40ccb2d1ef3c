/-
  Says: a piece of PatternsSame.
-/
import Derived.Test.YtdnekeegpenioaaDoorFr3
import Derived.Deep.RegionHeld3
import Derived.RowKit3
import Derived.BigQuiet
import Derived.Deep.QuietTactic
import Derived.BigRegion
set_option linter.unusedVariables false
set_option linter.unusedSimpArgs false
namespace Go.Proofs.YtdnekeegpenioaaDoor
open Go Go.RowKit

attribute [local go_sem] World.cell?_alloc_some frozen?_alloc_cells fz0 fz1 fz2 fz3 fz4 fz5

set_option maxRecDepth 100000 in
set_option maxHeartbeats 4000000 in
theorem fr2 (xW xH yW yH h0 h1 : Int) (kx ky : Nat → Int) (px py : Option Addr) (nx cx ny cy : Nat) (w : World) (hL : Lay w) (hbx : Byts w px nx kx) (hby : Byts w py ny ky) (x1 : 0 ≤ xW) (x2 : 0 ≤ xH) (y1 : 0 ≤ yW) (y2 : 0 ≤ yH) (hnx : (nx : Int) ≤ 9223372036854775807) (hny : (ny : Int) ≤ 9223372036854775807) (g0 : 0 ≤ h0) (g1 : h0 ≤ 255) (g2 : 0 ≤ h1) (g3 : h1 ≤ 255) (a : Act) (W : World) (hP : P1 xW xH yW yH h0 h1 kx ky px py nx cx ny cy w a W) :
    (sq 2 (bodyOf Tryd.f6)).wp Tryd.prog (fun e a' W' => e = .normal ∧ P2 w a' W') a W := by
  obtain ⟨b7, b8, pa, pb, ca, cb, hS, hAB, hIn, s3, s5, hne, hb8, hda⟩ := hP
  obtain ⟨p0, p1, p2, p3, p4, p5, p6, p7, hWw, hsz0⟩ := hIn
  obtain ⟨hsz, hdf, s6, s7, s8⟩ := hS
  obtain ⟨tm, dfs⟩ := a
  simp only at hsz hdf
  subst hdf
  obtain ⟨g_, rfl⟩ := lit191 tm hsz
  replace s6 : g_ 6 = .bool false := s6
  replace s7 : g_ 7 = .pointer (some ⟨b7, 0, none⟩) := s7
  replace s8 : g_ 8 = .pointer (some ⟨b8, 0, none⟩) := s8
  clear hsz
  replace s3 : g_ 3 = .pointer (some ⟨w.heap.size, 0, none⟩) := s3
  replace s5 : g_ 5 = .pointer (some ⟨w.heap.size + 1 + 1, 0, none⟩) := s5
  have hAB0 := hAB
  obtain ⟨h7, h8, hca, hcb, hW, hLW, hnA, hnB, hkA⟩ := hAB
  have hL0 := hL
  clear hL
  have hL := hLW
  have hbx1 : Byts W px nx kx := Byts.below hbx hW
  have a2 : W.cell? ⟨b7, 2, none⟩ = some (.slice pa (pN (pW xW) (pW xH) nx kx) ca) := held_cell h7 2
  have d0 := held_cell h8 0
  have d1 := held_cell h8 1
  have d2 := held_cell h8 2
  have z0 := held_free h8 0
  have z1 := held_free h8 1
  have z2 := held_free h8 2
  simp only [sq, bodyOf, Tryd.f6]
  simp only [s3, s5, s6, s7, s8]
  clear hbx hby p3 p4 p5 hLW
  by_cases q1 : 0 < h0 % 3
  · by_cases hna : 0 < pN (pW xW) (pW xH) nx kx
    · have q3 : (0 : Int) < (pN (pW xW) (pW xH) nx kx : Nat) := by omega
      obtain ⟨ix, hix, hixl⟩ : ∃ ix : Nat, h1 % (pN (pW xW) (pW xH) nx kx : Nat) = ix ∧ ix < pN (pW xW) (pW xH) nx kx := by
        refine ⟨h1.toNat % pN (pW xW) (pW xH) nx kx, ?_, Nat.mod_lt _ hna⟩
        have e := Int.toNat_of_nonneg g2
        rw [Int.natCast_emod, e]
      have hn0 : ¬ ((pN (pW xW) (pW xH) nx kx : Nat) : Int) = 0 := by omega
      have v1 : 0 ≤ h0 / 3 % 3 := by omega
      have v2 : h0 / 3 % 3 ≤ 2 := by omega
      have hixl' : (ix : Int) < (pN (pW xW) (pW xH) nx kx : Nat) := by omega
      have l7 := hz_lt h7
      have l8 := hz_lt h8
      go_wp2_with (first | (go_at_call 17; (with_reducible refine (pof_any xW xH kx px nx cx _ hL hbx1 (by omega) (by omega) (by omega)).mono ?_); rintro e wy ⟨hp, hy⟩; obtain ⟨pc, cc, rfl, hcc, hfc⟩ := hp; obtain ⟨gb, gof, rfl, hgc⟩ := hcc hna; obtain ⟨hg1, hg2, hg3, gcs, hg4⟩ := hfc _ rfl; simp only at hg1; simp only at hg2; subst hg2; have w0 := cRy hy d0; have w1 := cRy hy d1; have w2 := cRy hy d2; have y0 := (hy.frozen (World.block_lt_of_cell? _ _ d0)).trans z0; have y1 := (hy.frozen (World.block_lt_of_cell? _ _ d1)).trans z1; have y2 := (hy.frozen (World.block_lt_of_cell? _ _ d2)).trans z2; have i6 := cRy hy p6; have i7 := cRy hy p7; obtain ⟨gc0, gc1, gc2⟩ := hgc ix hixl; rw [Nat.zero_add] at gc2; have gz := held_free hg4 (ix * 3 + 2); clear gc0 gc1; have gne : ¬ gb = b8 := (by omega); have gne2 : ¬ b8 = gb := (by omega)) | fail)
      have hab : ∀ ad, pa = some ad → ad.block < W.heap.size := fun ad h => by
        obtain ⟨ab, ao, h', hh⟩ := hca hna
        have e := Option.some.inj (h.symm.trans h')
        rw [e]
        exact World.block_lt_of_cell? _ _ (hh 0 hna).1
      have n8 : ∀ ad, pa = some ad → ad.block ≠ b8 := fun ad h => (hda ad h).2
      have ng : ∀ ad, pa = some ad → ad.block ≠ gb := fun ad h => by have := hab ad h; omega
      have hBe : Below w.heap.size w ((((wy.setCell ⟨b8, 0, none⟩ (.int .i64 (pW xW : Nat))).setCell ⟨b8, 1, none⟩ (.int .i64 (pW xH : Nat))).setCell ⟨b8, 2, none⟩ (.slice (some ⟨gb, 0, none⟩) (pN (pW xW) (pW xH) nx kx) cc)).setCell ⟨gb, ix * 3 + 2, none⟩ (.int .u8 (1 + h0 / 3 % 3))) := ((((hW.trans (hy.mono hW.size)).setCell (p := ⟨b8, 0, none⟩) (show w.heap.size ≤ b8 by omega) _).setCell (p := ⟨b8, 1, none⟩) (show w.heap.size ≤ b8 by omega) _).setCell (p := ⟨b8, 2, none⟩) (show w.heap.size ≤ b8 by omega) _).setCell (p := ⟨gb, ix * 3 + 2, none⟩) (by have := hW.size; show _ ≤ gb; omega) _
      first
        | exact ⟨b7, b8, pa, some ⟨gb, 0, none⟩, ((pW xW : Nat) : Int), ((pW xH : Nat) : Int), ((pW xW : Nat) : Int), ((pW xH : Nat) : Int), pN (pW xW) (pW xH) nx kx, ca, pN (pW xW) (pW xH) nx kx, cc, _, _, _, pC (pW xW) (pW xH) nx kx, pE (pW xW) (pW xH) nx kx, fun j => if j = ix then 1 + h0 / 3 % 3 else pK (pW xW) (pW xH) nx kx j, ⟨rfl, rfl, rfl, rfl, rfl⟩, (by rw [Below.heap_setCell _ _ _ _ (show b7 ≠ gb by omega), Below.heap_setCell _ _ _ _ hne, Below.heap_setCell _ _ _ _ hne, Below.heap_setCell _ _ _ _ hne]; exact (hy.block _ l7).trans h7), (by rw [Below.heap_setCell _ _ _ _ (show b8 ≠ gb by omega)]; exact held_set3 ((hy.block _ l8).trans h8)), ((((hca.below hy).set n8 _).set n8 _).set n8 _).set ng _, Crs.setK ((((show Crs wy (some ⟨gb, 0, none⟩) _ _ _ _ from fun _ => ⟨gb, 0, rfl, hgc⟩).set (fun ad h => by cases h; exact gne) _).set (fun ad h => by cases h; exact gne) _).set (fun ad h => by cases h; exact gne) _) ix _, hBe, lay_below hL0 hBe, hnA, hnA, hkA⟩
    · have q3 : ¬ (0 : Int) < (pN (pW xW) (pW xH) nx kx : Nat) := by omega
      go_wp2_with fail
      first | exact ⟨b7, b8, pa, pb, _, _, _, _, _, _, _, _, _, _, _, _, _, _, ⟨rfl, rfl, rfl, rfl, rfl⟩, hAB0⟩
  · go_wp2_with fail
    first | exact ⟨b7, b8, pa, pb, _, _, _, _, _, _, _, _, _, _, _, _, _, _, ⟨rfl, rfl, rfl, rfl, rfl⟩, hAB0⟩

end Go.Proofs.YtdnekeegpenioaaDoor
