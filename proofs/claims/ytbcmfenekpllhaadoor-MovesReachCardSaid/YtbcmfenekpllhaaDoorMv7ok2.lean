/-
  Says: what Line of package moves gives where the image is of kind 2.
-/
import Derived.Test.YtbcmfenekpllhaaDoorMv7a
import Derived.Test.YtbcmfenekpllhaaDoorMv6
import Derived.Test.YtbcmfenekpllhaaDoorFnT
import Derived.Test.YtbcmfenekpllhaaDoorFnS
import Derived.Test.YtbcmfenekpllhaaDoorMvz
import Derived.Deep.RegionHeld3
import Derived.RowKit3
set_option linter.unusedVariables false
set_option linter.unusedSimpArgs false
namespace Go.Proofs.YtbcmfenekpllhaaDoor
open Go Go.RowKit

attribute [local go_sem] World.cell?_alloc_some frozen?_alloc_cells fz0 fz1 fz2 fz3 fz4 fz5

set_option maxRecDepth 100000 in
set_option maxHeartbeats 2000000 in
theorem line_ok2 (t X Y k c px py qx qy : Int) (w : World) (hU : Turns w) (a1 : 0 ≤ t) (a2 : t ≤ 7) (a3 : -16384 ≤ X) (a4 : X ≤ 16384) (a5 : -16384 ≤ Y) (a6 : Y ≤ 16384) (a7 : (X + Y) % 2 = 0) (h1 : 1 ≤ k) (h2 : k ≤ 4) (h3 : -4096 ≤ c) (h4 : c ≤ 4096)
    (e1 : px = mvx t (lx1 k c) (ly1 k c) + X) (e2 : py = mvy t (lx1 k c) (ly1 k c) + Y) (e3 : qx = mvx t (lx2 k c) (ly2 k c) + X) (e4 : qy = mvy t (lx2 k c) (ly2 k c) + Y)
    (hg : qy = py) (n1 : qx ≠ px) (n3 : qx + qy ≠ px + py) (n4 : qy - qx ≠ py - px) (m1 : -4096 ≤ py) (m2 : py ≤ 4096) :
    Calls Tryd.prog 59 #[mv t X Y, ln k c] w fun e w' => e = .returned (.tuple #[ln 2 (py), .int .i64 0]) ∧ Below w.heap.size w w' := by
  have hU' : ∀ W, Below w.heap.size w W → Turns W := fun W h => turns_below hU h
  have r1 := lp_range k c h1 h2 h3 h4
  have TA : ∀ W, Turns W → Calls Tryd.prog 63 #[mv t (2 * X) (2 * Y), pt (2 * lx1 k c) (2 * ly1 k c)] W fun e w' => e = .returned (pt (2 * px) (2 * py)) ∧ Below W.heap.size W w' := fun W h => by
    have := take_any t (2 * X) (2 * Y) (2 * lx1 k c) (2 * ly1 k c) W h a1 a2 (by omega) (by omega) (by omega) (by omega) (by omega) (by omega) (by omega) (by omega)
    rwa [mvx_two _ _ _ a1 a2, mvy_two _ _ _ a1 a2, show 2 * mvx t (lx1 k c) (ly1 k c) + 2 * X = 2 * px by omega, show 2 * mvy t (lx1 k c) (ly1 k c) + 2 * Y = 2 * py by omega] at this
  have TB : ∀ W, Turns W → Calls Tryd.prog 63 #[mv t (2 * X) (2 * Y), pt (2 * lx2 k c) (2 * ly2 k c)] W fun e w' => e = .returned (pt (2 * qx) (2 * qy)) ∧ Below W.heap.size W w' := fun W h => by
    have := take_any t (2 * X) (2 * Y) (2 * lx2 k c) (2 * ly2 k c) W h a1 a2 (by omega) (by omega) (by omega) (by omega) (by omega) (by omega) (by omega) (by omega)
    rwa [mvx_two _ _ _ a1 a2, mvy_two _ _ _ a1 a2, show 2 * mvx t (lx2 k c) (ly2 k c) + 2 * X = 2 * qx by omega, show 2 * mvy t (lx2 k c) (ly2 k c) + 2 * Y = 2 * qy by omega] at this
  have s1 := mvx_range 4100 t (lx1 k c) (ly1 k c) a1 a2 (by omega) (by omega) (by omega) (by omega)
  have s2 := mvy_range 4100 t (lx1 k c) (ly1 k c) a1 a2 (by omega) (by omega) (by omega) (by omega)
  have s3 := mvx_range 4100 t (lx2 k c) (ly2 k c) a1 a2 (by omega) (by omega) (by omega) (by omega)
  have s4 := mvy_range 4100 t (lx2 k c) (ly2 k c) a1 a2 (by omega) (by omega) (by omega) (by omega)
  have g1 : -21000 ≤ px ∧ px ≤ 21000 := by omega
  have g2 : -21000 ≤ py ∧ py ≤ 21000 := by omega
  have g3 : -21000 ≤ qx ∧ qx ≤ 21000 := by omega
  have g4 : -21000 ≤ qy ∧ qy ≤ 21000 := by omega
  clear e1 e2 e3 e4 r1 s1 s2 s3 s4
  obtain ⟨g1, g1'⟩ := g1
  obtain ⟨g2, g2'⟩ := g2
  obtain ⟨g3, g3'⟩ := g3
  obtain ⟨g4, g4'⟩ := g4
  have HG : Hid (qy = py) := hg
  clear hg
  have HA : Hid ((X + Y) % 2 = 0) := a7
  clear a7
  have N1 : Hid (qx ≠ px) := n1
  clear n1
  have N3 : Hid (qx + qy ≠ px + py) := n3
  clear n3
  have N4 : Hid (qy - qx ≠ py - px) := n4
  clear n4
  go_enter Tryd.func59, Tryd.ntmps59
  go_wp2_with (first | (go_at_call 34; with_reducible refine (mcheck_ok t X Y _ a1 a2 a3 a4 a5 a6 HA.out).mono ?_; rintro e wx ⟨rfl, hx⟩; obtain ⟨ux, rfl⟩ := after hx; clear hx) | (go_at_call 42; with_reducible refine (check_ok k c _ h1 h2 h3 h4).mono ?_; rintro e wx ⟨rfl, hx⟩; obtain ⟨ux, rfl⟩ := after hx; clear hx) | (go_at_call 60; with_reducible refine (inHalves_any t X Y _ a1 a2 a3 a4 a5 a6).mono ?_; rintro e wx ⟨rfl, hx⟩; obtain ⟨ux, rfl⟩ := after hx; clear hx) | (go_at_call 86; with_reducible refine (tpts_any k c _ h1 h2 h3 h4).mono ?_; rintro e wx ⟨rfl, hx⟩; obtain ⟨ux, rfl⟩ := after hx; clear hx) | fail)
  have hR : Below (((w.alloc (.cells #[.int .u8 t, .int .i64 X, .int .i64 Y] 51)).alloc (.cells #[.int .u8 k, .int .i64 c] 24)).alloc (.cells #[.int .u8 0, .int .i64 0] 24)).heap.size (((w.alloc (.cells #[.int .u8 t, .int .i64 X, .int .i64 Y] 51)).alloc (.cells #[.int .u8 k, .int .i64 c] 24)).alloc (.cells #[.int .u8 0, .int .i64 0] 24)) (((on ux).alloc (.cells #[.int .i64 (2 * lx1 k c), .int .i64 (2 * ly1 k c)] 31)).alloc (.cells #[.int .i64 (2 * lx2 k c), .int .i64 (2 * ly2 k c)] 31)) := by repeat first | (with_reducible exact Below.refl _ _) | (with_reducible refine below_on ?_ _) | (with_reducible refine below_alloc ?_ _)
  have c0 : (((on ux).alloc (.cells #[.int .i64 (2 * lx1 k c), .int .i64 (2 * ly1 k c)] 31)).alloc (.cells #[.int .i64 (2 * lx2 k c), .int .i64 (2 * ly2 k c)] 31)).cell? ⟨w.heap.size + 1 + 1, 0, none⟩ = some (.int .u8 0) := by rw [hR.cell (p := ⟨w.heap.size + 1 + 1, 0, none⟩) (by simp [World.size_alloc] <;> omega)]; simp [go_sem]
  have f0 : (((on ux).alloc (.cells #[.int .i64 (2 * lx1 k c), .int .i64 (2 * ly1 k c)] 31)).alloc (.cells #[.int .i64 (2 * lx2 k c), .int .i64 (2 * ly2 k c)] 31)).frozen? ⟨w.heap.size + 1 + 1, 0, none⟩ = false := by rw [hR.frozen (p := ⟨w.heap.size + 1 + 1, 0, none⟩) (by simp [World.size_alloc] <;> omega)]; simp [go_sem]
  have c1 : (((on ux).alloc (.cells #[.int .i64 (2 * lx1 k c), .int .i64 (2 * ly1 k c)] 31)).alloc (.cells #[.int .i64 (2 * lx2 k c), .int .i64 (2 * ly2 k c)] 31)).cell? ⟨w.heap.size + 1 + 1, 1, none⟩ = some (.int .i64 0) := by rw [hR.cell (p := ⟨w.heap.size + 1 + 1, 1, none⟩) (by simp [World.size_alloc] <;> omega)]; simp [go_sem]
  have f1 : (((on ux).alloc (.cells #[.int .i64 (2 * lx1 k c), .int .i64 (2 * ly1 k c)] 31)).alloc (.cells #[.int .i64 (2 * lx2 k c), .int .i64 (2 * ly2 k c)] 31)).frozen? ⟨w.heap.size + 1 + 1, 1, none⟩ = false := by rw [hR.frozen (p := ⟨w.heap.size + 1 + 1, 1, none⟩) (by simp [World.size_alloc] <;> omega)]; simp [go_sem]
  have c2 : (((on ux).alloc (.cells #[.int .i64 (2 * lx1 k c), .int .i64 (2 * ly1 k c)] 31)).alloc (.cells #[.int .i64 (2 * lx2 k c), .int .i64 (2 * ly2 k c)] 31)).cell? ⟨(on ux).heap.size, 0, none⟩ = some (.int .i64 (2 * lx1 k c)) := by simp [go_sem]
  have f2 : (((on ux).alloc (.cells #[.int .i64 (2 * lx1 k c), .int .i64 (2 * ly1 k c)] 31)).alloc (.cells #[.int .i64 (2 * lx2 k c), .int .i64 (2 * ly2 k c)] 31)).frozen? ⟨(on ux).heap.size, 0, none⟩ = false := by simp [go_sem]
  have c3 : (((on ux).alloc (.cells #[.int .i64 (2 * lx1 k c), .int .i64 (2 * ly1 k c)] 31)).alloc (.cells #[.int .i64 (2 * lx2 k c), .int .i64 (2 * ly2 k c)] 31)).cell? ⟨(on ux).heap.size, 1, none⟩ = some (.int .i64 (2 * ly1 k c)) := by simp [go_sem]
  have f3 : (((on ux).alloc (.cells #[.int .i64 (2 * lx1 k c), .int .i64 (2 * ly1 k c)] 31)).alloc (.cells #[.int .i64 (2 * lx2 k c), .int .i64 (2 * ly2 k c)] 31)).frozen? ⟨(on ux).heap.size, 1, none⟩ = false := by simp [go_sem]
  have c4 : (((on ux).alloc (.cells #[.int .i64 (2 * lx1 k c), .int .i64 (2 * ly1 k c)] 31)).alloc (.cells #[.int .i64 (2 * lx2 k c), .int .i64 (2 * ly2 k c)] 31)).cell? ⟨(on ux).heap.size + 1, 0, none⟩ = some (.int .i64 (2 * lx2 k c)) := by simp [go_sem]
  have f4 : (((on ux).alloc (.cells #[.int .i64 (2 * lx1 k c), .int .i64 (2 * ly1 k c)] 31)).alloc (.cells #[.int .i64 (2 * lx2 k c), .int .i64 (2 * ly2 k c)] 31)).frozen? ⟨(on ux).heap.size + 1, 0, none⟩ = false := by simp [go_sem]
  have c5 : (((on ux).alloc (.cells #[.int .i64 (2 * lx1 k c), .int .i64 (2 * ly1 k c)] 31)).alloc (.cells #[.int .i64 (2 * lx2 k c), .int .i64 (2 * ly2 k c)] 31)).cell? ⟨(on ux).heap.size + 1, 1, none⟩ = some (.int .i64 (2 * ly2 k c)) := by simp [go_sem]
  have f5 : (((on ux).alloc (.cells #[.int .i64 (2 * lx1 k c), .int .i64 (2 * ly1 k c)] 31)).alloc (.cells #[.int .i64 (2 * lx2 k c), .int .i64 (2 * ly2 k c)] 31)).frozen? ⟨(on ux).heap.size + 1, 1, none⟩ = false := by simp [go_sem]
  have hZ : Below (((w.alloc (.cells #[.int .u8 t, .int .i64 X, .int .i64 Y] 51)).alloc (.cells #[.int .u8 k, .int .i64 c] 24)).alloc (.cells #[.int .u8 0, .int .i64 0] 24)).heap.size (((w.alloc (.cells #[.int .u8 t, .int .i64 X, .int .i64 Y] 51)).alloc (.cells #[.int .u8 k, .int .i64 c] 24)).alloc (.cells #[.int .u8 0, .int .i64 0] 24)) (on ux) := by repeat first | (with_reducible exact Below.refl _ _) | (with_reducible refine below_on ?_ _) | (with_reducible refine below_alloc ?_ _)
  have z0 : w.heap.size + 1 + 1 < (on ux).heap.size := Nat.lt_of_lt_of_le (show w.heap.size + 1 + 1 < (((w.alloc (.cells #[.int .u8 t, .int .i64 X, .int .i64 Y] 51)).alloc (.cells #[.int .u8 k, .int .i64 c] 24)).alloc (.cells #[.int .u8 0, .int .i64 0] 24)).heap.size by simp [World.size_alloc] <;> omega) hZ.size
  clear hZ
  have hB : Below w.heap.size w (((on ux).alloc (.cells #[.int .i64 (2 * lx1 k c), .int .i64 (2 * ly1 k c)] 31)).alloc (.cells #[.int .i64 (2 * lx2 k c), .int .i64 (2 * ly2 k c)] 31)) := by repeat first | (with_reducible exact Below.refl _ _) | (with_reducible refine below_on ?_ _) | (with_reducible refine below_alloc ?_ _)
  clear hR
  generalize (((on ux).alloc (.cells #[.int .i64 (2 * lx1 k c), .int .i64 (2 * ly1 k c)] 31)).alloc (.cells #[.int .i64 (2 * lx2 k c), .int .i64 (2 * ly2 k c)] 31)) = Wn at *
  generalize (on ux).heap.size = Bn at *
  clear ux
  refine region_tail 6 (by kernel_rfl) (by kernel_rfl) ?_
  simp only [List.take_succ_cons, List.take_zero, List.drop_succ_cons, List.drop_zero]
  repeat (first
    | (refine wpLex_plain (by rfl) (by rfl) (by rfl) (fun K hK => ?_); go_big_quiet_op; refine hK _ ?_; clear hK K)
    | (refine wpLex_call (by rfl) (by rfl) (fun K hK => ?_); go_simp; apply Exists.intro; refine ⟨fun _ => ?_, hK _ ?_⟩; ((first | (go_at_call 63; with_reducible exact Calls.laterL (TA _ (hU' _ (below_on hB _)))) | (go_at_call 63; with_reducible exact Calls.laterL (TB _ (hU' _ (below_on hB _)))))); clear hK K)
    | (refine wpLex_new (by rfl) ?_; simp only [Act.put, List.setIfInBounds_toArray, List.set_cons_zero, List.set_cons_succ]))
  refine wpLex_nil ?_
  intro u9
  clear TA TB
  go_wp2_with fail
  have zz1 : Bn ≠ w.heap.size + 1 + 1 := by omega
  have zz2 : Bn + 1 ≠ w.heap.size + 1 + 1 := by omega
  have hS : Below w.heap.size w (((((on u9).setCell ⟨Bn, 0, none⟩ (.int .i64 (2 * px))).setCell ⟨Bn, 1, none⟩ (.int .i64 (2 * py))).setCell ⟨Bn + 1, 0, none⟩ (.int .i64 (2 * qx))).setCell ⟨Bn + 1, 1, none⟩ (.int .i64 (2 * qy))) := below_set (below_set (below_set (below_set (below_on hB u9) (by show w.heap.size ≤ Bn; omega) _) (by show w.heap.size ≤ Bn; omega) _) (by show w.heap.size ≤ Bn + 1; omega) _) (by show w.heap.size ≤ Bn + 1; omega) _
  have R0 : (((((on u9).setCell ⟨Bn, 0, none⟩ (.int .i64 (2 * px))).setCell ⟨Bn, 1, none⟩ (.int .i64 (2 * py))).setCell ⟨Bn + 1, 0, none⟩ (.int .i64 (2 * qx))).setCell ⟨Bn + 1, 1, none⟩ (.int .i64 (2 * qy))).cell? ⟨w.heap.size + 1 + 1, 0, none⟩ = some (.int .u8 0) := by
    rw [World.cell?_setCell_far _ _ _ _ zz2, World.cell?_setCell_far _ _ _ _ zz2, World.cell?_setCell_far _ _ _ _ zz1, World.cell?_setCell_far _ _ _ _ zz1]; simp [go_sem, c0]
  have F0 : (((((on u9).setCell ⟨Bn, 0, none⟩ (.int .i64 (2 * px))).setCell ⟨Bn, 1, none⟩ (.int .i64 (2 * py))).setCell ⟨Bn + 1, 0, none⟩ (.int .i64 (2 * qx))).setCell ⟨Bn + 1, 1, none⟩ (.int .i64 (2 * qy))).frozen? ⟨w.heap.size + 1 + 1, 0, none⟩ = false := by simp [go_sem, c0, f0, zz1, zz2]
  have R1 : (((((on u9).setCell ⟨Bn, 0, none⟩ (.int .i64 (2 * px))).setCell ⟨Bn, 1, none⟩ (.int .i64 (2 * py))).setCell ⟨Bn + 1, 0, none⟩ (.int .i64 (2 * qx))).setCell ⟨Bn + 1, 1, none⟩ (.int .i64 (2 * qy))).cell? ⟨w.heap.size + 1 + 1, 1, none⟩ = some (.int .i64 0) := by
    rw [World.cell?_setCell_far _ _ _ _ zz2, World.cell?_setCell_far _ _ _ _ zz2, World.cell?_setCell_far _ _ _ _ zz1, World.cell?_setCell_far _ _ _ _ zz1]; simp [go_sem, c1]
  have F1 : (((((on u9).setCell ⟨Bn, 0, none⟩ (.int .i64 (2 * px))).setCell ⟨Bn, 1, none⟩ (.int .i64 (2 * py))).setCell ⟨Bn + 1, 0, none⟩ (.int .i64 (2 * qx))).setCell ⟨Bn + 1, 1, none⟩ (.int .i64 (2 * qy))).frozen? ⟨w.heap.size + 1 + 1, 1, none⟩ = false := by simp [go_sem, c1, f1, zz1, zz2]
  have p0 : (((((on u9).setCell ⟨Bn, 0, none⟩ (.int .i64 (2 * px))).setCell ⟨Bn, 1, none⟩ (.int .i64 (2 * py))).setCell ⟨Bn + 1, 0, none⟩ (.int .i64 (2 * qx))).setCell ⟨Bn + 1, 1, none⟩ (.int .i64 (2 * qy))).cell? ⟨Bn, 0, none⟩ = some (.int .i64 (2 * px)) := by simp [go_sem, c2, c3, c4, c5]
  have p1 : (((((on u9).setCell ⟨Bn, 0, none⟩ (.int .i64 (2 * px))).setCell ⟨Bn, 1, none⟩ (.int .i64 (2 * py))).setCell ⟨Bn + 1, 0, none⟩ (.int .i64 (2 * qx))).setCell ⟨Bn + 1, 1, none⟩ (.int .i64 (2 * qy))).cell? ⟨Bn, 1, none⟩ = some (.int .i64 (2 * py)) := by simp [go_sem, c2, c3, c4, c5]
  have q0 : (((((on u9).setCell ⟨Bn, 0, none⟩ (.int .i64 (2 * px))).setCell ⟨Bn, 1, none⟩ (.int .i64 (2 * py))).setCell ⟨Bn + 1, 0, none⟩ (.int .i64 (2 * qx))).setCell ⟨Bn + 1, 1, none⟩ (.int .i64 (2 * qy))).cell? ⟨Bn + 1, 0, none⟩ = some (.int .i64 (2 * qx)) := by simp [go_sem, c2, c3, c4, c5]
  have q1 : (((((on u9).setCell ⟨Bn, 0, none⟩ (.int .i64 (2 * px))).setCell ⟨Bn, 1, none⟩ (.int .i64 (2 * py))).setCell ⟨Bn + 1, 0, none⟩ (.int .i64 (2 * qx))).setCell ⟨Bn + 1, 1, none⟩ (.int .i64 (2 * qy))).cell? ⟨Bn + 1, 1, none⟩ = some (.int .i64 (2 * qy)) := by simp [go_sem, c2, c3, c4, c5]
  generalize (((((on u9).setCell ⟨Bn, 0, none⟩ (.int .i64 (2 * px))).setCell ⟨Bn, 1, none⟩ (.int .i64 (2 * py))).setCell ⟨Bn + 1, 0, none⟩ (.int .i64 (2 * qx))).setCell ⟨Bn + 1, 1, none⟩ (.int .i64 (2 * qy))) = Wb at *
  clear u9 c0 f0 c1 f1 c2 f2 c3 f3 c4 f4 c5 f5 hB zz1 zz2
  go_loopw [9] (fun iv wr => ∃ j : Int, iv = .int .u8 j ∧ 1 ≤ j ∧ j ≤ 2 ∧ ∃ u : Later Wb, wr = on u) (fun iv _ => (2 - intOf iv).toNat)
  case atStart => exact ⟨1, rfl, by omega, by omega, ⟨_, Below.refl _ _⟩, rfl⟩
  case round =>
    obtain ⟨j, rfl, hj1, hj2, u0, rfl⟩ := hrel
    have hq : Below w.heap.size w (on u0) := below_on hS u0
    obtain rfl | rfl : j = 1 ∨ j = 2 := by omega
    · obtain ⟨m, hmm⟩ : ∃ m, m = px := ⟨_, rfl⟩
      have HMM : Hid (m = px) := hmm
      clear hmm
      by_cases hr : -4096 ≤ m ∧ m ≤ 4096
      · obtain ⟨hr1, hr2⟩ := hr
        obtain ⟨sv, hsv⟩ : ∃ sv, sv = sgn (val 1 (2 * qx) (2 * qy) - 2 * m) := ⟨_, rfl⟩
        have SD : ∀ W, Calls Tryd.prog 48 #[ln 1 m, pt (2 * qx) (2 * qy)] W fun e w' => e = .returned (.int .i64 sv) ∧ Below W.heap.size W w' := fun W => by
          rw [hsv]; exact side_any 1 m (2 * qx) (2 * qy) W (by omega) (by omega) hr1 hr2 (by omega) (by omega) (by omega) (by omega)
        have z9 : (sv == 0) = false := by
          rw [hsv]; exact sgn_ne (by rw [val1]; have h1 := HMM.out; have h2 := N1.out; omega)
        clear hsv
        go_wp2_with (first | (go_at_call 51; with_reducible refine (through_ok1 (2 * px) (2 * py) _ (by omega) (by omega) (by omega) (by omega) m (by have := HMM.out; omega) hr1 hr2).mono ?_; rintro e wx ⟨rfl, hx⟩; obtain ⟨ux, rfl⟩ := after hx; clear hx) | (go_at_call 48; with_reducible refine (SD _).mono ?_; rintro e wx ⟨rfl, hx⟩; obtain ⟨ux, rfl⟩ := after hx; clear hx) | fail)
        exact ⟨⟨1 + 1, rfl, by omega, by omega, after (by repeat first | (with_reducible exact Below.refl _ _) | (with_reducible refine below_on ?_ _) | (with_reducible refine below_alloc ?_ _))⟩, by simp [intOf]⟩
      · have HRR : Hid (m < -4096 ∨ 4096 < m) := by show m < -4096 ∨ 4096 < m; omega
        clear hr
        go_wp2_with (first | (go_at_call 51; with_reducible refine (through_far1 (2 * px) (2 * py) _ (by omega) (by omega) (by omega) (by omega) m (by have := HMM.out; omega) HRR.out).mono ?_; rintro e wx ⟨rfl, hx⟩; obtain ⟨ux, rfl⟩ := after hx; clear hx) | fail)
        exact ⟨⟨1 + 1, rfl, by omega, by omega, after (by repeat first | (with_reducible exact Below.refl _ _) | (with_reducible refine below_on ?_ _) | (with_reducible refine below_alloc ?_ _))⟩, by simp [intOf]⟩
    · obtain ⟨m, hmm⟩ : ∃ m, m = py := ⟨_, rfl⟩
      have HMM : Hid (m = py) := hmm
      have hr1 : -4096 ≤ m := by omega
      have hr2 : m ≤ 4096 := by omega
      clear hmm m1 m2
      have SD : ∀ W, Calls Tryd.prog 48 #[ln 2 m, pt (2 * qx) (2 * qy)] W fun e w' => e = .returned (.int .i64 0) ∧ Below W.heap.size W w' := fun W => by
        have := side_any 2 m (2 * qx) (2 * qy) W (by omega) (by omega) hr1 hr2 (by omega) (by omega) (by omega) (by omega)
        rwa [show val 2 (2 * qx) (2 * qy) - 2 * m = 0 by rw [val2]; have h1 := HMM.out; have h2 := HG.out; omega, sgn_zero] at this
      go_wp2_with (first | (go_at_call 51; with_reducible refine (through_ok2 (2 * px) (2 * py) _ (by omega) (by omega) (by omega) (by omega) m (by have := HMM.out; omega) hr1 hr2).mono ?_; rintro e wx ⟨rfl, hx⟩; obtain ⟨ux, rfl⟩ := after hx; clear hx) | (go_at_call 48; with_reducible refine (SD _).mono ?_; rintro e wx ⟨rfl, hx⟩; obtain ⟨ux, rfl⟩ := after hx; clear hx) | fail)
      have bw := hq
      clear SD
      exact bodyPost_ret (v := .tuple #[ln 2 m, .int .i64 0]) (by simp [results, Tryd.results59, go_sem, R0, R1]) rfl ⟨by rw [HMM.out], (by repeat first | (with_reducible exact bw) | (with_reducible refine below_on ?_ _) | (with_reducible refine below_alloc ?_ _) | (with_reducible refine below_set ?_ (by simp; try omega) _))⟩

end Go.Proofs.YtbcmfenekpllhaaDoor
