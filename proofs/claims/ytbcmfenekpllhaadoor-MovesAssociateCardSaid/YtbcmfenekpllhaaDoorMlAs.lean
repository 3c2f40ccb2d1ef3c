/-
  Says: MovesAssociate answers true at every input, where the package-level variables stand as they were laid.
-/
import Derived.Test.YtbcmfenekpllhaaDoorMlAc
import Derived.Test.YtbcmfenekpllhaaDoorMv5
import Derived.Test.YtbcmfenekpllhaaDoorMv6
set_option linter.unusedVariables false
set_option linter.unusedSimpArgs false
namespace Go.Proofs.YtbcmfenekpllhaaDoor
open Go Go.RowKit

theorem assoc_law (a0 x0 y0 a1 x1 y1 a2 x2 y2 p q : Int) (w : World) (hS : Std w) (a01 : 0 ≤ a0) (a02 : a0 ≤ 255) (x01 : -128 ≤ x0) (x02 : x0 ≤ 127) (y01 : -128 ≤ y0) (y02 : y0 ≤ 127) (a11 : 0 ≤ a1) (a12 : a1 ≤ 255) (x11 : -128 ≤ x1) (x12 : x1 ≤ 127) (y11 : -128 ≤ y1) (y12 : y1 ≤ 127) (a21 : 0 ≤ a2) (a22 : a2 ≤ 255) (x21 : -128 ≤ x2) (x22 : x2 ≤ 127) (y21 : -128 ≤ y2) (y22 : y2 ≤ 127) (hp1 : -128 ≤ p) (hp2 : p ≤ 127) (hq1 : -128 ≤ q) (hq2 : q ≤ 127) :
    Calls Tryd.prog 9 #[.agg #[.int .u8 a0, .int .i8 x0, .int .i8 y0, .int .u8 a1, .int .i8 x1, .int .i8 y1, .int .u8 a2, .int .i8 x2, .int .i8 y2], .agg #[.int .i8 p, .int .i8 q]] w fun e w' => e = .returned (.bool true) ∧ Below w.heap.size w w' := by
  have OF0 := fun W => mof2_any a0 x0 y0 W a01 a02 x01 x02 y01 y02
  have yf0 := yfix_ok x0 y0 y01 y02
  obtain ⟨T0, hT0⟩ : ∃ T, T = a0 % 8 := ⟨_, rfl⟩
  obtain ⟨Y0, hY0⟩ : ∃ Y, Y = yfix x0 y0 := ⟨_, rfl⟩
  rw [← hT0, ← hY0] at OF0
  rw [← hY0] at yf0
  obtain ⟨f07, f05, f06⟩ := yf0
  have t01 : 0 ≤ T0 := by omega
  have t02 : T0 ≤ 7 := by omega
  clear hT0 hY0
  have OF1 := fun W => mof2_any a1 x1 y1 W a11 a12 x11 x12 y11 y12
  have yf1 := yfix_ok x1 y1 y11 y12
  obtain ⟨T1, hT1⟩ : ∃ T, T = a1 % 8 := ⟨_, rfl⟩
  obtain ⟨Y1, hY1⟩ : ∃ Y, Y = yfix x1 y1 := ⟨_, rfl⟩
  rw [← hT1, ← hY1] at OF1
  rw [← hY1] at yf1
  obtain ⟨f17, f15, f16⟩ := yf1
  have t11 : 0 ≤ T1 := by omega
  have t12 : T1 ≤ 7 := by omega
  clear hT1 hY1
  have OF2 := fun W => mof2_any a2 x2 y2 W a21 a22 x21 x22 y21 y22
  have yf2 := yfix_ok x2 y2 y21 y22
  obtain ⟨T2, hT2⟩ : ∃ T, T = a2 % 8 := ⟨_, rfl⟩
  obtain ⟨Y2, hY2⟩ : ∃ Y, Y = yfix x2 y2 := ⟨_, rfl⟩
  rw [← hT2, ← hY2] at OF2
  rw [← hY2] at yf2
  obtain ⟨f27, f25, f26⟩ := yf2
  have t21 : 0 ≤ T2 := by omega
  have t22 : T2 ≤ 7 := by omega
  clear hT2 hY2
  have r1x := mvx_range 128 T1 x0 Y0 t11 t12 (by omega) (by omega) (by omega) (by omega)
  have r1y := mvy_range 128 T1 x0 Y0 t11 t12 (by omega) (by omega) (by omega) (by omega)
  have r2x := mvx_range 128 T2 x1 Y1 t21 t22 (by omega) (by omega) (by omega) (by omega)
  have r2y := mvy_range 128 T2 x1 Y1 t21 t22 (by omega) (by omega) (by omega) (by omega)
  have m3 := mulT_range T0 T1 t01 t02 t11 t12
  have m4 := mulT_range T1 T2 t11 t12 t21 t22
  have q3 := mv_par T1 x0 Y0 t11 t12
  have q4 := mv_par T2 x1 Y1 t21 t22
  have r3x := mvx_range 256 T2 (mvx T1 x0 Y0 + x1) (mvy T1 x0 Y0 + Y1) t21 t22 (by omega) (by omega) (by omega) (by omega)
  have r3y := mvy_range 256 T2 (mvx T1 x0 Y0 + x1) (mvy T1 x0 Y0 + Y1) t21 t22 (by omega) (by omega) (by omega) (by omega)
  have s1x := mvx_range 128 T0 p q t01 t02 (by omega) (by omega) (by omega) (by omega)
  have s1y := mvy_range 128 T0 p q t01 t02 (by omega) (by omega) (by omega) (by omega)
  have s2x := mvx_range 384 T1 (mvx T0 p q + 2 * x0) (mvy T0 p q + 2 * Y0) t11 t12 (by omega) (by omega) (by omega) (by omega)
  have s2y := mvy_range 384 T1 (mvx T0 p q + 2 * x0) (mvy T0 p q + 2 * Y0) t11 t12 (by omega) (by omega) (by omega) (by omega)
  have s3x := mvx_range 640 T2 (mvx T1 (mvx T0 p q + 2 * x0) (mvy T0 p q + 2 * Y0) + 2 * x1) (mvy T1 (mvx T0 p q + 2 * x0) (mvy T0 p q + 2 * Y0) + 2 * Y1) t21 t22 (by omega) (by omega) (by omega) (by omega)
  have s3y := mvy_range 640 T2 (mvx T1 (mvx T0 p q + 2 * x0) (mvy T0 p q + 2 * Y0) + 2 * x1) (mvy T1 (mvx T0 p q + 2 * x0) (mvy T0 p q + 2 * Y0) + 2 * Y1) t21 t22 (by omega) (by omega) (by omega) (by omega)
  have q5 := mv_par T2 (mvx T1 x0 Y0 + x1) (mvy T1 x0 Y0 + Y1) t21 t22
  have m5 := mulT_range (mulT T0 T1) T2 m3.1 m3.2 t21 t22
  have asc := mulT_assoc T0 T1 T2 t01 t02 t11 t12 t21 t22
  have ex : mvx (mulT T1 T2) x0 Y0 + (mvx T2 x1 Y1 + x2) = mvx T2 (mvx T1 x0 Y0 + x1) (mvy T1 x0 Y0 + Y1) + x2 := by
    rw [mvx_add _ _ _ _ _ t21 t22, mvx_comp T1 T2 x0 Y0 t11 t12 t21 t22]; omega
  have ey : mvy (mulT T1 T2) x0 Y0 + (mvy T2 x1 Y1 + Y2) = mvy T2 (mvx T1 x0 Y0 + x1) (mvy T1 x0 Y0 + Y1) + Y2 := by
    rw [mvy_add _ _ _ _ _ t21 t22, mvy_comp T1 T2 x0 Y0 t11 t12 t21 t22]; omega
  have pxx : mvx (mulT (mulT T0 T1) T2) p q + 2 * (mvx T2 (mvx T1 x0 Y0 + x1) (mvy T1 x0 Y0 + Y1) + x2) = mvx T2 (mvx T1 (mvx T0 p q + 2 * x0) (mvy T0 p q + 2 * Y0) + 2 * x1) (mvy T1 (mvx T0 p q + 2 * x0) (mvy T0 p q + 2 * Y0) + 2 * Y1) + 2 * x2 := by
    simp only [mvx_add _ _ _ _ _ t11 t12, mvy_add _ _ _ _ _ t11 t12, mvx_add _ _ _ _ _ t21 t22, mvx_two _ _ _ t11 t12, mvy_two _ _ _ t11 t12, mvx_two _ _ _ t21 t22, mvx_comp T0 T1 p q t01 t02 t11 t12, mvy_comp T0 T1 p q t01 t02 t11 t12, mvx_comp (mulT T0 T1) T2 p q m3.1 m3.2 t21 t22]; omega
  have pyy : mvy (mulT (mulT T0 T1) T2) p q + 2 * (mvy T2 (mvx T1 x0 Y0 + x1) (mvy T1 x0 Y0 + Y1) + Y2) = mvy T2 (mvx T1 (mvx T0 p q + 2 * x0) (mvy T0 p q + 2 * Y0) + 2 * x1) (mvy T1 (mvx T0 p q + 2 * x0) (mvy T0 p q + 2 * Y0) + 2 * Y1) + 2 * Y2 := by
    simp only [mvx_add _ _ _ _ _ t11 t12, mvy_add _ _ _ _ _ t11 t12, mvy_add _ _ _ _ _ t21 t22, mvx_two _ _ _ t11 t12, mvy_two _ _ _ t11 t12, mvy_two _ _ _ t21 t22, mvx_comp T0 T1 p q t01 t02 t11 t12, mvy_comp T0 T1 p q t01 t02 t11 t12, mvy_comp (mulT T0 T1) T2 p q m3.1 m3.2 t21 t22]; omega
  have TWf : ∀ W, Std W → Calls Tryd.prog 30 #[mv T0 x0 Y0, mv (mulT T1 T2) (mvx T2 x1 Y1 + x2) (mvy T2 x1 Y1 + Y2)] W fun e w' => e = .returned (.tuple #[mv (mulT (mulT T0 T1) T2) (mvx T2 (mvx T1 x0 Y0 + x1) (mvy T1 x0 Y0 + Y1) + x2) (mvy T2 (mvx T1 x0 Y0 + x1) (mvy T1 x0 Y0 + Y1) + Y2), .int .i64 0]) ∧ Below W.heap.size W w' := fun W h => by
    have := then_ok T0 x0 Y0 (mulT T1 T2) (mvx T2 x1 Y1 + x2) (mvy T2 x1 Y1 + Y2) W h.turns t01 t02 (by omega) (by omega) (by omega) (by omega) f07 m4.1 m4.2 (by omega) (by omega) (by omega) (by omega) (by omega) (by omega) (by omega) (by omega) (by omega)
    rwa [ex, ey, ← asc] at this
  have PEf : ∀ W, Std W → Calls Tryd.prog 29 #[mv (mulT (mulT T0 T1) T2) (mvx T2 (mvx T1 x0 Y0 + x1) (mvy T1 x0 Y0 + Y1) + x2) (mvy T2 (mvx T1 x0 Y0 + x1) (mvy T1 x0 Y0 + Y1) + Y2), pt p q] W fun e w' => e = .returned (.tuple #[pt (mvx T2 (mvx T1 (mvx T0 p q + 2 * x0) (mvy T0 p q + 2 * Y0) + 2 * x1) (mvy T1 (mvx T0 p q + 2 * x0) (mvy T0 p q + 2 * Y0) + 2 * Y1) + 2 * x2) (mvy T2 (mvx T1 (mvx T0 p q + 2 * x0) (mvy T0 p q + 2 * Y0) + 2 * x1) (mvy T1 (mvx T0 p q + 2 * x0) (mvy T0 p q + 2 * Y0) + 2 * Y1) + 2 * Y2), .int .i64 0]) ∧ Below W.heap.size W w' := fun W h => by
    have := mpoint_ok (mulT (mulT T0 T1) T2) (mvx T2 (mvx T1 x0 Y0 + x1) (mvy T1 x0 Y0 + Y1) + x2) (mvy T2 (mvx T1 x0 Y0 + x1) (mvy T1 x0 Y0 + Y1) + Y2) p q W h.turns m5.1 m5.2 (by omega) (by omega) (by omega) (by omega) (by omega) (by omega) (by omega) (by omega) (by omega) (by omega) (by omega) (by omega) (by omega)
    rwa [pxx, pyy] at this
  exact assoc_core a0 x0 y0 a1 x1 y1 a2 x2 y2 p q T0 x0 Y0 T1 x1 Y1 T2 x2 Y2 _ _ _ _ _ _ _ _ _ _ _ _ _ _ _ w hS hp1 hp2 hq1 hq2 t01 t02 x01 (by omega) f05 f06 f07 t11 t12 x11 (by omega) f15 f16 f17 t21 t22 x21 (by omega) f25 f26 f27 OF0 OF1 OF2
    (fun W h => then_ok T0 x0 Y0 T1 x1 Y1 W h.turns t01 t02 (by omega) (by omega) (by omega) (by omega) f07 t11 t12 (by omega) (by omega) (by omega) (by omega) f17 (by omega) (by omega) (by omega) (by omega))
    (fun W h => then_ok T1 x1 Y1 T2 x2 Y2 W h.turns t11 t12 (by omega) (by omega) (by omega) (by omega) f17 t21 t22 (by omega) (by omega) (by omega) (by omega) f27 (by omega) (by omega) (by omega) (by omega))
    (fun W h => then_ok (mulT T0 T1) (mvx T1 x0 Y0 + x1) (mvy T1 x0 Y0 + Y1) T2 x2 Y2 W h.turns m3.1 m3.2 (by omega) (by omega) (by omega) (by omega) (by omega) t21 t22 (by omega) (by omega) (by omega) (by omega) f27 (by omega) (by omega) (by omega) (by omega))
    TWf PEf
    (fun W h => mpoint_ok T0 x0 Y0 p q W h.turns t01 t02 (by omega) (by omega) (by omega) (by omega) f07 (by omega) (by omega) (by omega) (by omega) (by omega) (by omega) (by omega) (by omega))
    (fun W h => mpoint_ok T1 x1 Y1 (mvx T0 p q + 2 * x0) (mvy T0 p q + 2 * Y0) W h.turns t11 t12 (by omega) (by omega) (by omega) (by omega) f17 (by omega) (by omega) (by omega) (by omega) (by omega) (by omega) (by omega) (by omega))
    (fun W h => mpoint_ok T2 x2 Y2 (mvx T1 (mvx T0 p q + 2 * x0) (mvy T0 p q + 2 * Y0) + 2 * x1) (mvy T1 (mvx T0 p q + 2 * x0) (mvy T0 p q + 2 * Y0) + 2 * Y1) W h.turns t21 t22 (by omega) (by omega) (by omega) (by omega) f27 (by omega) (by omega) (by omega) (by omega) (by omega) (by omega) (by omega) (by omega))

end Go.Proofs.YtbcmfenekpllhaaDoor
