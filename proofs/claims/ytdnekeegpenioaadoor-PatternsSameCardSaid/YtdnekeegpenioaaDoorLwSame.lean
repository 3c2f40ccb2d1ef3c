/-
  Says: PatternsSame.
-/
import Derived.Test.YtdnekeegpenioaaDoorFp0
import Derived.Test.YtdnekeegpenioaaDoorFp1
import Derived.Test.YtdnekeegpenioaaDoorFp2
import Derived.Test.YtdnekeegpenioaaDoorFpM
import Derived.Deep.RegionHeld3
import Derived.RowKit3
import Derived.BigQuiet
import Derived.Deep.QuietTactic
import Derived.BigRegion
set_option linter.unusedVariables false
set_option linter.unusedSimpArgs false
namespace Go.Proofs.YtdnekeegpenioaaDoor
open Go Go.RowKit

attribute [local go_sem] World.cell?_alloc_some frozen?_alloc_cells fz0 fz1 fz2 fz3 fz4 fz5

theorem same_body : Tryd.f6.body = some (.seq (sq 0 (bodyOf Tryd.f6)) (.seq (sq 1 (bodyOf Tryd.f6)) (.seq (sq 2 (bodyOf Tryd.f6)) (.seq (sq 3 (bodyOf Tryd.f6)) (.seq (sq 4 (bodyOf Tryd.f6)) (.seq (sq 5 (bodyOf Tryd.f6)) (.seq (sq 6 (bodyOf Tryd.f6)) (.seq (sq 7 (bodyOf Tryd.f6)) (.seq (sq 8 (bodyOf Tryd.f6)) (.seq (sq 9 (bodyOf Tryd.f6)) (sq 10 (bodyOf Tryd.f6)))))))))))) := by kernel_rfl
theorem res_same (a : Act) (w : World) (h : a.tmps.getD 6 undef = .bool true) : Go.Sem.run Tryd.prog (results Tryd.f6 a.tmps) w = .ok (.bool true) w := by
  have h' : a.tmps[6]?.getD undef = .bool true := by rw [← Array.getD_eq_getD_getElem?]; exact h
  simp [results, Tryd.results6, go_sem, h']
theorem tm_size (a b c : Value) : ((#[a, b, c] : Array Value) ++ Array.replicate (191 - (#[a, b, c] : Array Value).size) undef).size = 191 := by simp
theorem tm_get0 (a b c : Value) (n : Nat) : ((#[a, b, c] : Array Value) ++ Array.replicate n undef).getD 0 undef = a := by simp [Array.getD_eq_getD_getElem?, Array.getElem?_append_left]
theorem tm_get1 (a b c : Value) (n : Nat) : ((#[a, b, c] : Array Value) ++ Array.replicate n undef).getD 1 undef = b := by simp [Array.getD_eq_getD_getElem?, Array.getElem?_append_left]
theorem tm_get2 (a b c : Value) (n : Nat) : ((#[a, b, c] : Array Value) ++ Array.replicate n undef).getD 2 undef = c := by simp [Array.getD_eq_getD_getElem?, Array.getElem?_append_left]
/-- One piece before the rest. -/
theorem step_wp {P : Program} {Q : Exit → Act → World → Prop} {c d : Code} {a : Act} {w : World} {R : Act → World → Prop} (h : c.wp P (fun e a' W' => e = .normal ∧ R a' W') a w) (k : ∀ a' W', R a' W' → d.wp P Q a' W') : (Code.seq c d).wp P Q a w :=
  wp_seq (wp_mono h (fun e a' W' hh => by obtain ⟨rfl, hr⟩ := hh; exact k a' W' hr))
set_option maxRecDepth 100000 in
set_option maxHeartbeats 4000000 in
theorem same_law (xW xH yW yH h0 h1 : Int) (kx ky : Nat → Int) (px py : Option Addr) (nx cx ny cy : Nat) (w : World) (hL : Lay w) (hbx : Byts w px nx kx) (hby : Byts w py ny ky) (x1 : 0 ≤ xW) (x2 : 0 ≤ xH) (y1 : 0 ≤ yW) (y2 : 0 ≤ yH) (hnx : (nx : Int) ≤ 9223372036854775807) (hny : (ny : Int) ≤ 9223372036854775807) (g0 : 0 ≤ h0) (g1 : h0 ≤ 255) (g2 : 0 ≤ h1) (g3 : h1 ≤ 255) (hkx : ∀ i, i < nx → 0 ≤ kx i ∧ kx i ≤ 255) :
    Calls Tryd.prog 6 #[.agg #[.int .u8 xW, .int .u8 xH, .slice px nx cx], .agg #[.int .u8 yW, .int .u8 yH, .slice py ny cy], .agg #[.int .u8 h0, .int .u8 h1]] w fun r w' => r = .returned (.bool true) ∧ Below w.heap.size w w' := by
  refine calls_of_wp (fn := Tryd.f6) Tryd.func6 same_body ?_
  rw [Tryd.ntmps6]
  refine step_wp (R := fun a' W' => S3 w a' ∧ In xW xH yW yH h0 h1 px py nx cx ny cy w W') (fr0 xW xH yW yH h0 h1 kx ky px py nx cx ny cy w _ (tm_size _ _ _) rfl (tm_get0 _ _ _ _) (tm_get1 _ _ _ _) (tm_get2 _ _ _ _)) ?_
  rintro a1 W1 ⟨t1, t2⟩
  refine step_wp (R := fun a' W' => P1 xW xH yW yH h0 h1 kx ky px py nx cx ny cy w a' W') (fr1 xW xH yW yH h0 h1 kx ky px py nx cx ny cy w hL hbx hby x1 x2 y1 y2 hnx hny hkx a1 W1 t1 t2) ?_
  intro a2 W2 t3
  refine step_wp (R := fun a' W' => P2 w a' W') (fr2 xW xH yW yH h0 h1 kx ky px py nx cx ny cy w hL hbx hby x1 x2 y1 y2 hnx hny g0 g1 g2 g3 a2 W2 t3) ?_
  intro a3 W3 t4
  obtain ⟨b7, b8, pa, pb, wa, ha, wb, hb, na, ca, nb, cb, cA, eA, kA, cB, eB, kB, hS, hAB⟩ := t4
  refine step_wp (fr4 w b7 b8 pa pb wa ha wb hb na ca nb cb cA eA kA cB eB kB a3 W3 hS hAB) ?_
  rintro a4 W4 ⟨hS, hE, hAB⟩
  refine step_wp (fr5 w b7 b8 pa pb wa ha wb hb na ca nb cb cA eA kA cB eB kB a4 W4 hS hE hAB) ?_
  rintro a5 W5 ⟨hS, hE, hF, hAB⟩
  refine step_wp (fr7 w b7 b8 pa pb wa ha wb hb na ca nb cb cA eA kA cB eB kB a5 W5 hS hE hF hAB) ?_
  rintro a6 W6 ⟨hS, hE, hF, hAB⟩
  refine step_wp (fr6 w b7 b8 pa pb wa ha wb hb na ca nb cb cA eA kA cB eB kB a6 W6 hS hE hF hAB) ?_
  rintro a7 W7 ⟨hS, hAB⟩
  refine step_wp (fr7s w b7 b8 pa pb wa ha wb hb na ca nb cb cA eA kA cB eB kB a7 W7 hS hAB) ?_
  rintro a8 W8 ⟨hS, h15, hAB⟩
  refine step_wp (fr8 w b7 b8 pa pb wa ha wb hb na ca nb cb cA eA kA cB eB kB a8 W8 hS h15 hAB) ?_
  rintro a9 W9 ⟨hS, h15, hAB⟩
  have hBW : Below w.heap.size w W9 := hAB.2.2.2.2.1
  refine step_wp (fr9 w b7 b8 pa pb wa ha wb hb na ca nb cb cA eA kA cB eB kB a9 W9 hS h15 hAB) ?_
  rintro a10 W10 ⟨hd, h6, hB⟩
  refine wp_ret ?_
  exact bodyPost_ret (v := .bool true) (res_same a10 W10 h6) hd ⟨rfl, hBW.trans (hB.mono hBW.size)⟩

end Go.Proofs.YtdnekeegpenioaaDoor
