/-
  Says: a piece of PatternsSame.
-/
import Derived.Test.YtdnekeegpenioaaDoorFr2
import Derived.Deep.RegionHeld3
import Derived.RowKit3
import Derived.BigQuiet
import Derived.Deep.QuietTactic
import Derived.BigRegion
set_option linter.unusedVariables false
set_option linter.unusedSimpArgs false
namespace Go.Proofs.YtdnekeegpenioaaDoor
open Go Go.RowKit

attribute [local go_sem] World.cell?_alloc_some frozen?_alloc_cells fz0 fz1 fz2 fz3 fz4 fz5

set_option maxRecDepth 100000 in
set_option maxHeartbeats 4000000 in
theorem fr0 (xW xH yW yH h0 h1 : Int) (kx ky : Nat → Int) (px py : Option Addr) (nx cx ny cy : Nat) (w : World) (a : Act) (hsz : a.tmps.size = 191) (hdf : a.defers = []) (e0 : a.tmps.getD 0 undef = .agg #[.int .u8 xW, .int .u8 xH, .slice px nx cx]) (e1 : a.tmps.getD 1 undef = .agg #[.int .u8 yW, .int .u8 yH, .slice py ny cy]) (e2 : a.tmps.getD 2 undef = .agg #[.int .u8 h0, .int .u8 h1]) :
    (sq 0 (bodyOf Tryd.f6)).wp Tryd.prog (fun e a' W' => e = .normal ∧ S3 w a' ∧ In xW xH yW yH h0 h1 px py nx cx ny cy w W') a w := by
  obtain ⟨tm, dfs⟩ := a
  simp only at hsz hdf
  subst hdf
  obtain ⟨g_, rfl⟩ := lit191 tm hsz
  replace e0 : g_ 0 = .agg #[.int .u8 xW, .int .u8 xH, .slice px nx cx] := e0
  replace e1 : g_ 1 = .agg #[.int .u8 yW, .int .u8 yH, .slice py ny cy] := e1
  replace e2 : g_ 2 = .agg #[.int .u8 h0, .int .u8 h1] := e2
  clear hsz
  simp only [sq, bodyOf, Tryd.f6]
  simp only [e0, e1, e2]
  go_wp2_with fail
  first | exact ⟨⟨rfl, rfl, rfl, rfl, rfl, rfl⟩, ⟨by simp [go_sem], by simp [go_sem], by simp [go_sem], by simp [go_sem], by simp [go_sem], by simp [go_sem], by simp [go_sem], by simp [go_sem], (by repeat first | (with_reducible exact Below.refl _ _) | (with_reducible assumption) | (with_reducible refine below_on ?_ _) | (with_reducible refine below_dn ?_) | (with_reducible refine below_drew ?_) | (with_reducible refine below_alloc ?_ _) | (with_reducible refine below_set ?_ (by simp; try omega) _) | (exact below_alloc hq _)), by simp⟩⟩ | exact ⟨⟨rfl, rfl, rfl, rfl, rfl, rfl⟩, ⟨⟨by simp [go_sem], by simp [go_sem], by simp [go_sem], by simp [go_sem], by simp [go_sem], by simp [go_sem], by simp [go_sem], by simp [go_sem]⟩, (by repeat first | (with_reducible exact Below.refl _ _) | (with_reducible assumption) | (with_reducible refine below_on ?_ _) | (with_reducible refine below_dn ?_) | (with_reducible refine below_drew ?_) | (with_reducible refine below_alloc ?_ _) | (with_reducible refine below_set ?_ (by simp; try omega) _) | (exact below_alloc hq _)), by simp⟩⟩

end Go.Proofs.YtdnekeegpenioaaDoor
