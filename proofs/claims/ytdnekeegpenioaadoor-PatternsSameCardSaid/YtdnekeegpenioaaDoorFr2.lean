/-
  Says: the states before the first pieces of PatternsSame.
-/
import Derived.Test.YtdnekeegpenioaaDoorFr1
set_option linter.unusedVariables false
set_option linter.unusedSimpArgs false
namespace Go.Proofs.YtdnekeegpenioaaDoor
open Go Go.RowKit

/-- The arguments in their variables. -/
def In (xW xH yW yH h0 h1 : Int) (px py : Option Addr) (nx cx ny cy : Nat) (w W : World) : Prop := W.cell? ⟨w.heap.size, 0, none⟩ = some (.int .u8 xW) ∧ W.cell? ⟨w.heap.size, 1, none⟩ = some (.int .u8 xH) ∧ W.cell? ⟨w.heap.size, 2, none⟩ = some (.slice px nx cx) ∧ W.cell? ⟨w.heap.size + 1, 0, none⟩ = some (.int .u8 yW) ∧ W.cell? ⟨w.heap.size + 1, 1, none⟩ = some (.int .u8 yH) ∧ W.cell? ⟨w.heap.size + 1, 2, none⟩ = some (.slice py ny cy) ∧ W.cell? ⟨w.heap.size + 1 + 1, 0, none⟩ = some (.int .u8 h0) ∧ W.cell? ⟨w.heap.size + 1 + 1, 1, none⟩ = some (.int .u8 h1) ∧ Below w.heap.size w W ∧ w.heap.size + 3 ≤ W.heap.size
def S3 (w : World) (a : Act) : Prop := a.tmps.size = 191 ∧ a.defers = [] ∧ a.tmps.getD 3 undef = .pointer (some ⟨w.heap.size, 0, none⟩) ∧ a.tmps.getD 4 undef = .pointer (some ⟨w.heap.size + 1, 0, none⟩) ∧ a.tmps.getD 5 undef = .pointer (some ⟨w.heap.size + 1 + 1, 0, none⟩) ∧ a.tmps.getD 6 undef = .bool false
/-- The state behind the first piece with calls. -/
def P1 (xW xH yW yH h0 h1 : Int) (kx ky : Nat → Int) (px py : Option Addr) (nx cx ny cy : Nat) (w : World) (a' : Act) (W' : World) : Prop := (∃ (b7 b8 : Nat) (pa pb : Option Addr) (ca cb : Nat), S7 b7 b8 a' ∧ AB w b7 b8 pa pb (pW xW : Nat) (pW xH : Nat) (pW yW : Nat) (pW yH : Nat) (pN (pW xW) (pW xH) nx kx) ca (pN (pW yW) (pW yH) ny ky) cb (pC (pW xW) (pW xH) nx kx) (pE (pW xW) (pW xH) nx kx) (pK (pW xW) (pW xH) nx kx) (pC (pW yW) (pW yH) ny ky) (pE (pW yW) (pW yH) ny ky) (pK (pW yW) (pW yH) ny ky) W' ∧ In xW xH yW yH h0 h1 px py nx cx ny cy w W' ∧ a'.tmps.getD 3 undef = .pointer (some ⟨w.heap.size, 0, none⟩) ∧ a'.tmps.getD 5 undef = .pointer (some ⟨w.heap.size + 1 + 1, 0, none⟩) ∧ b7 ≠ b8 ∧ w.heap.size + 3 ≤ b8 ∧ (∀ ad, pa = some ad → ad.block ≠ b7 ∧ ad.block ≠ b8))

end Go.Proofs.YtdnekeegpenioaaDoor
