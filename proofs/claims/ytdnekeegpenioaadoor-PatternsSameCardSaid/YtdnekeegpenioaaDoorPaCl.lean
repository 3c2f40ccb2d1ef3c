/-
  Says: what a P is, as an argument.
-/
import Derived.Test.YtdnekeegpenioaaDoorPaO
import Derived.Test.YtdnekeegpenioaaDoorCl0
import Derived.Deep.Strs
import Derived.Carry
import Derived.OpenShut
import Derived.ProofKit
set_option linter.unusedVariables false
set_option linter.unusedSimpArgs false
namespace Go.Proofs.YtdnekeegpenioaaDoor
open Go Go.RowKit

open Go.ChangeShapes Go.WideShapes Go.ChangeAt Go.WideMaps Go.WideElems Go.Joins
theorem cellsP : Tryd.prog.cellsOf 42 = 3 := by kernel_rfl
theorem cellsBs : Tryd.prog.cellsOf 40 = 1 := by kernel_rfl
theorem three {α : Type} : ∀ (l : List α), l.length = 3 → ∃ a b c, l = [a, b, c]
  | [a, b, c], _ => ⟨a, b, c, rfl⟩
set_option maxRecDepth 100000 in
theorem open_P {H : Type} {enc : TypeId × Value → H} {W : World} {base : Nat} {v : Value} {d : DataW H} {p : List MemPlace} (hval : Value.okWide Tryd.prog W .any base 42 v) (h : DataW.Trod enc Tryd.prog W 0 (fun _ => true) true 42 v d p) :
    ∃ (a b : Int) (pk : Option Addr) (nk ck : Nat) (kd : Nat → Int), v = .agg #[.int .u8 a, .int .u8 b, .slice pk nk ck] ∧ (0 ≤ a ∧ a ≤ 255) ∧ (0 ≤ b ∧ b ≤ 255) ∧ Byts W pk nk kd ∧ (∀ i, i < nk → 0 ≤ kd i ∧ kd i ≤ 255) ∧ nk ≤ maxLen := by
  obtain ⟨cs, rfl, hsz⟩ := okWide_struct Tryd.underlying42 hval
  rw [cellsP] at hsz
  obtain ⟨l⟩ := cs
  obtain ⟨c0, c1, c2, rfl⟩ := three l hsz
  obtain ⟨fu, hf⟩ := h
  obtain ⟨y0, y1, y2, n, hx, hp, e0, e1, e2⟩ := Go.Deep.trod_struct3 Tryd.underlying42 hf
  simp [Value.cells, cU8, cellsBs] at e0 e1 e2
  obtain ⟨a, q0, hy0, wa⟩ := DataW.trod_int Tryd.underlying5 e0
  obtain ⟨b, q1, hy1, wb⟩ := DataW.trod_int Tryd.underlying5 e1
  simp at q0 q1
  subst q0 q1
  have u8r : ∀ z : Int, (Lit.int .u8 z).wf = true → 0 ≤ z ∧ z ≤ 255 := fun z hz => by
    simp [Lit.wf] at hz
    have e1 : IntKind.u8.min = 0 := rfl
    have e2 : IntKind.u8.max = 255 := rfl
    omega
  rcases open_ints Tryd.underlying40 Tryd.underlying5 cU8 e2 with ⟨hcs, hx2⟩ | ⟨ad, len, cap, zs, hcs, _, hl, hm, hz, hx2, hcell, hwz⟩
  · simp at hcs
    subst hcs
    exact ⟨a, b, none, 0, 0, fun _ => 0, rfl, u8r a wa, u8r b wb, fun h => absurd h (by decide), fun i h => by omega, Nat.zero_le _⟩
  · simp at hcs
    subst hcs
    simp at hz
    refine ⟨a, b, some ad, len, cap, fun i => zs.getD i 0, rfl, u8r a wa, u8r b wb, fun hn => ?_, fun i hi => ?_, by omega⟩
    · obtain ⟨bb, off, rfl, hc⟩ := ints_at hcell (by omega)
      exact ⟨bb, off, rfl, fun i hi => hc i (by omega)⟩
    · have hil : i < zs.length := by omega
      have e : zs.getD i 0 = zs[i] := by simp [List.getD, hil]
      simp only [e]
      exact u8r _ (hwz _ (List.getElem_mem hil))

end Go.Proofs.YtdnekeegpenioaaDoor
