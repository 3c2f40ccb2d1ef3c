/-
  Says: what a pattern is, as an argument.
-/
import Derived.Test.YtbghfcllicfnpaaGreatDoorPa0
import Derived.Test.YtbghfcllicfnpaaGreatDoorCl0
import Derived.Deep.Strs
import Derived.Carry
import Derived.OpenShut
import Derived.ProofKit
set_option linter.unusedVariables false
set_option linter.unusedSimpArgs false
namespace Go.Proofs.YtbghfcllicfnpaaGreatDoor
open Go Go.RowKit

open Go.ChangeShapes Go.WideShapes Go.ChangeAt Go.WideMaps Go.WideElems Go.Joins
theorem cPT : Tryz.prog.cellsOf 37 = 3 := by kernel_rfl
theorem cSH : Tryz.prog.cellsOf 27 = 2 := by kernel_rfl
theorem cKS : Tryz.prog.cellsOf 35 = 1 := by kernel_rfl
theorem cCR : Tryz.prog.cellsOf 65 = 3 := by kernel_rfl
theorem cKD : Tryz.prog.cellsOf 60 = 1 := by kernel_rfl
theorem three' {α : Type} : ∀ (l : List α), l.length = 3 → ∃ a b c, l = [a, b, c]
  | [a, b, c], _ => ⟨a, b, c, rfl⟩
/-- The number in a cell. -/
def iat (w : World) (a : Addr) : Int := match w.cell? a with
  | some (.int _ z) => z
  | _ => 0
theorem u8_wf {z : Int} (hz : (Lit.int .u8 z).wf = true) : 0 ≤ z ∧ z ≤ 255 := by
  simp [Lit.wf] at hz
  have e1 : IntKind.u8.min = 0 := rfl
  have e2 : IntKind.u8.max = 255 := rfl
  omega
theorem crease_of {H : Type} {enc : TypeId × Value → H} {w : World} {base fuel : Nat} {sp : Nat → Bool} {held : Bool} {a : Addr} {y : DataW H × List MemPlace} (h : (w.cells? base a 3).bind (DataW.trod enc Tryz.prog w base sp held fuel 65) = some y) :
    ∃ c e k : Int, w.cell? a = some (.int .i64 c) ∧ w.cell? (a.add 1) = some (.int .u8 e) ∧ w.cell? (a.add 2) = some (.int .u8 k) ∧ (0 ≤ e ∧ e ≤ 255) ∧ (0 ≤ k ∧ k ≤ 255) := by
  rw [Option.bind_eq_some_iff] at h
  obtain ⟨cs, h1, h2⟩ := h
  obtain ⟨_, h3, h4⟩ := World.cells?_some h1
  obtain ⟨c0, c1, c2, rfl⟩ := three' cs h3
  obtain ⟨y0, y1, y2, n, _, _, e0, e1, e2⟩ := Go.Deep.trod_struct3 Tryz.underlying65 h2
  simp [cI, cU8, cKD] at e0 e1 e2
  obtain ⟨z0, q0, _, _⟩ := DataW.trod_int Tryz.underlying3 e0
  obtain ⟨z1, q1, _, w1⟩ := DataW.trod_int Tryz.underlying5 e1
  obtain ⟨z2, q2, _, w2⟩ := DataW.trod_int Tryz.underlying60 e2
  simp at q0 q1 q2
  subst q0 q1 q2
  have a0 := h4 0 (by omega)
  have a1 := h4 1 (by omega)
  have a2 := h4 2 (by omega)
  rw [show a.add 0 = a by simp [Addr.add]] at a0
  exact ⟨z0, z1, z2, a0, a1, a2, u8_wf w1, u8_wf w2⟩
set_option maxRecDepth 100000 in
theorem open_Pat {H : Type} {enc : TypeId × Value → H} {w : World} {base : Nat} {v : Value} {d : DataW H} {p : List MemPlace} (hval : Value.okWide Tryz.prog w .any base 37 v) (h : DataW.Trod enc Tryz.prog w 0 (fun _ => true) true 37 v d p) :
    ∃ (a b : Int) (pa : Option Addr) (n ca : Nat) (c e k : Nat → Int), v = .agg #[.int .i64 a, .int .i64 b, .slice pa n ca] ∧ Crs w pa n c e k ∧ (∀ i, i < n → (0 ≤ e i ∧ e i ≤ 255) ∧ (0 ≤ k i ∧ k i ≤ 255)) ∧ n ≤ maxLen := by
  obtain ⟨cs, rfl, hsz⟩ := okWide_struct Tryz.underlying37 hval
  rw [cPT] at hsz
  obtain ⟨l⟩ := cs
  obtain ⟨c0, c1, c2, rfl⟩ := three' l hsz
  obtain ⟨fu, hf⟩ := h
  obtain ⟨y0, y1, n_, _, _, e0, e1⟩ := trod_struct2 Tryz.underlying37 hf
  simp [Value.cells, cSH, cKS] at e0 e1
  obtain ⟨x0, x1, m_, _, _, g0, g1⟩ := trod_struct2 Tryz.underlying27 e0
  simp [cI] at g0 g1
  obtain ⟨a, q0, _, _⟩ := DataW.trod_int Tryz.underlying3 g0
  obtain ⟨b, q1, _, _⟩ := DataW.trod_int Tryz.underlying3 g1
  simp at q0 q1
  subst q0 q1
  rcases DataW.trod_slice Tryz.underlying35 e1 with ⟨h0, _⟩ | ⟨ad, len, cap, elems, rest, f_, _, h0, _, _, hl, hm, hlen, hel, _, _⟩
  · simp at h0
    subst h0
    exact ⟨a, b, none, 0, 0, fun _ => 0, fun _ => 0, fun _ => 0, rfl, fun h => absurd h (by decide), fun i h => by omega, Nat.zero_le _⟩
  · simp at h0
    subst h0
    have hi : ∀ i, i < len → w.cell? (ad.add (i * 3)) = some (.int .i64 (iat w (ad.add (i * 3)))) ∧ w.cell? (ad.add (i * 3 + 1)) = some (.int .u8 (iat w (ad.add (i * 3 + 1)))) ∧ w.cell? (ad.add (i * 3 + 2)) = some (.int .u8 (iat w (ad.add (i * 3 + 2)))) ∧ (0 ≤ iat w (ad.add (i * 3 + 1)) ∧ iat w (ad.add (i * 3 + 1)) ≤ 255) ∧ (0 ≤ iat w (ad.add (i * 3 + 2)) ∧ iat w (ad.add (i * 3 + 2)) ≤ 255) := fun i hi => by
      have h1 := hel i hi
      rw [cCR, List.getElem?_eq_getElem (by omega)] at h1
      obtain ⟨z0, z1, z2, p0, p1, p2, r1, r2⟩ := crease_of h1
      rw [Addr.add_add] at p1 p2
      simp only [iat, p0, p1, p2]
      exact ⟨trivial, trivial, trivial, r1, r2⟩
    refine ⟨a, b, some ad, len, cap, fun i => iat w (ad.add (i * 3)), fun i => iat w (ad.add (i * 3 + 1)), fun i => iat w (ad.add (i * 3 + 2)), rfl, fun h0 => ?_, fun i h => ⟨(hi i h).2.2.2.1, (hi i h).2.2.2.2⟩, by omega⟩
    have hsp := World.cell?_spot (hi 0 h0).1
    obtain ⟨bb, off, spot⟩ := ad
    obtain rfl : spot = none := by simpa [Addr.add] using hsp
    refine ⟨bb, off, rfl, fun i h => ?_⟩
    obtain ⟨g0, g1, g2, _, _⟩ := hi i h
    simp only [add_plain] at g0 g1 g2 ⊢
    exact ⟨g0, g1, g2⟩

end Go.Proofs.YtbghfcllicfnpaaGreatDoor
