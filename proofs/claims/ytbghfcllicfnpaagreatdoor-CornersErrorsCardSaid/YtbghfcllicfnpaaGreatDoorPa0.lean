/-
  Says: rows of creases.
-/
import Derived.Test.YtbghfcllicfnpaaGreatDoorFree
import Derived.Test.YtbghfcllicfnpaaGreatDoorProg
import Derived.Laws.EntriesVeiled
set_option linter.unusedVariables false
set_option linter.unusedSimpArgs false
namespace Go.Proofs.YtbghfcllicfnpaaGreatDoor
open Go Go.RowKit

theorem fz (w : World) (n i : Nat) (h : w.heap.size ≤ n) : w.frozen? ⟨n, i, none⟩ = false := by
  have e : w.heap[n]? = none := Array.getElem?_eq_none h
  simp [World.frozen?, e]
theorem fz0 (w : World) (i : Nat) : w.frozen? ⟨w.heap.size, i, none⟩ = false := fz w _ _ (by omega)
theorem fz1 (w : World) (i : Nat) : w.frozen? ⟨w.heap.size + 1, i, none⟩ = false := fz w _ _ (by omega)
theorem fz2 (w : World) (i : Nat) : w.frozen? ⟨w.heap.size + 1 + 1, i, none⟩ = false := fz w _ _ (by omega)
theorem fz3 (w : World) (i : Nat) : w.frozen? ⟨w.heap.size + 1 + 1 + 1, i, none⟩ = false := fz w _ _ (by omega)
theorem fz4 (w : World) (i : Nat) : w.frozen? ⟨w.heap.size + 1 + 1 + 1 + 1, i, none⟩ = false := fz w _ _ (by omega)
theorem fz5 (w : World) (i : Nat) : w.frozen? ⟨w.heap.size + 1 + 1 + 1 + 1 + 1, i, none⟩ = false := fz w _ _ (by omega)

theorem eqt {A B : Int} (h : A = B) : (A == B) = true := by simpa using h
theorem eqf {A B : Int} (h : A ≠ B) : (A == B) = false := by simpa using h
theorem below_dn {B n : Nat} {w w' : World} (h : Below B w w') : Below B w (w'.drewN n) := h.trans ⟨rfl, rfl, rfl, Nat.le_refl _, fun _ _ => rfl⟩
theorem cRy {A W : World} (hR : Below A.heap.size A W) {b i : Nat} {v : Value} (h : A.cell? ⟨b, i, none⟩ = some v) : W.cell? ⟨b, i, none⟩ = some v := (hR.cell (World.block_lt_of_cell? _ _ h)).trans h
/-- A row of creases: cells, edges, kinds. -/
def Crs (w : World) (pa : Option Addr) (n : Nat) (c e k : Nat → Int) : Prop :=
  0 < n → ∃ ab ao, pa = some ⟨ab, ao, none⟩ ∧ ∀ i, i < n → w.cell? ⟨ab, ao + i * 3, none⟩ = some (.int .i64 (c i)) ∧ w.cell? ⟨ab, ao + i * 3 + 1, none⟩ = some (.int .u8 (e i)) ∧ w.cell? ⟨ab, ao + i * 3 + 2, none⟩ = some (.int .u8 (k i))
theorem Crs.below {w w' : World} {pa : Option Addr} {n : Nat} {c e k : Nat → Int} (h : Crs w pa n c e k) (hb : Below w.heap.size w w') : Crs w' pa n c e k := fun hn => by
  obtain ⟨ab, ao, h1, h2⟩ := h hn
  exact ⟨ab, ao, h1, fun i hi => ⟨cRy hb (h2 i hi).1, cRy hb (h2 i hi).2.1, cRy hb (h2 i hi).2.2⟩⟩
/-- A crease at an index, or none. -/
theorem Crs.at {w w' : World} {pa : Option Addr} {n : Nat} {c e k : Nat → Int} (h : Crs w pa n c e k) (hb : Below w.heap.size w w') {i : Nat} (hi : i < n) : ∃ ab ao, pa = some ⟨ab, ao, none⟩ ∧ ab < w.heap.size ∧ w'.cell? ⟨ab, ao + i * 3, none⟩ = some (.int .i64 (c i)) ∧ w'.cell? ⟨ab, ao + i * 3 + 1, none⟩ = some (.int .u8 (e i)) ∧ w'.cell? ⟨ab, ao + i * 3 + 2, none⟩ = some (.int .u8 (k i)) := by
  obtain ⟨ab, ao, h1, h2⟩ := h (by omega)
  obtain ⟨g1, g2, g3⟩ := h2 i hi
  exact ⟨ab, ao, h1, World.block_lt_of_cell? _ _ g1, cRy hb g1, cRy hb g2, cRy hb g3⟩
/-- Two rows are the same. -/
def SameC (n : Nat) (c e k c' e' k' : Nat → Int) : Prop := ∀ i, i < n → c i = c' i ∧ e i = e' i ∧ k i = k' i
theorem sameC_cases (n : Nat) (c e k c' e' k' : Nat → Int) : SameC n c e k c' e' k' ∨ ∃ m, m < n ∧ SameC m c e k c' e' k' ∧ ¬ (c m = c' m ∧ e m = e' m ∧ k m = k' m) := by
  induction n with
  | zero => exact .inl fun i hi => by omega
  | succ n ih =>
    rcases ih with h | ⟨m, h1, h2, h3⟩
    · by_cases hn : c n = c' n ∧ e n = e' n ∧ k n = k' n
      · refine .inl fun i hi => ?_
        rcases Nat.lt_or_ge i n with h' | h'
        · exact h i h'
        · have : i = n := by omega
          rw [this]; exact hn
      · exact .inr ⟨n, by omega, h, hn⟩
    · exact .inr ⟨m, by omega, h2, h3⟩

end Go.Proofs.YtbghfcllicfnpaaGreatDoor
