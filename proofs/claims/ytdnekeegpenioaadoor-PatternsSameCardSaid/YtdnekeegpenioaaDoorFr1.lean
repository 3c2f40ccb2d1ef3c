/-
  Says: the states between the pieces of PatternsSame.
-/
import Derived.Test.YtdnekeegpenioaaDoorFr0
import Derived.Test.YtdnekeegpenioaaDoorPaQ0
import Derived.Test.YtdnekeegpenioaaDoorPaD2
import Derived.Test.YtdnekeegpenioaaDoorPaS
import Derived.Test.YtdnekeegpenioaaDoorPaC
set_option linter.unusedVariables false
set_option linter.unusedSimpArgs false
namespace Go.Proofs.YtdnekeegpenioaaDoor
open Go Go.RowKit

theorem differ_eq (c e k : Nat → Int) (pa : Option Addr) (n ca : Nat) (c' e' k' : Nat → Int) (pb : Option Addr) (m cb : Nat) (w1 h1 w2 h2 : Int) (w : World) (hn : (n : Int) ≤ 4096) (ra : Crs w pa n c e k) (rb : Crs w pb m c' e' k') (hE : SameP w1 h1 n c e k w2 h2 m c' e' k') :
    Calls Tryd.prog 22 #[.agg #[.int .i64 w1, .int .i64 h1, .slice pa n ca], .agg #[.int .i64 w2, .int .i64 h2, .slice pb m cb]] w fun r w' => r = .returned (.int .i64 0) ∧ Below w.heap.size w w' := by
  refine (differ_any c e k pa n ca c' e' k' pb m cb w1 h1 w2 h2 w hn ra rb).mono ?_
  rintro r w' ⟨⟨D, hD, hi, rfl⟩, hb⟩
  rw [hi.2 hE]
  exact ⟨rfl, hb⟩
theorem differ_ne (c e k : Nat → Int) (pa : Option Addr) (n ca : Nat) (c' e' k' : Nat → Int) (pb : Option Addr) (m cb : Nat) (w1 h1 w2 h2 : Int) (w : World) (hn : (n : Int) ≤ 4096) (ra : Crs w pa n c e k) (rb : Crs w pb m c' e' k') (hE : ¬ SameP w1 h1 n c e k w2 h2 m c' e' k') :
    Calls Tryd.prog 22 #[.agg #[.int .i64 w1, .int .i64 h1, .slice pa n ca], .agg #[.int .i64 w2, .int .i64 h2, .slice pb m cb]] w fun r w' => r = .returned (.int .i64 1) ∧ Below w.heap.size w w' := by
  refine (differ_any c e k pa n ca c' e' k' pb m cb w1 h1 w2 h2 w hn ra rb).mono ?_
  rintro r w' ⟨⟨D, hD, hi, rfl⟩, hb⟩
  rcases hD with rfl | rfl
  · exact absurd (hi.1 rfl) hE
  · exact ⟨rfl, hb⟩
theorem Crs.al {W : World} {pa : Option Addr} {n : Nat} {c e k : Nat → Int} (h : Crs W pa n c e k) (o : Obj) : Crs (W.alloc o) pa n c e k := h.below (below_alloc (Below.refl _ _) o)
theorem Crs.onl {W : World} (u : Later W) {pa : Option Addr} {n : Nat} {c e k : Nat → Int} (h : Crs W pa n c e k) : Crs (on u) pa n c e k := h.below (on_below u)
theorem Crs.dr {W : World} {pa : Option Addr} {n : Nat} {c e k : Nat → Int} (h : Crs W pa n c e k) : Crs W.drew pa n c e k := h
theorem Crs.setK {W : World} {gb n : Nat} {c e k : Nat → Int} (h : Crs W (some ⟨gb, 0, none⟩) n c e k) (ix : Nat) (K : Int) : Crs (W.setCell ⟨gb, ix * 3 + 2, none⟩ (.int .u8 K)) (some ⟨gb, 0, none⟩) n c e (fun j => if j = ix then K else k j) := fun hn => by
  obtain ⟨ab, ao, h1, h2⟩ := h hn
  cases h1
  refine ⟨gb, 0, rfl, fun i hi => ?_⟩
  obtain ⟨g1, g2, g3⟩ := h2 i hi
  refine ⟨?_, ?_, ?_⟩
  · exact (World.cell?_setCell_other _ ⟨gb, ix * 3 + 2, none⟩ _ _ (fun h => by have : ix * 3 + 2 = 0 + i * 3 := congrArg Addr.off h; omega)).trans g1
  · exact (World.cell?_setCell_other _ ⟨gb, ix * 3 + 2, none⟩ _ _ (fun h => by have : ix * 3 + 2 = 0 + i * 3 + 1 := congrArg Addr.off h; omega)).trans g2
  · by_cases hj : i = ix
    · subst hj
      simp only [if_pos, Nat.zero_add] at g3 ⊢
      exact World.cell?_setCell_same _ _ _ g3
    · simp only [if_neg hj]
      exact (World.cell?_setCell_other _ ⟨gb, ix * 3 + 2, none⟩ _ _ (fun h => by have : ix * 3 + 2 = 0 + i * 3 + 2 := congrArg Addr.off h; omega)).trans g3
theorem held_set3 {W : World} {b : Nat} {t : TypeId} {x0 x1 x2 v0 v1 v2 : Value} (h : W.heap[b]? = some (.cells #[x0, x1, x2] t)) : (((W.setCell ⟨b, 0, none⟩ v0).setCell ⟨b, 1, none⟩ v1).setCell ⟨b, 2, none⟩ v2).heap[b]? = some (.cells #[v0, v1, v2] t) := held_set (held_set (held_set h 0 v0) 1 v1) 2 v2

/-- The state of the law: its two patterns. -/
def AB (w : World) (b7 b8 : Nat) (pa pb : Option Addr) (wa ha wb hb : Int) (na ca nb cb : Nat) (cA eA kA cB eB kB : Nat → Int) (W : World) : Prop :=
  W.heap[b7]? = some (.cells #[.int .i64 wa, .int .i64 ha, .slice pa na ca] 26) ∧ W.heap[b8]? = some (.cells #[.int .i64 wb, .int .i64 hb, .slice pb nb cb] 26) ∧ Crs W pa na cA eA kA ∧ Crs W pb nb cB eB kB ∧ Below w.heap.size w W ∧ Lay W ∧ na ≤ 96 ∧ nb ≤ 96 ∧ (∀ j, j < na → 1 ≤ kA j ∧ kA j ≤ 3)
theorem AB.below {w : World} {b7 b8 : Nat} {pa pb : Option Addr} {wa ha wb hb : Int} {na ca nb cb : Nat} {cA eA kA cB eB kB : Nat → Int} {W W' : World} (h : AB w b7 b8 pa pb wa ha wb hb na ca nb cb cA eA kA cB eB kB W) (hb_ : Below W.heap.size W W') : AB w b7 b8 pa pb wa ha wb hb na ca nb cb cA eA kA cB eB kB W' := by
  obtain ⟨h1, h2, h3, h4, h5, h6, h7, h8, h9⟩ := h
  exact ⟨(hb_.block _ (hz_lt h1)).trans h1, (hb_.block _ (hz_lt h2)).trans h2, h3.below hb_, h4.below hb_, h5.trans (hb_.mono h5.size), lay_below h6 hb_, h7, h8, h9⟩
/-- A slot holds whether something is so. -/
def HasB (t : Nat) (p : Prop) (a : Act) : Prop := ∃ F : Bool, a.tmps.getD t undef = .bool F ∧ (F = true ↔ p)
/-- The frame of the law: the result, the two patterns' variables. -/
def S7 (b7 b8 : Nat) (a : Act) : Prop := a.tmps.size = 191 ∧ a.defers = [] ∧ a.tmps.getD 6 undef = .bool false ∧ a.tmps.getD 7 undef = .pointer (some ⟨b7, 0, none⟩) ∧ a.tmps.getD 8 undef = .pointer (some ⟨b8, 0, none⟩)

theorem fitC_refl (n : Nat) (c e k : Nat → Int) : FitC n c e k c e k := fun i _ => by unfold fitB; simp
theorem fitC_of_same {n : Nat} {c e k c' e' k' : Nat → Int} (h : SameC n c e k c' e' k') : FitC n c e k c' e' k' := fun i hi => by
  obtain ⟨h1, h2, h3⟩ := h i hi
  unfold fitB; simp [h1, h2, h3]
theorem same_of_fits {n : Nat} {c e k c' e' k' : Nat → Int} (h : FitC n c e k c' e' k') (g : FitC n c' e' k' c e k) : SameC n c e k c' e' k' := fun i hi => by
  have h1 := h i hi
  have h2 := g i hi
  unfold fitB at h1 h2
  simp only [decide_eq_true_eq] at h1 h2
  obtain ⟨a1, a2, a3⟩ := h1
  obtain ⟨b1, b2, b3⟩ := h2
  refine ⟨a1, a2, ?_⟩
  rcases a3 with h | h
  · exact h
  · rcases b3 with h' | h'
    · exact h'.symm
    · rw [h, h']
/-- How many are of the first kinds. -/
def sumTo (kA : Nat → Int) (na : Nat) : Nat → Nat
  | 0 => 0
  | n + 1 => sumTo kA na n + cntK kA ((n : Int) + 1) na
theorem cnt_all (kA : Nat → Int) : ∀ (n : Nat), (∀ j, j < n → 1 ≤ kA j ∧ kA j ≤ 3) → cntK kA 1 n + cntK kA 2 n + cntK kA 3 n = n ∧ cntK kA 0 n = 0 ∧ cntK kA 4 n = 0
  | 0, _ => ⟨rfl, rfl, rfl⟩
  | n + 1, h => by
    obtain ⟨h1, h2, h3⟩ := cnt_all kA n (fun j hj => h j (by omega))
    have hk := h n (Nat.lt_succ_self n)
    unfold cntK
    have : kA n = 1 ∨ kA n = 2 ∨ kA n = 3 := by omega
    rcases this with e | e | e <;> simp [e] <;> omega
theorem sum3 (kA : Nat → Int) (na : Nat) : sumTo kA na 3 = cntK kA 1 na + cntK kA 2 na + cntK kA 3 na := by
  unfold sumTo sumTo sumTo sumTo
  rw [show ((0 : Nat) : Int) + 1 = 1 from rfl, show ((1 : Nat) : Int) + 1 = 2 from rfl, show ((2 : Nat) : Int) + 1 = 3 from rfl]
  omega

end Go.Proofs.YtdnekeegpenioaaDoor
