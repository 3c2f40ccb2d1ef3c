/-
  Says: where the tables lie, the executor may start.
-/
import Derived.Test.YtpieoofkikjjjaaGreatDoorQt
import Derived.Test.YtpieoofkikjjjaaGreatDoorLayP
set_option linter.unusedVariables false
set_option linter.unusedSimpArgs false
namespace Go.Proofs.YtpieoofkikjjjaaGreatDoor
open Go Go.RowKit

open Go.Vx
set_option maxRecDepth 100000
/-- A row that holds what is listed. -/
theorem row_of {w : World} {g : Nat} {l : List Value} (hl : 0 < l.length) (h : ∀ i < l.length, w.cell? ⟨g, i, none⟩ = some (l.getD i undef)) : ∃ e fr post, w.heap[g]? = some (.cells ⟨l ++ post⟩ e fr) := by
  have h0 := h 0 hl
  cases hg : w.heap[g]? with
  | none => simp [World.cell?, hg] at h0
  | some o =>
    cases o with
    | cells cs e fr =>
      obtain ⟨cs⟩ := cs
      refine ⟨e, fr, cs.drop l.length, ?_⟩
      have hc : ∀ i < l.length, cs[i]? = l[i]? := fun i hi => by
        have := h i hi
        simp [World.cell?, hg] at this
        rw [this]
        simp [List.getElem?_eq_getElem hi, List.getD_eq_getElem?_getD]
      have : cs = l ++ cs.drop l.length := by
        apply List.ext_getElem?
        intro i
        rcases Nat.lt_or_ge i l.length with hi | hi
        · rw [List.getElem?_append_left hi]; exact hc i hi
        · rw [List.getElem?_append_right hi, List.getElem?_drop]; congr 1; omega
      rw [← this]
    | _ => simp [World.cell?, hg] at h0

attribute [local instance] anySyms anyKeeps
/-- What the tables' rows are typed as. -/
def typ (w : World) (g : Nat) : TypeId := match w.heap[g]? with
  | some (.cells _ e _) => e
  | _ => 0
theorem typ_of {w : World} {g : Nat} {cs : Array Value} {e : TypeId} {fr : Nat × Nat} (h : w.heap[g]? = some (.cells cs e fr)) : typ w g = e := by unfold typ; rw [h]
theorem tabs_G (t : Nat → TypeId) : Tabs Tryz.prog (tabG t) := by
  refine ⟨fun g hg => ?_, fun g hg => ?_, by rw [size_G]; decide⟩
  · rw [size_G] at hg
    have hc : g = 0 ∨ g = 1 ∨ g = 2 ∨ g = 3 ∨ g = 4 ∨ g = 5 ∨ g = 6 ∨ g = 7 ∨ g = 8 ∨ g = 9 ∨ g = 10 := by omega
    rcases hc with rfl | rfl | rfl | rfl | rfl | rfl | rfl | rfl | rfl | rfl | rfl
    · exact .inr rfl
    · exact .inl ⟨_, _, rfl, by decide⟩
    · exact .inr rfl
    · exact .inr rfl
    · exact .inr rfl
    · exact .inr rfl
    · exact .inr rfl
    · exact .inr rfl
    · exact .inr rfl
    · exact .inr rfl
    · exact .inr rfl
  · rw [size_G] at hg
    unfold tabG
    simp only
    rw [T.get_put _ _ _ (by decide), if_neg (by omega)]
    rw [T.get_put _ _ _ (by decide), if_neg (by omega)]
    rw [T.get_put _ _ _ (by decide), if_neg (by omega)]
    rw [T.get_put _ _ _ (by decide), if_neg (by omega)]
    rw [T.get_put _ _ _ (by decide), if_neg (by omega)]
    rw [T.get_put _ _ _ (by decide), if_neg (by omega)]
    rw [T.get_put _ _ _ (by decide), if_neg (by omega)]
    rw [T.get_put _ _ _ (by decide), if_neg (by omega)]
    rw [T.get_put _ _ _ (by decide), if_neg (by omega)]
    rw [T.get_put _ _ _ (by decide), if_neg (by omega)]
    rw [T.get_put _ _ _ (by decide), if_neg (by omega)]
    rfl
theorem lies_G {w : World} (h : Lay w) : Lies Tryz.prog (tabG (typ w)) w := by
  have hn := h.len
  obtain ⟨e1, fr1, p1, h1⟩ := row_of (w := w) (g := 1) (l := tb1) (by decide) h.t1
  refine ⟨fun g hg => ?_, trivial⟩
  rw [size_G] at hg
  have hc : g = 0 ∨ g = 1 ∨ g = 2 ∨ g = 3 ∨ g = 4 ∨ g = 5 ∨ g = 6 ∨ g = 7 ∨ g = 8 ∨ g = 9 ∨ g = 10 := by omega
  rcases hc with rfl | rfl | rfl | rfl | rfl | rfl | rfl | rfl | rfl | rfl | rfl
  · exact .inr ⟨rfl, by omega⟩
  · exact .inl ⟨_, _, fr1, p1, rfl, by rw [typ_of h1]; exact h1⟩
  · exact .inr ⟨rfl, by omega⟩
  · exact .inr ⟨rfl, by omega⟩
  · exact .inr ⟨rfl, by omega⟩
  · exact .inr ⟨rfl, by omega⟩
  · exact .inr ⟨rfl, by omega⟩
  · exact .inr ⟨rfl, by omega⟩
  · exact .inr ⟨rfl, by omega⟩
  · exact .inr ⟨rfl, by omega⟩
  · exact .inr ⟨rfl, by omega⟩
theorem lay_below {w w' : World} (h : Lay w) (hb : Below w.heap.size w w') : Lay w' :=
  ⟨fun i hi => (hb.cell (World.block_lt_of_cell? _ _ (h.t1 i hi))).trans (h.t1 i hi), Nat.le_trans h.len hb.size⟩

end Go.Proofs.YtpieoofkikjjjaaGreatDoor
