/-
  Says: what holds of the package-level variables; where the tables lie, the executor may start.
-/
import Derived.Test.YtkmmnlhmfiabfaaGreatDoorKr
import Derived.Test.YtkmmnlhmfiabfaaGreatDoorSg4
import Derived.KernelRfl
set_option maxRecDepth 1000000
set_option linter.unusedVariables false
set_option linter.unusedSimpArgs false
namespace Go.Proofs.YtkmmnlhmfiabfaaGreatDoor
open Go Go.Vx

open Go.RowKit
set_option maxRecDepth 100000
def cornersL : List Int := [1, 1, 0, 0, 2, 0, 1, 1, 2, 2, 2, 0, 1, 1, 2, 2, 0, 2, 1, 1, 0, 0, 0, 2]
def neiL : List Value := [.int .i64 0, .int .i64 (-1), .int .u8 2, .int .i64 0, .int .i64 0, .int .u8 1, .int .i64 0, .int .i64 0, .int .u8 3, .int .i64 1, .int .i64 0, .int .u8 3, .int .i64 0, .int .i64 0, .int .u8 0, .int .i64 0, .int .i64 0, .int .u8 2, .int .i64 0, .int .i64 1, .int .u8 0, .int .i64 0, .int .i64 0, .int .u8 3, .int .i64 0, .int .i64 0, .int .u8 1, .int .i64 (-1), .int .i64 0, .int .u8 1, .int .i64 0, .int .i64 0, .int .u8 2, .int .i64 0, .int .i64 0, .int .u8 0]
/-- The package-level variables are as their initialisers laid them. -/
structure All (w : World) : Prop where
  std : Std w
  cor : ∀ i < 24, w.cell? ⟨1, i, none⟩ = some (.int .i64 (cornersL.getD i 0))
  nei : ∀ i < 36, w.cell? ⟨5, i, none⟩ = some (neiL.getD i undef)
  len : 10 ≤ w.heap.size
/-- What holds of the other package-level variables. -/
@[reducible] def stdKeeps : Keeps := ⟨Std, fun _ _ h hb => std_below h hb⟩
attribute [local instance] anySyms stdKeeps
theorem known_calls {G : VW} {f : FuncId} {args : List Value} {v : Value} (h : ∀ w, Std w → Calls Tryz.prog f ⟨args⟩ w fun e w' => e = .returned v ∧ Below w.heap.size w w') : Known Tryz.prog G f args v := fun w hL cs => by
  obtain ⟨e, w', fr, ⟨rfl, hb⟩, h1, h2, h3⟩ := h w hL.2 cs
  exact ⟨w', fr, h1, h2, h3, hb⟩
/-- A row that holds what is listed. -/
theorem row_of {w : World} {g : Nat} {l : List Value} (hl : 0 < l.length) (h : ∀ i < l.length, w.cell? ⟨g, i, none⟩ = some (l.getD i undef)) : ∃ e fr post, w.heap[g]? = some (.cells ⟨l ++ post⟩ e fr) := by
  have h0 := h 0 hl
  cases hg : w.heap[g]? with
  | none => simp [World.cell?, hg] at h0
  | some o =>
    cases o with
    | cells cs e fr =>
      obtain ⟨cs⟩ := cs
      refine ⟨e, fr, cs.drop l.length, ?_⟩
      have hc : ∀ i < l.length, cs[i]? = l[i]? := fun i hi => by
        have := h i hi
        simp [World.cell?, hg] at this
        rw [this]
        simp [List.getElem?_eq_getElem hi, List.getD_eq_getElem?_getD]
      have : cs = l ++ cs.drop l.length := by
        apply List.ext_getElem?
        intro i
        rcases Nat.lt_or_ge i l.length with hi | hi
        · rw [List.getElem?_append_left hi]; exact hc i hi
        · rw [List.getElem?_append_right hi, List.getElem?_drop]; congr 1; omega
      rw [← this]
    | _ => simp [World.cell?, hg] at h0


/-- What the tables' rows are typed as. -/
def typ (w : World) (g : Nat) : TypeId := match w.heap[g]? with
  | some (.cells _ e _) => e
  | _ => 0
theorem typ_of {w : World} {g : Nat} {cs : Array Value} {e : TypeId} {fr : Nat × Nat} (h : w.heap[g]? = some (.cells cs e fr)) : typ w g = e := by unfold typ; rw [h]
theorem tabs_G (t : Nat → TypeId) : Tabs Tryz.prog (tabG t) := by
  refine ⟨fun g hg => ?_, fun g hg => ?_, by rw [size_G]; decide⟩
  · rw [size_G] at hg
    have hc : g = 0 ∨ g = 1 ∨ g = 2 ∨ g = 3 ∨ g = 4 ∨ g = 5 ∨ g = 6 ∨ g = 7 ∨ g = 8 ∨ g = 9 := by omega
    rcases hc with rfl | rfl | rfl | rfl | rfl | rfl | rfl | rfl | rfl | rfl
    · exact .inr rfl
    · exact .inl ⟨_, _, rfl, by decide⟩
    · exact .inr rfl
    · exact .inr rfl
    · exact .inr rfl
    · exact .inl ⟨_, _, rfl, by decide⟩
    · exact .inr rfl
    · exact .inr rfl
    · exact .inr rfl
    · exact .inr rfl
  · rw [size_G] at hg
    unfold tabG
    simp only
    rw [T.get_put _ _ _ (by decide), if_neg (by omega)]
    rw [T.get_put _ _ _ (by decide), if_neg (by omega)]
    rw [T.get_put _ _ _ (by decide), if_neg (by omega)]
    rw [T.get_put _ _ _ (by decide), if_neg (by omega)]
    rw [T.get_put _ _ _ (by decide), if_neg (by omega)]
    rw [T.get_put _ _ _ (by decide), if_neg (by omega)]
    rw [T.get_put _ _ _ (by decide), if_neg (by omega)]
    rw [T.get_put _ _ _ (by decide), if_neg (by omega)]
    rw [T.get_put _ _ _ (by decide), if_neg (by omega)]
    rw [T.get_put _ _ _ (by decide), if_neg (by omega)]
    rfl
theorem lies_G {w : World} (h : All w) : Lies Tryz.prog (tabG (typ w)) w := by
  have hn := h.len
  obtain ⟨e0, fr0, p0, h0⟩ := row_of (w := w) (g := 5) (l := neiL) (by decide) (fun i hi => by
    exact h.nei i (Nat.lt_of_lt_of_eq hi rfl))
  obtain ⟨e1, fr1, p1, h1⟩ := row_of (w := w) (g := 1) (l := (cornersL.map (Value.int .i64))) (by decide) (fun i hi => by
    rw [h.cor i (Nat.lt_of_lt_of_eq hi rfl)]
    congr 1
    rw [List.getD_eq_getElem?_getD, List.getD_eq_getElem?_getD, List.getElem?_map]
    simp at hi
    have : i < (cornersL).length := by simpa using hi
    rw [List.getElem?_eq_getElem this]
    rfl)
  refine ⟨fun g hg => ?_, h.std⟩
  rw [size_G] at hg
  have hc : g = 0 ∨ g = 1 ∨ g = 2 ∨ g = 3 ∨ g = 4 ∨ g = 5 ∨ g = 6 ∨ g = 7 ∨ g = 8 ∨ g = 9 := by omega
  rcases hc with rfl | rfl | rfl | rfl | rfl | rfl | rfl | rfl | rfl | rfl
  · exact .inr ⟨rfl, by omega⟩
  · exact .inl ⟨_, _, fr1, p1, rfl, by rw [typ_of h1]; exact h1⟩
  · exact .inr ⟨rfl, by omega⟩
  · exact .inr ⟨rfl, by omega⟩
  · exact .inr ⟨rfl, by omega⟩
  · exact .inl ⟨_, _, fr0, p0, rfl, by rw [typ_of h0]; exact h0⟩
  · exact .inr ⟨rfl, by omega⟩
  · exact .inr ⟨rfl, by omega⟩
  · exact .inr ⟨rfl, by omega⟩
  · exact .inr ⟨rfl, by omega⟩


end Go.Proofs.YtkmmnlhmfiabfaaGreatDoor
