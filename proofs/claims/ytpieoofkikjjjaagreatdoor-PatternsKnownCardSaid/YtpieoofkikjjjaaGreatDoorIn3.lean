/-
  Says: slices.Insert before the end, into a new row.
-/
import Derived.Test.YtpieoofkikjjjaaGreatDoorIn0
set_option linter.unusedVariables false
set_option linter.unusedSimpArgs false
namespace Go.Proofs.YtpieoofkikjjjaaGreatDoor
open Go Go.RowKit

open Go.Lib
theorem alloc_setRow (w : World) (a b : Array Value) (t : TypeId) : (w.alloc (.cells a t)).setRow w.heap.size b = w.alloc (.cells b t) := by
  unfold World.setRow World.alloc
  cases w with
  | mk heap tape drawn os output =>
    congr 1
    apply Array.ext
    · simp
    · intro k h1 h2
      simp only [Array.getElem_modify, Array.getElem_push]
      split
      · rename_i hk
        subst hk
        simp
      · rename_i hk
        have h3 : k < heap.size + 1 := by simpa using h1
        have h4 : ¬ heap.size = k := hk
        have : k < heap.size := by omega
        simp [this]
set_option maxHeartbeats 4000000 in
set_option maxRecDepth 100000 in
theorem ins_grow (g off n c i vb voff vc : Nat) (cur : Array Value) (vs : List Value) (w : World) (hi : i < n) (hroom : c < n + 1) (hbig : n ≤ 65536) (hg : w.heap[g]? = some (.cells cur 42 (0, 0))) (hfit : off + c * 3 ≤ cur.size) (hnc : n ≤ c) (hvl : vs.length = 3) (hvs : ∀ j v, vs[j]? = some v → w.cell? ⟨vb, voff + j, none⟩ = some v) (h1v : ∀ v ∈ vs, v.oneCell' = true) (h1c : ∀ v ∈ (cur.toList.drop (off + i * 3)).take ((n - i) * 3), v.oneCell' = true) (hvw : vb < w.heap.size) :
    Calls Tryz.prog 113 #[.slice (some ⟨g, off, none⟩) n c, .int .i64 (i : Int), .slice (some ⟨vb, voff, none⟩) 1 vc] w fun e w' => ∃ C rest, n + 1 ≤ C ∧ rest.length = (C - (n + 1)) * 3 ∧ e = .returned (.slice (some ⟨w.heap.size, 0, none⟩) (n + 1) C) ∧ w' = w.drew.drew.alloc (.cells ((cur.toList.drop off).take (i * 3) ++ vs ++ (cur.toList.drop (off + i * 3)).take ((n - i) * 3) ++ rest).toArray 42) := by
  obtain ⟨i0, hi0, hz0, hzs, hzb⟩ := info_parts infoC
  have hgw : g < w.heap.size := (Array.getElem?_eq_some_iff.1 hg).1
  have hz2 : ¬ ((i : Int) = (n : Int)) := by omega
  have hz3 : (c : Int) < (n : Int) + 1 := by omega
  obtain ⟨O1, hO1⟩ : ∃ O1, O1 = (cur.toList.drop off).take (i * 3) := ⟨_, rfl⟩
  have hOl : O1.length = i * 3 := by rw [hO1, List.length_take, List.length_drop, Array.length_toList]; omega
  obtain ⟨C1, hC1⟩ : ∃ C1, C1 = (cur.toList.drop (off + i * 3)).take ((n - i) * 3) := ⟨_, rfl⟩
  have hCl : C1.length = (n - i) * 3 := by rw [hC1, List.length_take, List.length_drop, Array.length_toList]; omega
  have hold : (Builtin.firstCells i0.size i (.slice (some ⟨g, off, none⟩) i c)).run Tryz.prog w.drew = .ok O1.toArray w.drew := by
    rw [hzs]
    exact run_firstCells_some w.drew 3 i ⟨g, off, none⟩ i c O1 hOl (fun j v hj => by
      rw [Addr.add_lit]
      rw [hO1, List.getElem?_take] at hj
      split at hj
      · rw [List.getElem?_drop] at hj
        show World.cell? w.drew _ = _
        simp only [World.cell?]
        rw [show w.drew.heap = w.heap from rfl, hg]
        simpa using hj
      · cases hj)
  have hik : i + (n + 1 - i) = n + 1 := by omega
  have hkk : (n : Int) + 1 - (i : Int) = ((n + 1 - i : Nat) : Int) := by omega
  obtain ⟨C, hC⟩ : ∃ C, C = grownCap w (n + 1) c 42 := ⟨_, rfl⟩
  have hCn : n + 1 ≤ C := by rw [hC]; exact grownCap_ge w _ _ _
  have hC63 : C ≤ 9223372036854775807 := by
    have := grownCap_le_maxLen w (n + 1) c 42 (by unfold maxLen; omega)
    rw [← hC] at this
    unfold maxLen at this
    omega
  obtain ⟨Z1, hZ1⟩ : ∃ Z1, Z1 = (Builtin.zeroCells (Value.agg #[.int .i64 0, .int .u8 0, .int .u8 0]).cells (n + 1 - i)).toList := ⟨_, rfl⟩
  obtain ⟨Z2, hZ2⟩ : ∃ Z2, Z2 = (Builtin.zeroCells (Value.agg #[.int .i64 0, .int .u8 0, .int .u8 0]).cells (C - (n + 1))).toList := ⟨_, rfl⟩
  have hZ1l : Z1.length = (n + 1 - i) * 3 := by rw [hZ1]; simp [Builtin.zeroCells, Value.cells]
  have hZ2l : Z2.length = (C - (n + 1)) * 3 := by rw [hZ2]; simp [Builtin.zeroCells, Value.cells]
  obtain ⟨ROW, hROW⟩ : ∃ ROW : Array Value, ROW = (O1 ++ Z1 ++ Z2).toArray := ⟨_, rfl⟩
  have hrz : ∀ ty, (Builtin.append_ #[33, 3] ty #[.slice (some ⟨g, off, none⟩) i c, .int .i64 ((n : Int) + 1 - (i : Int))]).run Tryz.prog w = .ok (.slice (some ⟨w.heap.size, 0, none⟩) (n + 1) C) (w.drew.alloc (.cells ROW 42)) := fun ty => by
    have h := Lib.run_append_grow_zeros w 33 3 ty 42 i0 _ .i64 .i64 Tryz.underlying33 Tryz.underlying3 hi0 hz0 (some ⟨g, off, none⟩) i c O1 hold (n + 1 - i) (by omega) (by omega) (by omega) (by omega) (by rw [hzb]; omega) (by rw [hzb, hik]; exact growslice_fits hroom (by omega))
    rw [hik] at h
    rw [hkk, h, ← hC]
    congr 3
    rw [hROW, hZ1, hZ2]
    apply Array.ext'
    simp
  have hRl : ROW.size = C * 3 := by
    rw [hROW]
    simp [hOl, hZ1l, hZ2l]
    omega
  have hmn : Nat.min 1 (n + 1 - i) = 1 := by simp only [Nat.min_def]; split <;> omega
  have hmn2 : Nat.min (n - i) (n - i) = n - i := by simp
  obtain ⟨W1, hW1⟩ : ∃ W1, W1 = w.drew.alloc (.cells ROW 42) := ⟨_, rfl⟩
  rw [← hW1] at hrz
  obtain ⟨R1, hR1⟩ : ∃ R1 : Array Value, R1 = (ROW.toList.take (i * 3) ++ vs ++ ROW.toList.drop (i * 3 + vs.length)).toArray := ⟨_, rfl⟩
  have hR1l : R1.size = C * 3 := by
    rw [hR1]
    simp [hvl, hRl]
    omega
  have hcpA : ∀ ty dc, (Builtin.copy_ #[33, 33] ty #[.slice (some ⟨w.heap.size, i * 3, none⟩) (n + 1 - i) dc, .slice (some ⟨vb, voff, none⟩) 1 vc]).run Tryz.prog W1 = .ok (goInt (Nat.cast (R := Int) 1)) (W1.setRow w.heap.size R1) := fun ty dc => by
    have hgW : W1.heap[w.heap.size]? = some (.cells ROW 42 (0, 0)) := by rw [hW1]; show (w.heap.push _)[w.heap.size]? = _; simp
    have h := run_copy_row3 W1 33 33 ty 42 w.heap.size (i * 3) (n + 1 - i) dc ⟨vb, voff, none⟩ 1 vc ROW 42 vs Tryz.underlying33 sizeC hgW (by rw [hmn, hvl]) (fun j v hj => by
      rw [Addr.add_lit, hW1, World.cell?_alloc_past (w := w.drew) _ vb _ hvw]
      exact hvs j v hj) (by rw [hvl, hRl]; omega) h1v
    rw [hmn, ← hR1] at h
    exact h
  obtain ⟨R2, hR2⟩ : ∃ R2 : Array Value, R2 = (R1.toList.take ((i + 1) * 3) ++ C1 ++ R1.toList.drop ((i + 1) * 3 + C1.length)).toArray := ⟨_, rfl⟩
  have hcpB : ∀ (W : World), W.heap = (W1.setRow w.heap.size R1).heap → ∀ ty dc sc, (Builtin.copy_ #[33, 33] ty #[.slice (some ⟨w.heap.size, (i + 1) * 3, none⟩) (n - i) dc, .slice (some ⟨g, off + i * 3, none⟩) (n - i) sc]).run Tryz.prog W = .ok (goInt (Nat.cast (R := Int) (n - i))) (W.setRow w.heap.size R2) := fun W hW ty dc sc => by
    have hgW : W.heap[w.heap.size]? = some (.cells R1 42 (0, 0)) := by rw [hW, hW1]; exact setRow_heap _ _ ROW R1 42 _ (by show (w.heap.push _)[w.heap.size]? = _; simp)
    have h := run_copy_row3 W 33 33 ty 42 w.heap.size ((i + 1) * 3) (n - i) dc ⟨g, off + i * 3, none⟩ (n - i) sc R1 42 C1 Tryz.underlying33 sizeC hgW (by rw [hmn2, hCl]) (fun j v hj => by
      rw [Addr.add_lit]
      rw [hC1, List.getElem?_take] at hj
      split at hj
      · rw [List.getElem?_drop] at hj
        simp only [World.cell?]
        rw [hW, hW1]
        simp only [World.setRow, Array.getElem?_modify]
        rw [if_neg (by omega)]
        rw [show (w.drew.alloc (.cells ROW 42)).heap = w.heap.push (.cells ROW 42) from rfl, Array.getElem?_push, if_neg (by omega), hg]
        simpa using hj
      · cases hj) (by rw [hCl, hR1l]; omega) (fun v hv => h1c v (by rw [← hC1]; exact hv))
    rw [hmn2, ← hR2] at h
    exact h
  have hfin : R2 = (O1 ++ vs ++ C1 ++ Z2).toArray := by
    have e0 : ROW.toList = O1 ++ Z1 ++ Z2 := by rw [hROW]
    have e1 : ROW.toList.take (i * 3) = O1 := by rw [e0, List.append_assoc, List.take_append_of_le_length (by rw [hOl]; exact Nat.le_refl _), List.take_of_length_le (by rw [hOl]; exact Nat.le_refl _)]
    have e2 : R1.toList = O1 ++ vs ++ ROW.toList.drop (i * 3 + vs.length) := by rw [hR1, e1]
    have e3 : (O1 ++ vs).length = (i + 1) * 3 := by rw [List.length_append, hOl, hvl]; omega
    have e4 : R1.toList.take ((i + 1) * 3) = O1 ++ vs := by rw [e2, List.take_append_of_le_length (by rw [e3]; exact Nat.le_refl _), List.take_of_length_le (by rw [e3]; exact Nat.le_refl _)]
    have e5 : R1.toList.drop ((i + 1) * 3 + C1.length) = Z2 := by
      rw [e2, List.drop_append, List.drop_eq_nil_of_le (by rw [e3]; omega), List.nil_append, e3, Nat.add_sub_cancel_left, List.drop_drop, e0, hCl, hvl, List.drop_append, List.drop_eq_nil_of_le (by rw [List.length_append, hOl, hZ1l]; omega), List.nil_append]
      rw [show i * 3 + 3 + (n - i) * 3 - (O1 ++ Z1).length = 0 by rw [List.length_append, hOl, hZ1l]; omega]
      rfl
    rw [hR2, e4, e5]
  have hw1 : IntKind.i64.wrap ((i : Int) + 1) = (i : Int) + 1 := by rw [IntKind.wrap_i64]; omega
  have hw2 : IntKind.i64.wrap ((n : Int) + 1) = (n : Int) + 1 := by rw [IntKind.wrap_i64]; omega
  have hw3 : IntKind.i64.wrap ((n : Int) + 1 - (i : Int)) = (n : Int) + 1 - (i : Int) := by rw [IntKind.wrap_i64]; omega
  have htn : ((i : Int) + 1).toNat = i + 1 := by omega
  have hGi : ¬ (C = i) := by omega
  have hGim : ¬ (C = i + 1) := by omega
  have hci : ¬ (c = i) := by omega
  have hin : i ≤ n := by omega
  have hb1 : (0 : Int) ≤ (i : Int) + 1 := by omega
  have hb3 : (i : Int) ≤ (n : Int) + 1 := by omega
  have hb6 : i ≤ n + 1 := by omega
  have mixed : Tryz.prog.follows .mixedOrders = true := by kernel_rfl
  have hend : ∀ e, e = Ending.returned (.slice (some ⟨w.heap.size, 0, none⟩) (n + 1) C) → ∃ C rest, n + 1 ≤ C ∧ rest.length = (C - (n + 1)) * 3 ∧ e = .returned (.slice (some ⟨w.heap.size, 0, none⟩) (n + 1) C) ∧ ((W1.setRow w.heap.size R1).drew.setRow w.heap.size R2) = w.drew.drew.alloc (.cells (O1 ++ vs ++ C1 ++ rest).toArray 42) := fun e he => by
    refine ⟨C, Z2, hCn, hZ2l, he, ?_⟩
    rw [← hfin, hW1]
    rw [show (w.drew.alloc (.cells ROW 42)).setRow w.heap.size R1 = w.drew.alloc (.cells R1 42) from alloc_setRow w.drew ROW R1 42]
    exact alloc_setRow w.drew.drew R1 R2 42
  rw [← hO1, ← hC1]
  clear hkk hik hold hROW hC hRl hfin hR1 hR2 hR1l hO1 hC1 hW1
  go_enter Tryz.func113, Tryz.ntmps113
  go_wp2_with (first
    | (at_builtin; refine appStep _ rfl _ _ 33 3 rfl _ _ rfl rfl (hrz _) ?_)
    | (at_builtin; refine copyStep _ rfl _ _ 33 33 rfl _ _ rfl rfl (hcpA _ _) ?_))

  go_region_law_o (refine copyDraw rfl _ _ 33 33 rfl (.slice (some ⟨w.heap.size, (i + 1) * 3, none⟩) (n - i) (C - (i + 1))) (.slice (some ⟨g, off + i * 3, none⟩) (n - i) (c - i)) (by simp [Act.eval, Act.put]) (by simp [Act.eval, Act.put]) (hcpB (W1.setRow w.heap.size R1).drew rfl 3 (C - (i + 1)) (c - i)) ?_)
  go_wp2
  go_ret
  exact hend _ rfl

end Go.Proofs.YtpieoofkikjjjaaGreatDoor
