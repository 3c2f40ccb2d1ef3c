/-
  Says: slices.Insert, in place, before the end.
-/
import Derived.Test.YtpieoofkikjjjaaGreatDoorIn0
set_option linter.unusedVariables false
set_option linter.unusedSimpArgs false
namespace Go.Proofs.YtpieoofkikjjjaaGreatDoor
open Go Go.RowKit

open Go.Lib
set_option maxHeartbeats 4000000 in
set_option maxRecDepth 100000 in
theorem ins_shift (g off n c i vb voff vc : Nat) (cur : Array Value) (vs : List Value) (w : World) (hi : i < n) (hroom : n + 1 ≤ c) (hbig : n ≤ 65536) (hg : w.heap[g]? = some (.cells cur 42 (0, 0))) (hfit : off + c * 3 ≤ cur.size) (hnc : n ≤ c) (hvb : vb ≠ g) (hvl : vs.length = 3) (hvs : ∀ j v, vs[j]? = some v → w.cell? ⟨vb, voff + j, none⟩ = some v) (h1v : ∀ v ∈ vs, v.oneCell' = true)
    (h1c : ∀ v ∈ (cur.toList.drop (off + i * 3)).take ((n - i) * 3), v.oneCell' = true) (tA tB : TypeId) (kA kB : Nat) (hsa : w.shape? vb = some (tA, kA)) (hsb : w.shape? g = some (tB, kB)) (hkB : kB ≠ 0) (hfa : w.frozen? ⟨vb, voff, none⟩ = false) (hfe : w.frozen? ⟨vb, kA, none⟩ = false) :
    Calls Tryz.prog 113 #[.slice (some ⟨g, off, none⟩) n c, .int .i64 (i : Int), .slice (some ⟨vb, voff, none⟩) 1 vc] w fun e w' => e = .returned (.slice (some ⟨g, off, none⟩) (n + 1) c) ∧ w' = w.drew.setRow g (insL cur.toList off i n vs).toArray := by
  have hz2 : ¬ ((i : Int) = (n : Int)) := by omega
  have hov : ∀ lb cb, (callFunc 148 #[.slice (some ⟨vb, voff, none⟩) 1 vc, .slice (some ⟨g, off + (i + 1) * 3, none⟩) lb cb]).run Tryz.prog w = .ok (.value (.bool false)) w := fun lb cb => by
    rw [run_callFunc_extern Tryz.func148 (by kernel_rfl) (by kernel_rfl) (by kernel_rfl) (e := Extern.SlicesOverlaps.overlaps #[33, 33] #[4]) (by kernel_rfl),
      Lib.run_overlaps_apart w 33 4 42 Tryz.underlying33 3 sizeOfC ⟨vb, voff, none⟩ ⟨g, off + (i + 1) * 3, none⟩ 1 vc lb cb hvb tA tB kA kB hsa hsb hkB hfa hfe]
    rfl
  obtain ⟨C1, hC1⟩ : ∃ C1, C1 = (cur.toList.drop (off + i * 3)).take ((n - i) * 3) := ⟨_, rfl⟩
  have hCl : C1.length = (n - i) * 3 := by
    rw [hC1, List.length_take, List.length_drop, Array.length_toList]
    omega
  have hmn : Nat.min (n + 1 - i) (n - i) = n - i := by simp only [Nat.min_def]; split <;> omega
  have hmn2 : Nat.min 1 (n + 1 - i) = 1 := by simp only [Nat.min_def]; split <;> omega
  obtain ⟨A1, hA1⟩ : ∃ A1 : Array Value, A1 = (cur.toList.take (off + (i + 1) * 3) ++ C1 ++ cur.toList.drop (off + (i + 1) * 3 + C1.length)).toArray := ⟨_, rfl⟩
  have hA1s : A1.size = cur.size := by
    rw [hA1]
    simp [hCl]
    omega
  have hcp1 : ∀ ty dc sc, (Builtin.copy_ #[33, 33] ty #[.slice (some ⟨g, off + (i + 1) * 3, none⟩) (n - i) dc, .slice (some ⟨g, off + i * 3, none⟩) (n + 1 - i) sc]).run Tryz.prog w.drew = .ok (goInt (Nat.cast (R := Int) (n - i))) (w.drew.setRow g A1) := fun ty dc sc => by
    have h := run_copy_row3 w.drew 33 33 ty 42 g (off + (i + 1) * 3) (n - i) dc ⟨g, off + i * 3, none⟩ (n + 1 - i) sc cur 42 C1 Tryz.underlying33 sizeC hg (by rw [hmn, hCl]) (fun j v hj => by
      rw [Addr.add_lit]
      rw [hC1, List.getElem?_take] at hj
      split at hj
      · rw [List.getElem?_drop] at hj
        show World.cell? w.drew _ = _
        simp only [World.cell?]
        rw [show w.drew.heap = w.heap from rfl, hg]
        simpa using hj
      · cases hj) (by rw [hCl]; omega) (fun v hv => h1c v (by rw [← hC1]; exact hv))
    rw [hmn, ← hA1] at h
    exact h
  obtain ⟨A2, hA2⟩ : ∃ A2 : Array Value, A2 = (A1.toList.take (off + i * 3) ++ vs ++ A1.toList.drop (off + i * 3 + vs.length)).toArray := ⟨_, rfl⟩
  have hcp2 : ∀ (W : World), W.heap = (w.drew.setRow g A1).heap → ∀ ty dc, (Builtin.copy_ #[33, 33] ty #[.slice (some ⟨g, off + i * 3, none⟩) (n + 1 - i) dc, .slice (some ⟨vb, voff, none⟩) 1 vc]).run Tryz.prog W = .ok (goInt (1 : Nat)) (W.setRow g A2) := fun W hW ty dc => by
    have hgW : W.heap[g]? = some (.cells A1 42 (0, 0)) := by rw [hW]; exact setRow_heap w.drew g cur A1 42 _ hg
    have h := run_copy_row3 W 33 33 ty 42 g (off + i * 3) (n + 1 - i) dc ⟨vb, voff, none⟩ 1 vc A1 42 vs Tryz.underlying33 sizeC hgW (by rw [hmn2, hvl]) (fun j v hj => by
      rw [Addr.add_lit]
      have := hvs j v hj
      simp only [World.cell?, World.setRow] at this ⊢
      rw [hW]
      simp only [World.setRow, Array.getElem?_modify]
      rw [if_neg (fun hh => hvb hh.symm)]
      exact this) (by rw [hvl, hA1s]; omega) h1v
    rw [hmn2, ← hA2] at h
    exact h
  have hfin : A2 = (insL cur.toList off i n vs).toArray := by
    have hlt : (cur.toList.take (off + (i + 1) * 3)).length = off + (i + 1) * 3 := by rw [List.length_take, Array.length_toList]; omega
    have e1 : off + i * 3 + vs.length = off + (i + 1) * 3 := by rw [hvl]; omega
    have e2 : off + (i + 1) * 3 + C1.length = off + (n + 1) * 3 := by rw [hCl]; omega
    rw [hA2, hA1, e1, e2]
    unfold insL
    rw [← hC1]
    congr 1
    simp only [List.append_assoc]
    rw [List.take_append_of_le_length (by rw [hlt]; omega), List.take_take, show min (off + i * 3) (off + (i + 1) * 3) = off + i * 3 by omega]
    congr 2
    rw [List.drop_append_of_le_length (by rw [hlt]; exact Nat.le_refl _), List.drop_eq_nil_of_le (by rw [hlt]; exact Nat.le_refl _), List.nil_append]
  have hw1 : IntKind.i64.wrap ((i : Int) + 1) = (i : Int) + 1 := by rw [IntKind.wrap_i64]; omega
  have hw2 : IntKind.i64.wrap ((n : Int) + 1) = (n : Int) + 1 := by rw [IntKind.wrap_i64]; omega
  have htn : ((i : Int) + 1).toNat = i + 1 := by omega
  have htn2 : ((n : Int) + 1).toNat = n + 1 := by omega
  have hb2 : ¬ (c = i + 1) := by omega
  have hb4 : ¬ (c = i) := by omega
  have hb5 : ¬ ((c : Int) < (n : Int) + 1) := by omega
  have hin : i ≤ n := by omega
  have hb1 : (0 : Int) ≤ (i : Int) + 1 := by omega
  have hb3 : (i : Int) ≤ (n : Int) + 1 := by omega
  have mixed : Tryz.prog.follows .mixedOrders = true := by kernel_rfl
  rw [← hfin]
  clear hC1 hA1 hA2 hfin
  go_enter Tryz.func113, Tryz.ntmps113
  go_wp2_with (simp only [hov])
  go_region_law_o (refine copyDraw rfl _ _ 33 33 rfl (.slice (some ⟨g, off + (i + 1) * 3, none⟩) (n - i) (c - (i + 1))) (.slice (some ⟨g, off + i * 3, none⟩) (n + 1 - i) (c - i)) (by simp [Act.eval, Act.put]) (by simp [Act.eval, Act.put]) (hcp1 3 (c - (i + 1)) (c - i)) ?_)
  go_wp2_with (at_builtin; refine copyStep _ rfl _ _ 33 33 rfl _ _ rfl rfl (hcp2 _ rfl _ _) ?_)
  go_ret
  exact ⟨rfl, by rw [setRow_setRow]⟩

end Go.Proofs.YtpieoofkikjjjaaGreatDoor
