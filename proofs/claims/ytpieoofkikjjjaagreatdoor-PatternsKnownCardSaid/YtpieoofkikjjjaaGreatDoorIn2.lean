/-
  Says: slices.Insert at the end.
-/
import Derived.Test.YtpieoofkikjjjaaGreatDoorIn0
set_option linter.unusedVariables false
set_option linter.unusedSimpArgs false
namespace Go.Proofs.YtpieoofkikjjjaaGreatDoor
open Go Go.RowKit

open Go.Lib
set_option maxHeartbeats 4000000 in
set_option maxRecDepth 100000 in
theorem ins_end (g off n c vb voff vc : Nat) (cur : Array Value) (vs : List Value) (w : World) (hroom : n + 1 ≤ c) (hg : w.heap[g]? = some (.cells cur 42 (0, 0))) (hfit : off + c * 3 ≤ cur.size) (hnc : n ≤ c) (hvl : vs.length = 3) (hvs : ∀ j v, vs[j]? = some v → w.cell? ⟨vb, voff + j, none⟩ = some v) (h1v : ∀ v ∈ vs, v.oneCell' = true) :
    Calls Tryz.prog 113 #[.slice (some ⟨g, off, none⟩) n c, .int .i64 (n : Int), .slice (some ⟨vb, voff, none⟩) 1 vc] w fun e w' => e = .returned (.slice (some ⟨g, off, none⟩) (n + 1) c) ∧ w' = w.setRow g (insL cur.toList off n n vs).toArray := by
  obtain ⟨i0, hi0, hz0, hzs, hzb⟩ := info_parts infoC
  have hl := run_loadCells_list (P := Tryz.prog) w ⟨vb, voff, none⟩ vs (fun j v hj => by rw [Addr.add_lit]; exact hvs j v hj)
  have hst := run_storeCells_at Tryz.prog g (off + n * 3) 42 vs 0 cur w hg (by rw [hvl]; omega) h1v
  have hfin : (cur.toList.take (off + n * 3 + 0) ++ vs ++ cur.toList.drop (off + n * 3 + 0 + vs.length)).toArray = (insL cur.toList off n n vs).toArray := by
    unfold insL
    rw [hvl, Nat.sub_self, Nat.zero_mul, List.take_zero, List.append_nil, Nat.add_zero, show off + n * 3 + 3 = off + (n + 1) * 3 by omega]
  rw [hfin] at hst
  have hrun : ∀ ty, (Builtin.append_ #[33, 33] ty #[.slice (some ⟨g, off, none⟩) n c, .slice (some ⟨vb, voff, none⟩) 1 vc]).run Tryz.prog w = .ok (.slice (some ⟨g, off, none⟩) (n + 1) c) (w.setRow g (insL cur.toList off n n vs).toArray) := fun ty => by
    have hlen : vs.length = 1 * 3 := hvl
    rw [hlen] at hl
    simp [Builtin.append_, run_underlying Tryz.underlying33, sizeOf, typeInfo, hi0, hzs, Builtin.lenOf, Builtin.firstCells, hroom, hl, Addr.add_lit, hst]
  go_enter Tryz.func113, Tryz.ntmps113
  go_wp2_with (at_builtin; refine appStep _ rfl _ _ 33 33 rfl _ _ rfl rfl (hrun _) ?_)
  go_ret
  exact ⟨rfl, rfl⟩
set_option maxHeartbeats 4000000 in
set_option maxRecDepth 100000 in
theorem ins_end_grow (g off n c vb voff vc : Nat) (cur : Array Value) (vs : List Value) (w : World) (hroom : c < n + 1) (hbig : n ≤ 65536) (hg : w.heap[g]? = some (.cells cur 42 (0, 0))) (hfit : off + c * 3 ≤ cur.size) (hnc : n ≤ c) (hvl : vs.length = 3) (hvs : ∀ j v, vs[j]? = some v → w.cell? ⟨vb, voff + j, none⟩ = some v) (h1v : ∀ v ∈ vs, v.oneCell' = true) :
    Calls Tryz.prog 113 #[.slice (some ⟨g, off, none⟩) n c, .int .i64 (n : Int), .slice (some ⟨vb, voff, none⟩) 1 vc] w fun e w' => ∃ C rest, n + 1 ≤ C ∧ rest.length = (C - (n + 1)) * 3 ∧ e = .returned (.slice (some ⟨w.heap.size, 0, none⟩) (n + 1) C) ∧ w' = w.drew.alloc (.cells (((cur.toList.drop off).take (n * 3) ++ vs) ++ rest).toArray 42) := by
  obtain ⟨i0, hi0, hz0, hzs, hzb⟩ := info_parts infoC
  have hcl : ((cur.toList.drop off).take (n * 3)).length = n * 3 := by rw [List.length_take, List.length_drop, Array.length_toList]; omega
  have hrun : ∀ ty, (Builtin.append_ #[33, 33] ty #[.slice (some ⟨g, off, none⟩) n c, .slice (some ⟨vb, voff, none⟩) 1 vc]).run Tryz.prog w = _ := fun ty =>
    run_append_grow w 33 ty 42 i0 _ Tryz.underlying33 hi0 hz0 ⟨g, off, none⟩ n c ((cur.toList.drop off).take (n * 3)) (by rw [hzs]; exact hcl) (fun j v hj => by
      rw [Addr.add_lit]
      rw [List.getElem?_take] at hj
      split at hj
      · rw [List.getElem?_drop] at hj
        simp only [World.cell?]
        rw [hg]
        simpa using hj
      · cases hj) ⟨vb, voff, none⟩ 1 vc vs (by rw [hzs]; exact hvl) (fun j v hj => by rw [Addr.add_lit]; exact hvs j v hj) hroom (by omega) (by rw [hzb]; exact growslice_fits hroom (by omega))
  have hC : n + 1 ≤ grownCap w (n + 1) c 42 := grownCap_ge w _ _ _
  go_enter Tryz.func113, Tryz.ntmps113
  go_wp2_with (at_builtin; refine appStep _ rfl _ _ 33 33 rfl _ _ rfl rfl (hrun _) ?_)
  go_ret
  refine ⟨_, (Builtin.zeroCells (Value.agg #[.int .i64 0, .int .u8 0, .int .u8 0]).cells (grownCap w (n + 1) c 42 - (n + 1))).toList, hC, ?_, rfl, ?_⟩
  · simp [Builtin.zeroCells, Value.cells]
  · show w.drew.alloc (.cells _ 42) = _
    congr 2
    apply Array.ext'
    simp [Value.cells]

end Go.Proofs.YtpieoofkikjjjaaGreatDoor
