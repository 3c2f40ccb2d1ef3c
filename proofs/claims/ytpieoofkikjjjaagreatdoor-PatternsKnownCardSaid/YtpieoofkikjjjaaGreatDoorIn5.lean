/-
  Says: slices.Delete, in place.
-/
import Derived.Test.YtpieoofkikjjjaaGreatDoorIn0
set_option linter.unusedVariables false
set_option linter.unusedSimpArgs false
namespace Go.Proofs.YtpieoofkikjjjaaGreatDoor
open Go Go.RowKit

open Go.Lib
theorem appDraw {P : Program} {ops : Array Oper} {o : Oper} {a : Act} {w : World} {K : Act → World → Prop} {Q : Exit → Act → World → Prop} {E : Prop}
    (hg : o.guard = none) (d x : Operand) (dT sT : TypeId) (hop : o.op = Op.call { callee := Callee.builtin Builtin.append, args := #[d, x], argTypes := #[dT, sT] })
    (v u : Value) (hd : a.eval d = v) (hx : a.eval x = u) {v' : Value} {w' : World} (hr : (Builtin.append_ #[dT, sT] o.type #[v, u]).run P w = .ok v' w') (hK : K (a.put o.dst v') w') :
    if Region.wanted o (yielded ops a.tmps) = true then Oper.wp P o a w K Q else E := by
  have hw : Region.wanted o (yielded ops a.tmps) = true := by simp [Region.wanted, hg]
  rw [if_pos hw]
  unfold Oper.wp execOp
  simp only [hop, resolve, invoke, builtin, Sem.run_bind, Sem.run_pure, Result.andThen_ok, List.map_toArray, List.map_cons, List.map_nil, hd, hx, hr]
  exact hK
theorem clearStep {P : Program} {ops : Array Oper} {rest : List Oper} (w : World) {o : Oper} {a : Act} {Q : Exit → Act → World → Prop} (hgd : o.guard = none) (d : Operand) (t : TypeId)
    (ho : o.op = .call { callee := .builtin .clear, args := #[d], argTypes := #[t] }) (v : Value) (hd : a.eval d = v) {v' : Value} {w' : World}
    (hr : (Builtin.clear_ #[t] o.type #[v]).run P w = .ok v' w') (h : wpList P ops Q rest (a.put o.dst v') w') : wpList P ops Q (o :: rest) a w :=
  wpList_plain hgd fun _ hK => by
    unfold Oper.wp execOp
    simp only [ho, resolve, invoke, builtin, Sem.run_bind, Sem.run_pure, Result.andThen_ok, List.map_toArray, List.map_cons, List.map_nil, hd, hr]
    exact hK _ _ h
/-- A row without some of its elements, the cells behind them cleared. -/
def delL (L : List Value) (o i j n : Nat) (Z : List Value) : List Value := L.take (o + i * 3) ++ (L.drop (o + j * 3)).take ((n - j) * 3) ++ Z ++ L.drop (o + n * 3)
set_option maxHeartbeats 4000000 in
set_option maxRecDepth 100000 in
theorem del_own (g off n c i j : Nat) (cur : Array Value) (w : World) (hij : i < j) (hjn : j ≤ n) (hbig : n ≤ 65536) (hg : w.heap[g]? = some (.cells cur 42 (0, 0))) (hfit : off + c * 3 ≤ cur.size) (hnc : n ≤ c)
    (h1c : ∀ v ∈ (cur.toList.drop (off + j * 3)).take ((n - j) * 3), v.oneCell' = true) :
    Calls Tryz.prog 112 #[.slice (some ⟨g, off, none⟩) n c, .int .i64 (i : Int), .int .i64 (j : Int)] w fun e w' => ∃ Z, Z.length = (j - i) * 3 ∧ e = .returned (.slice (some ⟨g, off, none⟩) (i + (n - j)) c) ∧ w' = w.drew.setRow g (delL cur.toList off i j n Z).toArray := by
  obtain ⟨i0, hi0, hz0, hzs, hzb⟩ := info_parts infoC
  obtain ⟨C1, hC1⟩ : ∃ C1, C1 = (cur.toList.drop (off + j * 3)).take ((n - j) * 3) := ⟨_, rfl⟩
  have hCl : C1.length = (n - j) * 3 := by rw [hC1, List.length_take, List.length_drop, Array.length_toList]; omega
  obtain ⟨A1, hA1⟩ : ∃ A1 : Array Value, A1 = (cur.toList.take (off + i * 3) ++ C1 ++ cur.toList.drop (off + i * 3 + C1.length)).toArray := ⟨_, rfl⟩
  have hA1s : A1.size = cur.size := by
    rw [hA1]
    simp [hCl]
    omega
  have hst := run_storeCells_at Tryz.prog g (off + i * 3) 42 C1 0 cur w.drew hg (by rw [hCl]; omega) (fun v hv => h1c v (by rw [← hC1]; exact hv))
  rw [Nat.add_zero, ← hA1] at hst
  have hsrc : ∀ q v, C1[q]? = some v → w.drew.cell? ((⟨g, off + j * 3, none⟩ : Addr).add q) = some v := fun q v hq => by
    rw [Addr.add_lit]
    rw [hC1, List.getElem?_take] at hq
    split at hq
    · rw [List.getElem?_drop] at hq
      simp only [World.cell?]
      rw [show w.drew.heap = w.heap from rfl, hg]
      simpa using hq
    · cases hq
  have hap : ∀ (a : Addr) sc, (∀ q v, C1[q]? = some v → w.drew.cell? (a.add q) = some v) → ∀ ty, (Builtin.append_ #[33, 33] ty #[.slice (some ⟨g, off, none⟩) i c, .slice (some a) (n - j) sc]).run Tryz.prog w.drew = .ok (.slice (some ⟨g, off, none⟩) (i + (n - j)) c) (w.drew.setRow g A1) := fun a sc hs ty => by
    have hl := run_loadCells_list (P := Tryz.prog) w.drew a C1 hs
    rw [hCl] at hl
    have hroom : i + (n - j) ≤ c := by omega
    simp [Builtin.append_, run_underlying Tryz.underlying33, sizeOf, typeInfo, hi0, hzs, Builtin.lenOf, Builtin.firstCells, hroom, hl, Addr.add_lit, hst]
  obtain ⟨k, hk⟩ : ∃ k, k = n - (i + (n - j)) := ⟨_, rfl⟩
  obtain ⟨Z, hZ⟩ : ∃ Z, Z = (Builtin.zeroCells (Value.agg #[.int .i64 0, .int .u8 0, .int .u8 0]).cells k).toList := ⟨_, rfl⟩
  have hZl : Z.length = k * 3 := by rw [hZ]; simp [Builtin.zeroCells, Value.cells]
  obtain ⟨A2, hA2⟩ : ∃ A2 : Array Value, A2 = (A1.toList.take (off + (i + (n - j)) * 3) ++ Z ++ A1.toList.drop (off + (i + (n - j)) * 3 + Z.length)).toArray := ⟨_, rfl⟩
  have hz1 : ∀ v ∈ Z, v.oneCell' = true := fun v hv => by
    rw [hZ] at hv
    simp only [Builtin.zeroCells, Array.toList_map, Array.toList_range, List.mem_map, List.mem_range] at hv
    obtain ⟨q, hq, rfl⟩ := hv
    have h3 : q % 3 = 0 ∨ q % 3 = 1 ∨ q % 3 = 2 := by omega
    have hs3 : (Value.agg #[.int .i64 0, .int .u8 0, .int .u8 0]).cells.size = 3 := rfl
    rw [hs3]
    rcases h3 with h3 | h3 | h3 <;> rw [h3] <;> rfl
  have hcl : ∀ ty c2, (Builtin.clear_ #[33] ty #[.slice (some ⟨g, off + (i + (n - j)) * 3, none⟩) k c2]).run Tryz.prog (w.drew.setRow g A1) = .ok (.tuple #[]) (w.drew.setRow g A2) := fun ty c2 => by
    have hgW : (w.drew.setRow g A1).heap[g]? = some (.cells A1 42 (0, 0)) := setRow_heap w.drew g cur A1 42 _ hg
    have hs2 := run_storeCells_at Tryz.prog g (off + (i + (n - j)) * 3) 42 Z 0 A1 (w.drew.setRow g A1) hgW (by rw [hZl, hA1s]; omega) hz1
    rw [Nat.add_zero, ← hA2, setRow_setRow] at hs2
    obtain ⟨m, hm⟩ : ∃ m, k = m + 1 := ⟨k - 1, by omega⟩
    rw [hZ, hm] at hs2
    rw [hm]
    simp [Builtin.clear_, run_underlying Tryz.underlying33, zeroValue, typeInfo, hi0, hz0, hs2]
  have hfin : A2 = (delL cur.toList off i j n Z).toArray := by
    have hlt : (cur.toList.take (off + i * 3)).length = off + i * 3 := by rw [List.length_take, Array.length_toList]; omega
    have e1 : (cur.toList.take (off + i * 3) ++ C1).length = off + (i + (n - j)) * 3 := by rw [List.length_append, hlt, hCl]; omega
    have e0 : A1.toList = cur.toList.take (off + i * 3) ++ C1 ++ cur.toList.drop (off + i * 3 + C1.length) := by rw [hA1]
    have e2 : A1.toList.take (off + (i + (n - j)) * 3) = cur.toList.take (off + i * 3) ++ C1 := by rw [e0, List.take_append_of_le_length (by rw [e1]; exact Nat.le_refl _), List.take_of_length_le (by rw [e1]; exact Nat.le_refl _)]
    have e3 : A1.toList.drop (off + (i + (n - j)) * 3 + Z.length) = cur.toList.drop (off + n * 3) := by
      rw [e0, List.drop_append, List.drop_eq_nil_of_le (by rw [e1]; omega), List.nil_append, e1, Nat.add_sub_cancel_left, List.drop_drop, hCl, hZl]
      congr 1
      omega
    rw [hA2, e2, e3]
    unfold delL
    rw [← hC1]
  have hw1 : ¬ ((i : Int) = (j : Int)) := by omega
  have hb0 : i ≤ j := by omega
  have hb1 : i ≤ n := by omega
  have hb2 : i ≤ c := by omega
  have hb3 : j ≤ c := by omega
  have hb4 : ¬ (n = i) := by omega
  have hb5 : i + (n - j) ≤ n := by omega
  have hb6 : ¬ (c = i + (n - j)) := by omega
  have hb7 : ¬ (c = i) := by omega
  have mixed : Tryz.prog.follows .mixedOrders = true := by kernel_rfl
  refine Calls.mono (R := fun e w' => e = .returned (.slice (some ⟨g, off, none⟩) (i + (n - j)) c) ∧ w' = w.drew.setRow g A2) ?_ (fun e w' h => ⟨Z, by rw [hZl]; omega, h.1, by rw [h.2, hfin]⟩)
  have hC0 : c = j → ∀ q v, C1[q]? = some v → w.drew.cell? ((⟨g, off, none⟩ : Addr).add q) = some v := fun hh q v hq => by
    have : C1 = [] := List.length_eq_zero_iff.1 (by rw [hCl]; omega)
    rw [this] at hq
    cases hq
  clear hC1 hCl hA1 hA1s hst hZ hZl hA2 hz1 hfin
  subst hk
  by_cases hcj : c = j
  · obtain rfl : n = j := by omega
    subst hcj
    have hap := hap ⟨g, off, none⟩ 0 (hC0 rfl)
    simp only [Nat.sub_self, Nat.add_zero] at hap hcl hb5 hb6 ⊢
    clear hsrc hC0
    go_enter Tryz.func112, Tryz.ntmps112
    go_wp2
    go_region_law_o (refine appDraw rfl _ _ 33 33 rfl (.slice (some ⟨g, off, none⟩) i c) (.slice (some ⟨g, off, none⟩) 0 0) (by simp [Act.eval, Act.put]) (by simp [Act.eval, Act.put]) (hap 33) ?_)
    go_simp
    go_wp2_with (at_builtin; refine clearStep _ rfl _ 33 rfl _ rfl (hcl _ _) ?_)
    go_ret
    exact ⟨rfl, rfl⟩
  · have hap := hap ⟨g, off + j * 3, none⟩ (c - j) hsrc
    clear hsrc
    go_enter Tryz.func112, Tryz.ntmps112
    go_wp2
    go_region_law_o (refine appDraw rfl _ _ 33 33 rfl (.slice (some ⟨g, off, none⟩) i c) (.slice (some ⟨g, off + j * 3, none⟩) (n - j) (c - j)) (by simp [Act.eval, Act.put]) (by simp [Act.eval, Act.put]) (hap 33) ?_)
    go_simp
    go_wp2_with (at_builtin; refine clearStep _ rfl _ 33 rfl _ rfl (hcl _ _) ?_)
    go_ret
    exact ⟨rfl, rfl⟩

end Go.Proofs.YtpieoofkikjjjaaGreatDoor
