/-
  Says: With of the reference.
-/
import Derived.Test.YtdnekeegpenioaaDoorPa0
import Derived.Test.YtdnekeegpenioaaDoorPaW0
import Derived.Deep.RegionHeld3
import Derived.RowKit3
import Derived.BigQuiet
import Derived.Deep.QuietTactic
import Derived.Deep.AppendLies
import Derived.Deep.RegionLaw
import Derived.Deep.RegionHeldLaw
set_option linter.unusedVariables false
set_option linter.unusedSimpArgs false
namespace Go.Proofs.YtdnekeegpenioaaDoor
open Go Go.RowKit

attribute [local go_sem] World.cell?_alloc_some frozen?_alloc_cells fz0 fz1 fz2 fz3 fz4 fz5

section
variable {P : Program} {l : List Oper} {Q : Exit → Act → World → Prop} {md : Region.Mode} {S : World → Prop}
theorem get_dropW {α : Type} {l r : List α} {i : Nat} {o : α} (h : l.drop i = o :: r) : l.toArray[i]? = some o := by
  have : (l.drop i)[0]? = some o := by rw [h]; rfl
  simpa using this
/-- Taken first, the operation written out. -/
theorem takeW {i : Nat} {oi : Oper} {r : List Oper} {v : Value} {fuel : Nat} {listed : Array Bool} {a : Act} {w : World} (hi : l.drop i = oi :: r)
    (hs : Region.noSelect l.toArray = true) (hf : Region.free md l.toArray listed i = true) (hr : (Region.ready md l.toArray listed).contains i = true)
    (hQ : ∀ c a w, Q (.panic c) (a.put oi.dst v) w → Q (.panic c) a w) (hy : YieldsIf P l.toArray S oi v a) (hS : S w)
    (h : wpAnyH P md l.toArray Q S fuel (listed.setIfInBounds i true) (a.put oi.dst v) w) : wpAnyH P md l.toArray Q S (fuel + 1) listed a w :=
  wpAnyH_take (get_dropW hi) hs hf hr hQ hy hS h
/-- The only one that may come up. -/
theorem consW {i : Nat} {o : Oper} {r : List Oper} {fuel : Nat} {listed : Array Bool} {a : Act} {w : World} (hi : l.drop i = o :: r)
    (h : ∀ K' : Act → World → Prop, Shut (∀ a w, S w → (S w → wpAnyH P md l.toArray Q S fuel (listed.setIfInBounds i true) a w) → K' a w) → if Region.wanted o (yielded l.toArray a.tmps) = true then Oper.wp P o a w K' Q else K' (a.put o.dst undef) w) : AllReadyH P md l.toArray Q S fuel listed a w [i] :=
  AllReadyH.cons (get_dropW hi) h AllReadyH.nil
end

set_option maxRecDepth 100000 in
set_option maxHeartbeats 4000000 in
theorem with_any (a b : Int) (uc ue kd : Nat → Int) (m lb lo nl cl : Nat) (w : World) (hm : m ≤ 1000) (hnl : nl ≤ 1000) (hk : ∀ i, i < nl → w.cell? ⟨lb, lo + i, none⟩ = some (.int .u8 (kd i)))
    (go : ∀ W, Below w.heap.size w W → Calls Tryd.prog 20 #[.agg #[.int .i64 a, .int .i64 b]] W fun r w' => UnsAt m uc ue r w' ∧ Below W.heap.size W w') :
    Calls Tryd.prog 23 #[.agg #[.int .i64 a, .int .i64 b], .slice (some ⟨lb, lo, none⟩) nl cl] w fun r w' => PatAt w.heap.size a b (crN kd (min m nl)) (cC uc ue kd (min m nl)) (cE uc ue kd (min m nl)) (cK uc ue kd (min m nl)) r w' ∧ Below w.heap.size w w' := by
  have rw_ : Tryd.f23.results = #[.cell 4 26] := by kernel_rfl
  obtain ⟨inf, zv, hinf, hz_, hs2, hb16, hzs⟩ := infoCr
  go_enter Tryd.func23, Tryd.ntmps23
  go_wp2_with (first | (go_at_call 20; (with_reducible refine (go _ (by repeat first | (with_reducible exact Below.refl _ _) | (with_reducible assumption) | (with_reducible refine below_on ?_ _) | (with_reducible refine below_dn ?_) | (with_reducible refine below_drew ?_) | (with_reducible refine below_alloc ?_ _) | (with_reducible refine below_set ?_ (by simp; try omega) _) | (exact below_alloc hq _))).mono ?_); rintro e wx ⟨⟨ab, ao, cu, rfl, hun⟩, hx⟩; obtain ⟨ux, rfl⟩ := after hx; clear hx) | fail)
  have hB1 : Below w.heap.size w (on ux) := (by repeat first | (with_reducible exact Below.refl _ _) | (with_reducible assumption) | (with_reducible refine below_on ?_ _) | (with_reducible refine below_dn ?_) | (with_reducible refine below_drew ?_) | (with_reducible refine below_alloc ?_ _) | (with_reducible refine below_set ?_ (by simp; try omega) _) | (exact below_alloc hq _))
  have hk1 : ∀ i, i < nl → (on ux).cell? ⟨lb, lo + i, none⟩ = some (.int .u8 (kd i)) := fun i hi => cRy hB1 (hk i hi)
  have hR1 : (on ux).heap[w.heap.size + 1]? = some (.cells #[.int .i64 0, .int .i64 0, .slice none 0 0] 26) := (ux.b.block _ (by simp)).trans (heap_alloc2_new _ _ _)
  clear hk go
  generalize (on ux) = W1 at *
  clear ux
  have hW0 : (W1.alloc (.cells #[.int .i64 a, .int .i64 b, .slice none 0 0] 26)).heap[W1.heap.size]? = some (.cells #[.int .i64 a, .int .i64 b, .slice none 0 0] 26) := heap_alloc_new _ _
  have hO0 : (W1.alloc (.cells #[.int .i64 a, .int .i64 b, .slice none 0 0] 26)).ownsRow (W1.heap.size + 1) 58 3 (.slice none 0 0) 0 [] := World.ownsRow_nil _ _ _ _
  have hL0 : Below W1.heap.size W1 (W1.alloc (.cells #[.int .i64 a, .int .i64 b, .slice none 0 0] 26)) := below_alloc (Below.refl _ _) _
  generalize (W1.alloc (.cells #[.int .i64 a, .int .i64 b, .slice none 0 0] 26)) = W2 at *
  go_loopw [7] (fun iv wr => ∃ i : Nat, iv = .int .i64 i ∧ i ≤ min m nl ∧ ∃ x : Later W1, wr = on x ∧ ∃ v, (on x).heap[W1.heap.size]? = some (.cells #[.int .i64 a, .int .i64 b, v] 26) ∧ (on x).ownsRow (W1.heap.size + 1) 58 3 v (crN kd i) (crV uc ue kd i)) (fun iv _ => ((min m nl : Nat) - intOf iv).toNat)
  case atStart => exact ⟨0, rfl, Nat.zero_le _, ⟨W2, hL0⟩, rfl, _, hW0, hO0⟩
  case round =>
    obtain ⟨i, rfl, hi, x, rfl, v, hP, hown⟩ := hrel
    have hq : Below W1.heap.size W1 (on x) := x.b
    have hlt : W1.heap.size < (on x).heap.size := (Array.getElem?_eq_some_iff.1 hP).1
    have p0 := held_cell hP 0
    have p1 := held_cell hP 1
    have p2 : (on x).cell? ⟨W1.heap.size, 2, none⟩ = some v := held_cell hP 2
    have p3 := held_free hP 2
    clear hW0 hO0 hL0
    have hcn := crN_le kd i
    by_cases hin : i < min m nl
    · have h1 : (i : Int) < m := by omega
      have h2 : (i : Int) < nl := by omega
      obtain ⟨f0, f1⟩ := hun i (by omega)
      have f2 := hk1 i (by omega)
      have g0 := f0
      have g1 := f1
      have g2 := f2
      replace f0 := cRy hq f0
      replace f1 := cRy hq f1
      replace f2 := cRy hq f2
      clear hun hk1
      by_cases hz0 : kd i = 0
      · have e1 : crN kd (i + 1) = crN kd i := by rw [crN, if_pos hz0, Nat.add_zero]
        have e2 : crV uc ue kd (i + 1) = crV uc ue kd i := by rw [crV, if_pos hz0, List.append_nil]
        rw [hz0] at f2
        go_wp2_with fail
        exact ⟨⟨i + 1, by simp, by omega, x, rfl, v, hP, by rw [e1, e2]; exact hown⟩, by simp [intOf]; omega⟩
      · have e1 : crN kd (i + 1) = crN kd i + 1 := by rw [crN, if_neg hz0]
        have e2 : crV uc ue kd (i + 1) = crV uc ue kd i ++ [.int .i64 (uc i), .int .u8 (ue i), .int .u8 (kd i)] := by rw [crV, if_neg hz0]
        have hz1 : (kd i == 0) = false := eqf hz0
        go_wp2_with fail
        have hkeep : ∀ (W0 W' : World), W0.heap = (on x).heap.push (.cells #[.int .i64 (uc i), .int .u8 (ue i), .int .u8 (kd i)] 58) → W0.grownBy W' v.ownBlock → W'.heap[W1.heap.size]? = some (.cells #[.int .i64 a, .int .i64 b, v] 26) := fun W0 W' h0 hg => by
          rw [hg.block _ (by rw [h0, Array.size_push]; omega) (fun e => by have := (hown.lt _ e.symm).1; omega), h0, Array.getElem?_push_lt hlt]
          exact (Array.getElem?_eq_getElem hlt).symm.trans hP
        have hsafe : ∀ W, Below W1.heap.size W1 W → W.cell? ⟨ab, ao + i * 2, none⟩ = some (.int .i64 (uc i)) ∧ W.cell? ⟨ab, ao + i * 2 + 1, none⟩ = some (.int .u8 (ue i)) ∧ W.cell? ⟨lb, lo + i, none⟩ = some (.int .u8 (kd i)) := fun W hb => ⟨cRy hb g0, cRy hb g1, cRy hb g2⟩
        have s0 := hsafe _ hq
        have s2 := hsafe ((on x).alloc (.cells #[.int .i64 (uc i), .int .u8 (ue i), .int .u8 (kd i)] 58)) (below_alloc hq _)
        refine wp_region_held_drew (S := fun w' : World => w'.cell? ⟨ab, ao + i * 2, none⟩ = some (.int .i64 (uc i)) ∧ w'.cell? ⟨ab, ao + i * 2 + 1, none⟩ = some (.int .u8 (ue i)) ∧ w'.cell? ⟨lb, lo + i, none⟩ = some (.int .u8 (kd i))) (by kernel_rfl) ?_ (fun hHeld => ?_)
        · ((try dsimp only); exact s0)
        refine takeW (i := 0) (v := ?_) rfl (by kernel_rfl) (by kernel_rfl) (by kernel_rfl) (fun _ _ _ h => h) (Or.inl ⟨by rfl, ?_⟩) (by assumption) ?_
        rotate_left
        · (intro w hSw; (try dsimp only at hSw); go_simp; try (with_reducible rfl))
        try simp only [Act.put, List.setIfInBounds_toArray, List.set_cons_zero, List.set_cons_succ]
        refine takeW (i := 2) (v := ?_) rfl (by kernel_rfl) (by kernel_rfl) (by kernel_rfl) (fun _ _ _ h => h) (Or.inl ⟨by rfl, ?_⟩) (by assumption) ?_
        rotate_left
        · (intro w hSw; (try dsimp only at hSw); go_simp; try (with_reducible rfl))
        try simp only [Act.put, List.setIfInBounds_toArray, List.set_cons_zero, List.set_cons_succ]
        refine takeW (i := 3) (v := ?_) rfl (by kernel_rfl) (by kernel_rfl) (by kernel_rfl) (fun _ _ _ h => h) (Or.inl ⟨by rfl, ?_⟩) (by assumption) ?_
        rotate_left
        · (intro w hSw; (try dsimp only at hSw); go_simp; try (with_reducible rfl))
        try simp only [Act.put, List.setIfInBounds_toArray, List.set_cons_zero, List.set_cons_succ]
        refine takeW (i := 4) (v := ?_) rfl (by kernel_rfl) (by kernel_rfl) (by kernel_rfl) (fun _ _ _ h => h) (Or.inl ⟨by rfl, ?_⟩) (by assumption) ?_
        rotate_left
        · (intro w hSw; (try dsimp only at hSw); go_simp; try (with_reducible rfl))
        try simp only [Act.put, List.setIfInBounds_toArray, List.set_cons_zero, List.set_cons_succ]
        refine takeW (i := 5) (v := ?_) rfl (by kernel_rfl) (by kernel_rfl) (by kernel_rfl) (fun _ _ _ h => h) (Or.inl ⟨by rfl, ?_⟩) (by assumption) ?_
        rotate_left
        · (intro w hSw; (try dsimp only at hSw); go_simp; try (with_reducible rfl))
        try simp only [Act.put, List.setIfInBounds_toArray, List.set_cons_zero, List.set_cons_succ]
        refine takeW (i := 6) (v := ?_) rfl (by kernel_rfl) (by kernel_rfl) (by kernel_rfl) (fun _ _ _ h => h) (Or.inl ⟨by rfl, ?_⟩) (by assumption) ?_
        rotate_left
        · (intro w hSw; (try dsimp only at hSw); go_simp; try (with_reducible rfl))
        try simp only [Act.put, List.setIfInBounds_toArray, List.set_cons_zero, List.set_cons_succ]
        refine takeW (i := 7) (v := ?_) rfl (by kernel_rfl) (by kernel_rfl) (by kernel_rfl) (fun _ _ _ h => h) (Or.inl ⟨by rfl, ?_⟩) (by assumption) ?_
        rotate_left
        · (intro w hSw; (try dsimp only at hSw); go_simp; try (with_reducible rfl))
        try simp only [Act.put, List.setIfInBounds_toArray, List.set_cons_zero, List.set_cons_succ]
        refine takeW (i := 8) (v := ?_) rfl (by kernel_rfl) (by kernel_rfl) (by kernel_rfl) (fun _ _ _ h => h) (Or.inl ⟨by rfl, ?_⟩) (by assumption) ?_
        rotate_left
        · (intro w hSw; (try dsimp only at hSw); go_simp; try (with_reducible rfl))
        try simp only [Act.put, List.setIfInBounds_toArray, List.set_cons_zero, List.set_cons_succ]
        refine takeW (i := 9) (v := ?_) rfl (by kernel_rfl) (by kernel_rfl) (by kernel_rfl) (fun _ _ _ h => h) (Or.inl ⟨by rfl, ?_⟩) (by assumption) ?_
        rotate_left
        · (intro w hSw; (try dsimp only at hSw); go_simp; try (with_reducible rfl))
        try simp only [Act.put, List.setIfInBounds_toArray, List.set_cons_zero, List.set_cons_succ]
        refine takeW (i := 10) (v := ?_) rfl (by kernel_rfl) (by kernel_rfl) (by kernel_rfl) (fun _ _ _ h => h) (Or.inl ⟨by rfl, ?_⟩) (by assumption) ?_
        rotate_left
        · (intro w hSw; (try dsimp only at hSw); go_simp; try (with_reducible rfl))
        try simp only [Act.put, List.setIfInBounds_toArray, List.set_cons_zero, List.set_cons_succ]
        refine takeW (i := 11) (v := ?_) rfl (by kernel_rfl) (by kernel_rfl) (by kernel_rfl) (fun _ _ _ h => h) (Or.inl ⟨by rfl, ?_⟩) (by assumption) ?_
        rotate_left
        · (intro w hSw; (try dsimp only at hSw); go_simp; try (with_reducible rfl))
        try simp only [Act.put, List.setIfInBounds_toArray, List.set_cons_zero, List.set_cons_succ]
        refine takeW (i := 12) (v := ?_) rfl (by kernel_rfl) (by kernel_rfl) (by kernel_rfl) (fun _ _ _ h => h) (Or.inl ⟨by rfl, ?_⟩) (by assumption) ?_
        rotate_left
        · (intro w hSw; (try dsimp only at hSw); go_simp; try (with_reducible rfl))
        try simp only [Act.put, List.setIfInBounds_toArray, List.set_cons_zero, List.set_cons_succ]
        refine takeW (i := 13) (v := ?_) rfl (by kernel_rfl) (by kernel_rfl) (by kernel_rfl) (fun _ _ _ h => h) (Or.inl ⟨by rfl, ?_⟩) (by assumption) ?_
        rotate_left
        · (intro w hSw; (try dsimp only at hSw); go_simp; try (with_reducible rfl))
        try simp only [Act.put, List.setIfInBounds_toArray, List.set_cons_zero, List.set_cons_succ]
        refine takeW (i := 14) (v := ?_) rfl (by kernel_rfl) (by kernel_rfl) (by kernel_rfl) (fun _ _ _ h => h) (Or.inl ⟨by rfl, ?_⟩) (by assumption) ?_
        rotate_left
        · (intro w hSw; (try dsimp only at hSw); go_simp; try (with_reducible rfl))
        try simp only [Act.put, List.setIfInBounds_toArray, List.set_cons_zero, List.set_cons_succ]
        refine takeW (i := 15) (v := ?_) rfl (by kernel_rfl) (by kernel_rfl) (by kernel_rfl) (fun _ _ _ h => h) (Or.inl ⟨by rfl, ?_⟩) (by assumption) ?_
        rotate_left
        · (intro w hSw; (try dsimp only at hSw); go_simp; try (with_reducible rfl))
        try simp only [Act.put, List.setIfInBounds_toArray, List.set_cons_zero, List.set_cons_succ]
        refine takeW (i := 16) (v := ?_) rfl (by kernel_rfl) (by kernel_rfl) (by kernel_rfl) (fun _ _ _ h => h) (Or.inl ⟨by rfl, ?_⟩) (by assumption) ?_
        rotate_left
        · (intro w hSw; (try dsimp only at hSw); go_simp; try (with_reducible rfl))
        try simp only [Act.put, List.setIfInBounds_toArray, List.set_cons_zero, List.set_cons_succ]
        refine wpAnyH_ready (rs := [1, 17]) (by kernel_rfl) (by simp) ?_
        refine AllReadyH.cons (get_dropW rfl) (fun K hK => ?_) (AllReadyH.cons (get_dropW rfl) (fun K hK => ?_) AllReadyH.nil)
        · go_simp
          refine hK.out _ _ ?_ (fun hHeld => ?_)
          · ((try dsimp only); exact s0)
          clear hK K
          try simp only [Act.put, List.setIfInBounds_toArray, List.set_cons_zero, List.set_cons_succ]
          refine wpAnyH_ready (rs := [17]) (by kernel_rfl) (by simp) ?_
          refine consW rfl (fun K hK => ?_)
          go_simp
          refine hK.out _ _ ?_ (fun hHeld => ?_)
          · ((try dsimp only); exact s2)
          clear hK K
          try simp only [Act.put, List.setIfInBounds_toArray, List.set_cons_zero, List.set_cons_succ]
          refine wpAnyH_ready (rs := [18]) (by kernel_rfl) (by simp) ?_
          refine consW rfl (fun K hK => ?_)
          (refine step_append_lies _ rfl (.tmp 30) (.tmp 46) 24 rfl (W1.heap.size + 1) 58 inf zv 3 16 Tryd.underlying24 hinf hz_ hs2 hb16 hzs (by decide) v (crN kd i) (crV uc ue kd i) (by simp [Act.eval, Act.put]) (hown.alloc _) ⟨(on x).heap.size, 0, none⟩ 1 1 [.int .i64 (uc i), .int .u8 (ue i), .int .u8 (kd i)] (by simp [Act.eval, Act.put]) rfl (row_reads (heap_alloc_new _ _)) (by simp [Value.oneCell']) (by omega) (by unfold maxLen; omega) (by omega) (by have := hq.size; simp; omega) _ rfl ?_; intro g cap w1 hown1 hg1 hgb hlt1; have hP1 := hkeep _ _ rfl hg1; have hb1 : Below W1.heap.size W1 w1 := grown_below (by repeat first | (with_reducible exact Below.refl _ _) | (with_reducible assumption) | (with_reducible refine below_on ?_ _) | (with_reducible refine below_dn ?_) | (with_reducible refine below_drew ?_) | (with_reducible refine below_alloc ?_ _) | (with_reducible refine below_set ?_ (by simp; try omega) _) | (exact below_alloc hq _)) (Nat.le_refl _) hg1 (fun k hk => by have := (hown.lt k hk).1; omega); have s1 := hsafe _ hb1; have p12 : w1.cell? ⟨W1.heap.size, 2, none⟩ = some v := held_cell hP1 2; have p13 : w1.frozen? ⟨W1.heap.size, 2, none⟩ = false := held_free hP1 2)
          refine hK.out _ _ ?_ (fun hHeld => ?_)
          · ((try dsimp only); exact s1)
          clear hK K
          try simp only [Act.put, List.setIfInBounds_toArray, List.set_cons_zero, List.set_cons_succ]
          refine takeW (i := 19) (v := ?_) rfl (by kernel_rfl) (by kernel_rfl) (by kernel_rfl) (fun _ _ _ h => h) (Or.inl ⟨by rfl, ?_⟩) (by assumption) ?_
          rotate_left
          · (intro w hSw; (try dsimp only at hSw); go_simp; try (with_reducible rfl))
          try simp only [Act.put, List.setIfInBounds_toArray, List.set_cons_zero, List.set_cons_succ]
          refine wpAnyH_ready (rs := [20]) (by kernel_rfl) (by simp) ?_
          refine consW rfl (fun K hK => ?_)
          go_simp
          refine hK.out _ _ ?_ (fun hHeld => ?_)
          · ((try dsimp only); exact hsafe _ (hb1.setCell (by simp) _))
          clear hK K
          try simp only [Act.put, List.setIfInBounds_toArray, List.set_cons_zero, List.set_cons_succ]
          refine wpAnyH_done (by kernel_rfl) ?_ _
          go_wp2_with fail
          exact ⟨⟨i + 1, by simp, by omega, ⟨_, hb1.setCell (Nat.le_refl _) _⟩, rfl, _, held_set2 hP1, by rw [e1, e2]; exact ownsRow_setCell_below (a := ⟨W1.heap.size, 2, none⟩) hown1 (Nat.lt_succ_self _) _⟩, by simp [intOf]; omega⟩
        · go_simp
          refine hK.out _ _ ?_ (fun hHeld => ?_)
          · ((try dsimp only); exact s2)
          clear hK K
          try simp only [Act.put, List.setIfInBounds_toArray, List.set_cons_zero, List.set_cons_succ]
          refine wpAnyH_ready (rs := [1]) (by kernel_rfl) (by simp) ?_
          refine consW rfl (fun K hK => ?_)
          go_simp
          refine hK.out _ _ ?_ (fun hHeld => ?_)
          · ((try dsimp only); exact s2)
          clear hK K
          try simp only [Act.put, List.setIfInBounds_toArray, List.set_cons_zero, List.set_cons_succ]
          refine wpAnyH_ready (rs := [18]) (by kernel_rfl) (by simp) ?_
          refine consW rfl (fun K hK => ?_)
          (refine step_append_lies _ rfl (.tmp 30) (.tmp 46) 24 rfl (W1.heap.size + 1) 58 inf zv 3 16 Tryd.underlying24 hinf hz_ hs2 hb16 hzs (by decide) v (crN kd i) (crV uc ue kd i) (by simp [Act.eval, Act.put]) (hown.alloc _) ⟨(on x).heap.size, 0, none⟩ 1 1 [.int .i64 (uc i), .int .u8 (ue i), .int .u8 (kd i)] (by simp [Act.eval, Act.put]) rfl (row_reads (heap_alloc_new _ _)) (by simp [Value.oneCell']) (by omega) (by unfold maxLen; omega) (by omega) (by have := hq.size; simp; omega) _ rfl ?_; intro g cap w1 hown1 hg1 hgb hlt1; have hP1 := hkeep _ _ rfl hg1; have hb1 : Below W1.heap.size W1 w1 := grown_below (by repeat first | (with_reducible exact Below.refl _ _) | (with_reducible assumption) | (with_reducible refine below_on ?_ _) | (with_reducible refine below_dn ?_) | (with_reducible refine below_drew ?_) | (with_reducible refine below_alloc ?_ _) | (with_reducible refine below_set ?_ (by simp; try omega) _) | (exact below_alloc hq _)) (Nat.le_refl _) hg1 (fun k hk => by have := (hown.lt k hk).1; omega); have s1 := hsafe _ hb1; have p12 : w1.cell? ⟨W1.heap.size, 2, none⟩ = some v := held_cell hP1 2; have p13 : w1.frozen? ⟨W1.heap.size, 2, none⟩ = false := held_free hP1 2)
          refine hK.out _ _ ?_ (fun hHeld => ?_)
          · ((try dsimp only); exact s1)
          clear hK K
          try simp only [Act.put, List.setIfInBounds_toArray, List.set_cons_zero, List.set_cons_succ]
          refine takeW (i := 19) (v := ?_) rfl (by kernel_rfl) (by kernel_rfl) (by kernel_rfl) (fun _ _ _ h => h) (Or.inl ⟨by rfl, ?_⟩) (by assumption) ?_
          rotate_left
          · (intro w hSw; (try dsimp only at hSw); go_simp; try (with_reducible rfl))
          try simp only [Act.put, List.setIfInBounds_toArray, List.set_cons_zero, List.set_cons_succ]
          refine wpAnyH_ready (rs := [20]) (by kernel_rfl) (by simp) ?_
          refine consW rfl (fun K hK => ?_)
          go_simp
          refine hK.out _ _ ?_ (fun hHeld => ?_)
          · ((try dsimp only); exact hsafe _ (hb1.setCell (by simp) _))
          clear hK K
          try simp only [Act.put, List.setIfInBounds_toArray, List.set_cons_zero, List.set_cons_succ]
          refine wpAnyH_done (by kernel_rfl) ?_ _
          go_wp2_with fail
          exact ⟨⟨i + 1, by simp, by omega, ⟨_, hb1.setCell (Nat.le_refl _) _⟩, rfl, _, held_set2 hP1, by rw [e1, e2]; exact ownsRow_setCell_below (a := ⟨W1.heap.size, 2, none⟩) hown1 (Nat.lt_succ_self _) _⟩, by simp [intOf]; omega⟩
    · obtain rfl : i = min m nl := by omega
      have hR := (hq.block _ (Array.getElem?_eq_some_iff.1 hR1).1).trans hR1
      have hRl := (Array.getElem?_eq_some_iff.1 hR1).1
      have r0 := held_cell hR 0
      have r1 := held_cell hR 1
      have r2 := held_cell hR 2
      have z0 := held_free hR 0
      have z1 := held_free hR 1
      have z2 := held_free hR 2
      obtain ⟨pa, cap, rfl, hcrs, hfr⟩ := own_crs hown
      clear hun hk1 hown hcn
      have fin : PatAt w.heap.size a b (crN kd (min m nl)) (cC uc ue kd (min m nl)) (cE uc ue kd (min m nl)) (cK uc ue kd (min m nl)) (.returned (.agg #[.int .i64 a, .int .i64 b, .slice pa (crN kd (min m nl)) cap])) ((((on x).setCell ⟨w.heap.size + 1, 0, none⟩ (.int .i64 a)).setCell ⟨w.heap.size + 1, 1, none⟩ (.int .i64 b)).setCell ⟨w.heap.size + 1, 2, none⟩ (.slice pa (crN kd (min m nl)) cap)) := by
        have hne : ∀ ad, pa = some ad → ad.block ≠ w.heap.size + 1 := fun ad h => by have := (hfr ad h).1; omega
        refine ⟨pa, cap, rfl, ((hcrs.set hne _).set hne _).set hne _, fun ad h => ?_⟩
        obtain ⟨h1, h2, h3, cs, h4⟩ := hfr ad h
        have hn := hne ad h
        refine ⟨by omega, h2, h3, cs, ?_⟩
        rw [Below.heap_setCell _ _ _ _ hn, Below.heap_setCell _ _ _ _ hn, Below.heap_setCell _ _ _ _ hn]
        exact h4
      have hBe : Below w.heap.size w ((((on x).setCell ⟨w.heap.size + 1, 0, none⟩ (.int .i64 a)).setCell ⟨w.heap.size + 1, 1, none⟩ (.int .i64 b)).setCell ⟨w.heap.size + 1, 2, none⟩ (.slice pa (crN kd (min m nl)) cap)) := (((hB1.trans (hq.mono hB1.size)).setCell (Nat.le_succ _) _).setCell (Nat.le_succ _) _).setCell (Nat.le_succ _) _
      by_cases h1 : min m nl < m
      · have h1' : ((min m nl : Nat) : Int) < m := by omega
        have h2' : ¬ ((min m nl : Nat) : Int) < nl := by omega
        generalize hN : crN kd (min m nl) = N0 at *
        generalize hM : min m nl = M0 at *
        go_wp2_with fail
        (try simp only [Exit.inBlock, Exit.then])
        go_wp2_with fail
        refine bodyPost_ret (v := .agg #[.int .i64 a, .int .i64 b, .slice pa N0 cap]) (by simp [results, rw_, go_sem, r0, r1, r2]; try rfl) rfl ?_
        subst hN
        subst hM
        exact ⟨fin, hBe⟩
      · have h1' : ¬ ((min m nl : Nat) : Int) < m := by omega
        generalize hN : crN kd (min m nl) = N0 at *
        generalize hM : min m nl = M0 at *
        go_wp2_with fail
        (try simp only [Exit.inBlock, Exit.then])
        go_wp2_with fail
        refine bodyPost_ret (v := .agg #[.int .i64 a, .int .i64 b, .slice pa N0 cap]) (by simp [results, rw_, go_sem, r0, r1, r2]; try rfl) rfl ?_
        subst hN
        subst hM
        exact ⟨fin, hBe⟩

end Go.Proofs.YtdnekeegpenioaaDoor
