/-
  Says: P.Of.
-/
import Derived.Test.YtdnekeegpenioaaDoorPa0
import Derived.Test.YtdnekeegpenioaaDoorPaW0
import Derived.Deep.RegionHeld3
import Derived.RowKit3
import Derived.BigQuiet
import Derived.Deep.QuietTactic
import Derived.Deep.OwnRows
set_option linter.unusedVariables false
set_option linter.unusedSimpArgs false
namespace Go.Proofs.YtdnekeegpenioaaDoor
open Go Go.RowKit

attribute [local go_sem] World.cell?_alloc_some frozen?_alloc_cells fz0 fz1 fz2 fz3 fz4 fz5

/-- A row of bytes. -/
def Byts (w : World) (pk : Option Addr) (nk : Nat) (kd : Nat → Int) : Prop := 0 < nk → ∃ ab ao, pk = some ⟨ab, ao, none⟩ ∧ ∀ i, i < nk → w.cell? ⟨ab, ao + i, none⟩ = some (.int .u8 (kd i))
/-- The kinds that P gives: those of the list, rest 4; none behind it. -/
def kdOf (nk : Nat) (kd : Nat → Int) (i : Nat) : Int := if i < nk then (kd i).tmod 4 else 0
set_option maxRecDepth 100000 in
set_option maxHeartbeats 4000000 in
theorem of_walk (W H sw sh s6 : Int) (n : Nat) (kd : Nat → Int) (pk : Option Addr) (nk ck : Nat) (w : World) (hb : Byts w pk nk kd)
    (b1 : 0 ≤ W.tmod 4) (b2 : W.tmod 4 ≤ 3) (b3 : 0 ≤ H.tmod 4) (b4 : H.tmod 4 ≤ 3) (e1 : 1 + W.tmod 4 = sw) (e2 : 1 + H.tmod 4 = sh) (e3 : 6 * sw = s6) (e4 : s6 * sh = n) (e5 : 6 ≤ s6) (e6 : s6 ≤ 24) (e7 : 6 ≤ n) (e8 : n ≤ 96) (hnk : (nk : Int) ≤ 9223372036854775807)
    (N : Nat) (c e k : Nat → Int)
    (go : ∀ W' lb, Below w.heap.size w W' → w.heap.size ≤ lb → (∀ i, i < n → W'.cell? ⟨lb, i, none⟩ = some (.int .u8 (kdOf nk kd i))) → Calls Tryd.prog 23 #[.agg #[.int .i64 sw, .int .i64 sh], .slice (some ⟨lb, 0, none⟩) n n] W' fun r w' => PatAt W'.heap.size sw sh N c e k r w' ∧ Below W'.heap.size W' w') :
    Calls Tryd.prog 17 #[.agg #[.int .u8 W, .int .u8 H, .slice pk nk ck]] w fun r w' => PatAt w.heap.size sw sh N c e k r w' ∧ Below w.heap.size w w' := by
  have rw_ : Tryd.f17.results = #[.cell 2 26] := by kernel_rfl
  have hmk := run_make_row' (P := Tryd.prog) 46 34 (.int .u8 0) 1 Tryd.underlying46 (by kernel_rfl) rfl .i64 .i64 n (by omega) (by omega)
  go_enter Tryd.func17, Tryd.ntmps17
  go_wp2_with fail
  have hB0 : Below w.heap.size w (((w.alloc (.cells #[.int .u8 W, .int .u8 H, .slice pk nk ck] 42)).alloc (.cells #[.int .i64 0, .int .i64 0, .slice none 0 0] 26)).alloc (.cells #[.int .i64 sw, .int .i64 sh] 23)) := (by repeat first | (with_reducible exact Below.refl _ _) | (with_reducible assumption) | (with_reducible refine below_on ?_ _) | (with_reducible refine below_dn ?_) | (with_reducible refine below_drew ?_) | (with_reducible refine below_alloc ?_ _) | (with_reducible refine below_set ?_ (by simp; try omega) _) | (exact below_alloc hq _))
  have x0 : (((w.alloc (.cells #[.int .u8 W, .int .u8 H, .slice pk nk ck] 42)).alloc (.cells #[.int .i64 0, .int .i64 0, .slice none 0 0] 26)).alloc (.cells #[.int .i64 sw, .int .i64 sh] 23)).cell? ⟨w.heap.size, 2, none⟩ = some (.slice pk nk ck) := by simp [go_sem]
  have x2 : (((w.alloc (.cells #[.int .u8 W, .int .u8 H, .slice pk nk ck] 42)).alloc (.cells #[.int .i64 0, .int .i64 0, .slice none 0 0] 26)).alloc (.cells #[.int .i64 sw, .int .i64 sh] 23)).cell? ⟨w.heap.size + 1 + 1, 0, none⟩ = some (.int .i64 sw) := by simp [go_sem]
  have x3 : (((w.alloc (.cells #[.int .u8 W, .int .u8 H, .slice pk nk ck] 42)).alloc (.cells #[.int .i64 0, .int .i64 0, .slice none 0 0] 26)).alloc (.cells #[.int .i64 sw, .int .i64 sh] 23)).cell? ⟨w.heap.size + 1 + 1, 1, none⟩ = some (.int .i64 sh) := by simp [go_sem]
  have xR : (((w.alloc (.cells #[.int .u8 W, .int .u8 H, .slice pk nk ck] 42)).alloc (.cells #[.int .i64 0, .int .i64 0, .slice none 0 0] 26)).alloc (.cells #[.int .i64 sw, .int .i64 sh] 23)).heap[w.heap.size + 1]? = some (.cells #[.int .i64 0, .int .i64 0, .slice none 0 0] 26) := by show (((w.alloc _).alloc _).heap.push _)[w.heap.size + 1]? = _; rw [Array.getElem?_push_lt (by simp)]; exact (Array.getElem?_eq_getElem (by simp)).symm.trans (heap_alloc2_new _ _ _)
  have xs : (((w.alloc (.cells #[.int .u8 W, .int .u8 H, .slice pk nk ck] 42)).alloc (.cells #[.int .i64 0, .int .i64 0, .slice none 0 0] 26)).alloc (.cells #[.int .i64 sw, .int .i64 sh] 23)).heap.size = w.heap.size + 1 + 1 + 1 := by simp
  generalize (((w.alloc (.cells #[.int .u8 W, .int .u8 H, .slice pk nk ck] 42)).alloc (.cells #[.int .i64 0, .int .i64 0, .slice none 0 0] 26)).alloc (.cells #[.int .i64 sw, .int .i64 sh] 23)) = W3 at *
  have hr := World.rowIs_made W3 (.int .u8 0) n 34
  have y0 : (W3.alloc (.cells (madeCells #[.int .u8 0] n) 34)).cell? ⟨w.heap.size, 2, none⟩ = some (.slice pk nk ck) := cRy (below_alloc (Below.refl _ _) _) x0
  have y2 : (W3.alloc (.cells (madeCells #[.int .u8 0] n) 34)).cell? ⟨w.heap.size + 1 + 1, 0, none⟩ = some (.int .i64 sw) := cRy (below_alloc (Below.refl _ _) _) x2
  have y3 : (W3.alloc (.cells (madeCells #[.int .u8 0] n) 34)).cell? ⟨w.heap.size + 1 + 1, 1, none⟩ = some (.int .i64 sh) := cRy (below_alloc (Below.refl _ _) _) x3
  have yR : (W3.alloc (.cells (madeCells #[.int .u8 0] n) 34)).heap[w.heap.size + 1]? = some (.cells #[.int .i64 0, .int .i64 0, .slice none 0 0] 26) := by show (W3.heap.push _)[w.heap.size + 1]? = _; rw [Array.getElem?_push_lt (by omega)]; exact (Array.getElem?_eq_getElem (by omega)).symm.trans xR
  have hB1 : Below w.heap.size w (W3.alloc (.cells (madeCells #[.int .u8 0] n) 34)) := below_alloc hB0 _
  rw [xs] at hr
  clear xs
  generalize (W3.alloc (.cells (madeCells #[.int .u8 0] n) 34)) = W4 at *
  clear hmk hB0 x0 x2 x3 xR
  go_loopw [5] (fun iv wr => ∃ i : Nat, iv = .int .i64 i ∧ i ≤ min n nk ∧ ∃ x : Later w, wr = on x ∧ (on x).cell? ⟨w.heap.size, 2, none⟩ = some (.slice pk nk ck) ∧ (on x).cell? ⟨w.heap.size + 1 + 1, 0, none⟩ = some (.int .i64 sw) ∧ (on x).cell? ⟨w.heap.size + 1 + 1, 1, none⟩ = some (.int .i64 sh) ∧ (on x).heap[w.heap.size + 1]? = some (.cells #[.int .i64 0, .int .i64 0, .slice none 0 0] 26) ∧ (on x).rowIs (w.heap.size + 1 + 1 + 1) 34 n (fun j => .int .u8 (if j < i then kdOf nk kd j else 0))) (fun iv _ => ((min n nk : Nat) - intOf iv).toNat)
  case atStart => exact ⟨0, rfl, Nat.zero_le _, ⟨W4, hB1⟩, rfl, y0, y2, y3, yR, hr⟩
  case round =>
    obtain ⟨i, rfl, hi, x, rfl, l0, l2, l3, lR, hrow⟩ := hrel
    have hq : Below w.heap.size w (on x) := x.b
    clear y0 y2 y3 yR hr hB1
    by_cases hin : i < min n nk
    · have h1 : (i : Int) < n := by omega
      have h2 : (i : Int) < nk := by omega
      obtain ⟨kb, ko, rfl, hk⟩ := hb (by omega)
      have f2 := hk i (by omega)
      have hkb := World.block_lt_of_cell? _ _ f2
      replace f2 := cRy hq f2
      have f3 : (on x).cell? ⟨w.heap.size + 1 + 1 + 1, i, none⟩ = some (.int .u8 0) := by have := hrow.cell (i := i) (by omega); simpa using this
      have f4 : (on x).frozen? ⟨w.heap.size + 1 + 1 + 1, i, none⟩ = false := hrow.frozen i
      have hnx := hrow.set i (.int .u8 ((kd i).tmod 4))
      clear hb hk go
      go_wp2_with fail
      have hne : (w.heap.size + 1 + 1 + 1) ≠ w.heap.size + 1 := by omega
      exact ⟨⟨i + 1, by simp, by omega, ⟨_, hq.setCell (p := ⟨w.heap.size + 1 + 1 + 1, i, none⟩) (show w.heap.size ≤ w.heap.size + 1 + 1 + 1 by omega) _⟩, rfl, (World.cell?_setCell_far _ _ _ _ (by simp <;> omega)).trans l0, (World.cell?_setCell_far _ _ _ _ (by simp <;> omega)).trans l2, (World.cell?_setCell_far _ _ _ _ (by simp <;> omega)).trans l3, (Below.heap_setCell _ _ _ _ (by simp <;> omega)).trans lR, hnx.congr (fun j hj => by
        by_cases hji : j = i
        · subst hji
          rw [if_pos rfl, if_pos (by omega)]
          unfold kdOf
          rw [if_pos (by omega)]
        · rw [if_neg hji]
          by_cases hlt : j < i
          · rw [if_pos hlt, if_pos (by omega)]
          · rw [if_neg hlt, if_neg (by omega)])⟩, by simp [intOf]; omega⟩
    · obtain rfl : i = min n nk := by omega
      have hkk : ∀ j, j < n → (on x).cell? ⟨w.heap.size + 1 + 1 + 1, j, none⟩ = some (.int .u8 (kdOf nk kd j)) := fun j hj => by
        rw [hrow.cell (i := j) hj]
        by_cases hj2 : j < min n nk
        · rw [if_pos hj2]
        · rw [if_neg hj2]
          unfold kdOf
          rw [if_neg (by omega)]
      have hlt := (Array.getElem?_eq_some_iff.1 lR).1
      have fin : ∀ {W' : World} (pa : Option Addr) (cap : Nat), Crs W' pa N c e k → (∀ ad, pa = some ad → (on x).heap.size ≤ ad.block ∧ ad.off = 0 ∧ ad.spot = none ∧ ∃ cs, W'.heap[ad.block]? = some (.cells cs 58 (0, 0))) → Below (on x).heap.size (on x) W' → PatAt w.heap.size sw sh N c e k (.returned (.agg #[.int .i64 sw, .int .i64 sh, .slice pa N cap])) (((W'.setCell ⟨w.heap.size + 1, 0, none⟩ (.int .i64 sw)).setCell ⟨w.heap.size + 1, 1, none⟩ (.int .i64 sh)).setCell ⟨w.heap.size + 1, 2, none⟩ (.slice pa N cap)) := by
        intro W' pa cap hcrs hfr hx
        have hne : ∀ ad, pa = some ad → ad.block ≠ w.heap.size + 1 := fun ad h => by have := (hfr ad h).1; omega
        refine ⟨pa, cap, rfl, ((hcrs.set hne _).set hne _).set hne _, fun ad h => ?_⟩
        obtain ⟨h1, h2, h3, cs, h4⟩ := hfr ad h
        have hn := hne ad h
        refine ⟨by omega, h2, h3, cs, ?_⟩
        rw [Below.heap_setCell _ _ _ _ hn, Below.heap_setCell _ _ _ _ hn, Below.heap_setCell _ _ _ _ hn]
        exact h4
      clear hrow hb
      by_cases h1 : min n nk < n
      · have h1' : ((min n nk : Nat) : Int) < n := by omega
        have h2' : ¬ ((min n nk : Nat) : Int) < nk := by omega
        generalize hM : min n nk = M0 at *
        go_wp2_with (first | (go_at_call 23; (with_reducible refine (go _ (w.heap.size + 1 + 1 + 1) hq (by omega) hkk).mono ?_); rintro e wx ⟨hp, hx⟩; obtain ⟨pa, cap, rfl, hcrs, hfr⟩ := hp; have hR2 := (hx.block _ (Array.getElem?_eq_some_iff.1 lR).1).trans lR; have r0 := held_cell hR2 0; have r1 := held_cell hR2 1; have r2 := held_cell hR2 2; have z0 := held_free hR2 0; have z1 := held_free hR2 1; have z2 := held_free hR2 2) | fail)
        (try simp only [Exit.inBlock, Exit.then])
        go_wp2_with (first | (go_at_call 23; (with_reducible refine (go _ (w.heap.size + 1 + 1 + 1) hq (by omega) hkk).mono ?_); rintro e wx ⟨hp, hx⟩; obtain ⟨pa, cap, rfl, hcrs, hfr⟩ := hp; have hR2 := (hx.block _ (Array.getElem?_eq_some_iff.1 lR).1).trans lR; have r0 := held_cell hR2 0; have r1 := held_cell hR2 1; have r2 := held_cell hR2 2; have z0 := held_free hR2 0; have z1 := held_free hR2 1; have z2 := held_free hR2 2) | fail)
        refine bodyPost_ret (v := .agg #[.int .i64 sw, .int .i64 sh, .slice pa N cap]) (by simp [results, rw_, go_sem, r0, r1, r2]; try rfl) rfl ?_
        exact ⟨fin _ _ hcrs hfr hx, (((hq.trans (hx.mono hq.size)).setCell (Nat.le_succ _) _).setCell (Nat.le_succ _) _).setCell (Nat.le_succ _) _⟩
      · have h1' : ¬ ((min n nk : Nat) : Int) < n := by omega
        generalize hM : min n nk = M0 at *
        go_wp2_with (first | (go_at_call 23; (with_reducible refine (go _ (w.heap.size + 1 + 1 + 1) hq (by omega) hkk).mono ?_); rintro e wx ⟨hp, hx⟩; obtain ⟨pa, cap, rfl, hcrs, hfr⟩ := hp; have hR2 := (hx.block _ (Array.getElem?_eq_some_iff.1 lR).1).trans lR; have r0 := held_cell hR2 0; have r1 := held_cell hR2 1; have r2 := held_cell hR2 2; have z0 := held_free hR2 0; have z1 := held_free hR2 1; have z2 := held_free hR2 2) | fail)
        (try simp only [Exit.inBlock, Exit.then])
        go_wp2_with (first | (go_at_call 23; (with_reducible refine (go _ (w.heap.size + 1 + 1 + 1) hq (by omega) hkk).mono ?_); rintro e wx ⟨hp, hx⟩; obtain ⟨pa, cap, rfl, hcrs, hfr⟩ := hp; have hR2 := (hx.block _ (Array.getElem?_eq_some_iff.1 lR).1).trans lR; have r0 := held_cell hR2 0; have r1 := held_cell hR2 1; have r2 := held_cell hR2 2; have z0 := held_free hR2 0; have z1 := held_free hR2 1; have z2 := held_free hR2 2) | fail)
        refine bodyPost_ret (v := .agg #[.int .i64 sw, .int .i64 sh, .slice pa N cap]) (by simp [results, rw_, go_sem, r0, r1, r2]; try rfl) rfl ?_
        exact ⟨fin _ _ hcrs hfr hx, (((hq.trans (hx.mono hq.size)).setCell (Nat.le_succ _) _).setCell (Nat.le_succ _) _).setCell (Nat.le_succ _) _⟩

end Go.Proofs.YtdnekeegpenioaaDoor
