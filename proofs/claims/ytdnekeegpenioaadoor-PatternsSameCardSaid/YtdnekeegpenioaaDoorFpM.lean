/-
  Says: a piece of PatternsSame. a piece of PatternsSame. a piece of PatternsSame. a piece of PatternsSame. a piece of PatternsSame. a piece of PatternsSame. a piece of PatternsSame.
-/
import Derived.Test.YtdnekeegpenioaaDoorFr1
import Derived.Deep.RegionHeld3
import Derived.RowKit3
import Derived.BigQuiet
import Derived.Deep.QuietTactic
import Derived.Deep.CutRange
import Derived.BigRegion
set_option linter.unusedVariables false
set_option linter.unusedSimpArgs false
set_option linter.unusedSectionVars false
namespace Go.Proofs.YtdnekeegpenioaaDoor
section
open Go Go.RowKit

attribute [local go_sem] World.cell?_alloc_some frozen?_alloc_cells fz0 fz1 fz2 fz3 fz4 fz5

set_option maxRecDepth 100000 in
set_option maxHeartbeats 4000000 in
theorem fr4 (w : World) (b7 b8 : Nat) (pa pb : Option Addr) (wa ha wb hb : Int) (na ca nb cb : Nat) (cA eA kA cB eB kB : Nat → Int)  (a : Act) (W : World) (hS : S7 b7 b8 a) (hAB : AB w b7 b8 pa pb wa ha wb hb na ca nb cb cA eA kA cB eB kB W) : (sq 3 (bodyOf Tryd.f6)).wp Tryd.prog (fun e a' W' => e = .normal ∧ S7 b7 b8 a' ∧ HasB 10 (SameP wa ha na cA eA kA wb hb nb cB eB kB) a' ∧ AB w b7 b8 pa pb wa ha wb hb na ca nb cb cA eA kA cB eB kB W') a W := by
  obtain ⟨hsz, hdf, s6, s7, s8⟩ := hS
  obtain ⟨tm, dfs⟩ := a
  simp only at hsz hdf
  subst hdf
  obtain ⟨g_, rfl⟩ := lit191 tm hsz
  replace s6 : g_ 6 = .bool false := s6
  replace s7 : g_ 7 = .pointer (some ⟨b7, 0, none⟩) := s7
  replace s8 : g_ 8 = .pointer (some ⟨b8, 0, none⟩) := s8
  clear hsz
  obtain ⟨h7, h8, hca, hcb, hW, hL, hnA, hnB, hkA⟩ := hAB
  have hAB : AB w b7 b8 pa pb wa ha wb hb na ca nb cb cA eA kA cB eB kB W := ⟨h7, h8, hca, hcb, hW, hL, hnA, hnB, hkA⟩
  have a0 := held_cell h7 0
  have a1 := held_cell h7 1
  have a2 : W.cell? ⟨b7, 2, none⟩ = some (.slice pa na ca) := held_cell h7 2
  have d0 := held_cell h8 0
  have d1 := held_cell h8 1
  have d2 : W.cell? ⟨b8, 2, none⟩ = some (.slice pb nb cb) := held_cell h8 2
  simp only [sq, bodyOf, Tryd.f6]
  simp only [s6, s7, s8]
  by_cases hE : SameP wa ha na cA eA kA wb hb nb cB eB kB
  · go_wp2_with (first | (go_at_call 22; (with_reducible refine (differ_eq cA eA kA pa na ca cB eB kB pb nb cb wa ha wb hb _ (by omega) hca hcb hE).mono ?_); rintro e wx ⟨rfl, hx⟩) | fail)
    exact ⟨⟨rfl, rfl, rfl, rfl, rfl⟩, ⟨true, rfl, by simp⟩, hAB.below hx⟩
  · go_wp2_with (first | (go_at_call 22; (with_reducible refine (differ_ne cA eA kA pa na ca cB eB kB pb nb cb wa ha wb hb _ (by omega) hca hcb hE).mono ?_); rintro e wx ⟨rfl, hx⟩) | fail)
    exact ⟨⟨rfl, rfl, rfl, rfl, rfl⟩, ⟨false, rfl, by simp⟩, hAB.below hx⟩
end

section
open Go Go.RowKit

attribute [local go_sem] World.cell?_alloc_some frozen?_alloc_cells fz0 fz1 fz2 fz3 fz4 fz5

set_option maxRecDepth 100000 in
set_option maxHeartbeats 4000000 in
theorem fr5 (w : World) (b7 b8 : Nat) (pa pb : Option Addr) (wa ha wb hb : Int) (na ca nb cb : Nat) (cA eA kA cB eB kB : Nat → Int)  (a : Act) (W : World) (hS : S7 b7 b8 a) (hE : HasB 10 (SameP wa ha na cA eA kA wb hb nb cB eB kB) a) (hAB : AB w b7 b8 pa pb wa ha wb hb na ca nb cb cA eA kA cB eB kB W) : (sq 4 (bodyOf Tryd.f6)).wp Tryd.prog (fun e a' W' => e = .normal ∧ S7 b7 b8 a' ∧ HasB 10 (SameP wa ha na cA eA kA wb hb nb cB eB kB) a' ∧ HasB 11 (wa = wb ∧ ha = hb ∧ na = nb) a' ∧ AB w b7 b8 pa pb wa ha wb hb na ca nb cb cA eA kA cB eB kB W') a W := by
  obtain ⟨hsz, hdf, s6, s7, s8⟩ := hS
  obtain ⟨tm, dfs⟩ := a
  simp only at hsz hdf
  subst hdf
  obtain ⟨g_, rfl⟩ := lit191 tm hsz
  replace s6 : g_ 6 = .bool false := s6
  replace s7 : g_ 7 = .pointer (some ⟨b7, 0, none⟩) := s7
  replace s8 : g_ 8 = .pointer (some ⟨b8, 0, none⟩) := s8
  clear hsz
  obtain ⟨E, s10, hE⟩ := hE
  replace s10 : g_ 10 = .bool E := s10
  obtain ⟨h7, h8, hca, hcb, hW, hL, hnA, hnB, hkA⟩ := hAB
  have hAB : AB w b7 b8 pa pb wa ha wb hb na ca nb cb cA eA kA cB eB kB W := ⟨h7, h8, hca, hcb, hW, hL, hnA, hnB, hkA⟩
  have a0 := held_cell h7 0
  have a1 := held_cell h7 1
  have a2 : W.cell? ⟨b7, 2, none⟩ = some (.slice pa na ca) := held_cell h7 2
  have d0 := held_cell h8 0
  have d1 := held_cell h8 1
  have d2 : W.cell? ⟨b8, 2, none⟩ = some (.slice pb nb cb) := held_cell h8 2
  simp only [sq, bodyOf, Tryd.f6]
  simp only [s6, s7, s8]
  by_cases q1 : wa = wb
  · by_cases q2 : ha = hb
    · by_cases q3 : na = nb
      · subst q1 q2 q3
        go_wp2_with fail
        first | exact ⟨⟨rfl, rfl, rfl, rfl, rfl⟩, ⟨E, rfl, hE⟩, ⟨true, rfl, by simp⟩, hAB⟩ | exact ⟨⟨rfl, rfl, rfl, rfl, rfl⟩, ⟨E, rfl, hE⟩, ⟨true, rfl, by simp⟩⟩
      · have q4 : ((na : Int) == nb) = false := eqf fun q => q3 (by omega)
        subst q1 q2
        go_wp2_with fail
        first | exact ⟨⟨rfl, rfl, rfl, rfl, rfl⟩, ⟨E, rfl, hE⟩, ⟨false, rfl, by simp [q3]⟩, hAB⟩ | exact ⟨⟨rfl, rfl, rfl, rfl, rfl⟩, ⟨E, rfl, hE⟩, ⟨false, rfl, by simp [q3]⟩⟩
    · have q4 : (ha == hb) = false := eqf q2
      subst q1
      go_wp2_with fail
      first | exact ⟨⟨rfl, rfl, rfl, rfl, rfl⟩, ⟨E, rfl, hE⟩, ⟨false, rfl, by simp [q2]⟩, hAB⟩ | exact ⟨⟨rfl, rfl, rfl, rfl, rfl⟩, ⟨E, rfl, hE⟩, ⟨false, rfl, by simp [q2]⟩⟩
  · have q4 : (wa == wb) = false := eqf q1
    go_wp2_with fail
    first | exact ⟨⟨rfl, rfl, rfl, rfl, rfl⟩, ⟨E, rfl, hE⟩, ⟨false, rfl, by simp [q1]⟩, hAB⟩ | exact ⟨⟨rfl, rfl, rfl, rfl, rfl⟩, ⟨E, rfl, hE⟩, ⟨false, rfl, by simp [q1]⟩⟩
end

section
open Go Go.RowKit

attribute [local go_sem] World.cell?_alloc_some frozen?_alloc_cells fz0 fz1 fz2 fz3 fz4 fz5

set_option maxRecDepth 100000 in
set_option maxHeartbeats 4000000 in
theorem fr7 (w : World) (b7 b8 : Nat) (pa pb : Option Addr) (wa ha wb hb : Int) (na ca nb cb : Nat) (cA eA kA cB eB kB : Nat → Int)  (a : Act) (W : World) (hS : S7 b7 b8 a) (hE : HasB 10 (SameP wa ha na cA eA kA wb hb nb cB eB kB) a) (hF : HasB 11 (wa = wb ∧ ha = hb ∧ na = nb) a) (hAB : AB w b7 b8 pa pb wa ha wb hb na ca nb cb cA eA kA cB eB kB W) : (sq 5 (bodyOf Tryd.f6)).wp Tryd.prog (fun e a' W' => e = .normal ∧ S7 b7 b8 a' ∧ HasB 10 (SameP wa ha na cA eA kA wb hb nb cB eB kB) a' ∧ HasB 11 (wa = wb ∧ ha = hb ∧ na = nb ∧ FitC na cA eA kA cB eB kB) a' ∧ AB w b7 b8 pa pb wa ha wb hb na ca nb cb cA eA kA cB eB kB W') a W := by
  obtain ⟨hsz, hdf, s6, s7, s8⟩ := hS
  obtain ⟨tm, dfs⟩ := a
  simp only at hsz hdf
  subst hdf
  obtain ⟨g_, rfl⟩ := lit191 tm hsz
  replace s6 : g_ 6 = .bool false := s6
  replace s7 : g_ 7 = .pointer (some ⟨b7, 0, none⟩) := s7
  replace s8 : g_ 8 = .pointer (some ⟨b8, 0, none⟩) := s8
  clear hsz
  obtain ⟨E, s10, hE⟩ := hE
  replace s10 : g_ 10 = .bool E := s10
  obtain ⟨F, s11, hF⟩ := hF
  replace s11 : g_ 11 = .bool F := s11
  obtain ⟨h7, h8, hca, hcb, hW, hL, hnA, hnB, hkA⟩ := hAB
  have hAB : AB w b7 b8 pa pb wa ha wb hb na ca nb cb cA eA kA cB eB kB W := ⟨h7, h8, hca, hcb, hW, hL, hnA, hnB, hkA⟩
  have a0 := held_cell h7 0
  have a1 := held_cell h7 1
  have a2 : W.cell? ⟨b7, 2, none⟩ = some (.slice pa na ca) := held_cell h7 2
  have d0 := held_cell h8 0
  have d1 := held_cell h8 1
  have d2 : W.cell? ⟨b8, 2, none⟩ = some (.slice pb nb cb) := held_cell h8 2
  simp only [sq, bodyOf, Tryd.f6]
  simp only [s6, s7, s8]
  simp only [s10, s11]
  go_wp2_with fail
  go_loopw [12, 11] (fun iv fv wr => ∃ (i : Nat) (f : Bool), iv = .int .i64 i ∧ fv = .bool f ∧ i ≤ na ∧ (f = true ↔ (wa = wb ∧ ha = hb ∧ na = nb) ∧ FitC i cA eA kA cB eB kB) ∧ ∃ x : Later W, wr = on x) (fun iv _ _ => (na - intOf iv).toNat)
  case atStart => exact ⟨0, F, rfl, rfl, Nat.zero_le _, by rw [hF]; exact ⟨fun h => ⟨h, fun j hj => by omega⟩, fun h => h.1⟩, ⟨W, Below.refl _ _⟩, rfl⟩
  case round =>
    obtain ⟨i, f, rfl, rfl, hi, hf, x, rfl⟩ := hrel
    have hq : Below W.heap.size W (on x) := x.b
    go_upto_region 9 with fail
    go_cut [79] from 72 to 115 (fun s79 wx => wx = on x ∧ ∃ G : Bool, s79 = .bool G ∧ (G = true ↔ (i < na ∧ f = true)))
    case first =>
      by_cases hin : i < na
      · have hin' : (i : Int) < na := by omega
        go_wp2_with fail
        go_meet
        exact ⟨rfl, f, rfl, by simp [hin]⟩
      · have hin' : ¬ (i : Int) < na := by omega
        go_wp2_with fail
        go_meet
        exact ⟨rfl, false, rfl, by simp [hin]⟩
    case rest =>
      obtain ⟨rfl, G, rfl, hG⟩ := hcut
      cases G with
      | false =>
        have hex : f = true ↔ (wa = wb ∧ ha = hb ∧ na = nb ∧ FitC na cA eA kA cB eB kB) := by
          rw [hf]
          refine ⟨fun h => ⟨h.1.1, h.1.2.1, h.1.2.2, ?_⟩, fun h => ⟨⟨h.1, h.2.1, h.2.2.1⟩, fun j hj => h.2.2.2 j (by omega)⟩⟩
          have : ¬ i < na := fun hlt => absurd (hG.2 ⟨hlt, hf.2 h⟩) (fun h => by cases h)
          have e : i = na := by omega
          rw [← e]
          exact h.2
        go_wp2_with fail
        first | exact ⟨⟨rfl, rfl, rfl, rfl, rfl⟩, ⟨E, rfl, hE⟩, ⟨f, rfl, hex⟩, hAB.below hq⟩ | exact ⟨⟨rfl, rfl, rfl, rfl, rfl⟩, ⟨E, rfl, hE⟩, ⟨f, rfl, by simp⟩, hAB.below hq⟩
      | true =>
        obtain ⟨hin, rfl⟩ := hG.1 rfl
        obtain ⟨⟨rfl, rfl, rfl⟩, hfc⟩ := hf.1 rfl
        obtain ⟨ab, ao, pae, hab, f0, f1, f2⟩ := hca.at hq hin
        obtain ⟨bb, bo, pbe, hbb, g0, g1, g2⟩ := hcb.at hq hin
        subst pae pbe
        have hin' : (i : Int) < na := by omega
        have a2' := cRy hq a2
        have d2' := cRy hq d2
        go_upto_region 11 with fail
        go_cut [13, 14] from 72 to 115 (fun s13 s14 wx => ∃ x13 x14 : Nat, s13 = .pointer (some ⟨x13, 0, none⟩) ∧ s14 = .pointer (some ⟨x14, 0, none⟩) ∧ Below W.heap.size W wx ∧ wx.cell? ⟨x13, 0, none⟩ = some (.int .i64 (cA i)) ∧ wx.cell? ⟨x13, 1, none⟩ = some (.int .u8 (eA i)) ∧ wx.cell? ⟨x13, 2, none⟩ = some (.int .u8 (kA i)) ∧ wx.cell? ⟨x14, 0, none⟩ = some (.int .i64 (cB i)) ∧ wx.cell? ⟨x14, 1, none⟩ = some (.int .u8 (eB i)) ∧ wx.cell? ⟨x14, 2, none⟩ = some (.int .u8 (kB i)))
        case first =>
          clear hf hG hfc hAB hca hcb hF hE
          have hsafe : ∀ w' : World, Below (on x).heap.size (on x) w' → w'.cell? ⟨b7, 2, none⟩ = some (.slice (some ⟨ab, ao, none⟩) na ca) ∧ w'.cell? ⟨b8, 2, none⟩ = some (.slice (some ⟨bb, bo, none⟩) na cb) ∧ w'.cell? ⟨ab, ao + i * 3, none⟩ = some (.int .i64 (cA i)) ∧ w'.cell? ⟨ab, ao + i * 3 + 1, none⟩ = some (.int .u8 (eA i)) ∧ w'.cell? ⟨ab, ao + i * 3 + 2, none⟩ = some (.int .u8 (kA i)) ∧ w'.cell? ⟨bb, bo + i * 3, none⟩ = some (.int .i64 (cB i)) ∧ w'.cell? ⟨bb, bo + i * 3 + 1, none⟩ = some (.int .u8 (eB i)) ∧ w'.cell? ⟨bb, bo + i * 3 + 2, none⟩ = some (.int .u8 (kB i)) := fun w' hb => ⟨cRy hb a2', cRy hb d2', cRy hb f0, cRy hb f1, cRy hb f2, cRy hb g0, cRy hb g1, cRy hb g2⟩
          go_region_held3 (fun w' : World => w'.cell? ⟨b7, 2, none⟩ = some (.slice (some ⟨ab, ao, none⟩) na ca) ∧ w'.cell? ⟨b8, 2, none⟩ = some (.slice (some ⟨bb, bo, none⟩) na cb) ∧ w'.cell? ⟨ab, ao + i * 3, none⟩ = some (.int .i64 (cA i)) ∧ w'.cell? ⟨ab, ao + i * 3 + 1, none⟩ = some (.int .u8 (eA i)) ∧ w'.cell? ⟨ab, ao + i * 3 + 2, none⟩ = some (.int .u8 (kA i)) ∧ w'.cell? ⟨bb, bo + i * 3, none⟩ = some (.int .i64 (cB i)) ∧ w'.cell? ⟨bb, bo + i * 3 + 1, none⟩ = some (.int .u8 (eB i)) ∧ w'.cell? ⟨bb, bo + i * 3 + 2, none⟩ = some (.int .u8 (kB i))) ((first | exact hsafe _ (by repeat first | (with_reducible exact Below.refl _ _) | (with_reducible refine below_drew ?_) | (with_reducible refine below_alloc ?_ _)))) ((first | fail))
          all_goals (go_wp2_with fail; go_meet)
          all_goals exact ⟨_, _, rfl, rfl, (by repeat first | (with_reducible exact Below.refl _ _) | (with_reducible assumption) | (with_reducible refine below_on ?_ _) | (with_reducible refine below_dn ?_) | (with_reducible refine below_drew ?_) | (with_reducible refine below_alloc ?_ _) | (with_reducible refine below_set ?_ (by simp; try omega) _) | (exact below_alloc hq _)), by simp [go_sem], by simp [go_sem], by simp [go_sem], by simp [go_sem], by simp [go_sem], by simp [go_sem]⟩
        case rest =>
          obtain ⟨x13, x14, rfl, rfl, hqx, m0, m1, m2, n0, n1, n2⟩ := hcut
          clear hAB hca hcb hab hbb f0 f1 f2 g0 g1 g2 a2' d2' hE hF
          by_cases q1 : cA i = cB i
          · by_cases q2 : eA i = eB i
            · by_cases q3 : kA i = kB i
              · have hfit : fitB (cA i) (eA i) (kA i) (cB i) (eB i) (kB i) = true := by unfold fitB; simp [q1, q2, q3]
                rw [← q1] at n0
                rw [← q2] at n1
                rw [← q3] at n2
                go_wp2_with fail
                go_roundw
                case rel =>
                  first | exact ⟨i + 1, true, by simp, rfl, by omega, ⟨fun _ => ⟨by simp, fun j hj => by rcases Nat.lt_or_ge j i with h | h; exact hfc j h; (have e : j = i := by omega); rw [e]; exact hfit⟩, fun _ => rfl⟩, ⟨wc, hqx⟩, rfl⟩ | exact ⟨⟨i + 1, true, by simp, rfl, by omega, ⟨fun _ => ⟨by simp, fun j hj => by rcases Nat.lt_or_ge j i with h | h; exact hfc j h; (have e : j = i := by omega); rw [e]; exact hfit⟩, fun _ => rfl⟩, ⟨wc, hqx⟩, rfl⟩, rfl⟩
                case measure => simp [intOf]; omega
              · by_cases q4 : kB i = 3
                · have hfit : fitB (cA i) (eA i) (kA i) (cB i) (eB i) (kB i) = true := by unfold fitB; simp [q1, q2, q4]
                  have q5 : (kA i == 3) = false := eqf (by rw [← q4]; exact q3)
                  rw [← q1] at n0
                  rw [← q2] at n1
                  rw [q4] at n2
                  go_wp2_with fail
                  go_roundw
                  case rel =>
                    first | exact ⟨i + 1, true, by simp, rfl, by omega, ⟨fun _ => ⟨by simp, fun j hj => by rcases Nat.lt_or_ge j i with h | h; exact hfc j h; (have e : j = i := by omega); rw [e]; exact hfit⟩, fun _ => rfl⟩, ⟨wc, hqx⟩, rfl⟩ | exact ⟨⟨i + 1, true, by simp, rfl, by omega, ⟨fun _ => ⟨by simp, fun j hj => by rcases Nat.lt_or_ge j i with h | h; exact hfc j h; (have e : j = i := by omega); rw [e]; exact hfit⟩, fun _ => rfl⟩, ⟨wc, hqx⟩, rfl⟩, rfl⟩
                  case measure => simp [intOf]; omega
                · have hfit : fitB (cA i) (eA i) (kA i) (cB i) (eB i) (kB i) = false := by unfold fitB; simp [q3, q4]
                  have q5 : (kA i == kB i) = false := eqf q3
                  have q6 : (kB i == 3) = false := eqf q4
                  rw [← q1] at n0
                  rw [← q2] at n1
                  go_wp2_with fail
                  go_roundw
                  case rel =>
                    first | exact ⟨i + 1, false, by simp, rfl, by omega, ⟨(fun h => by cases h), fun h => absurd (h.2 i (by omega)) (by rw [hfit]; exact (fun h => by cases h))⟩, ⟨wc, hqx⟩, rfl⟩ | exact ⟨⟨i + 1, false, by simp, rfl, by omega, ⟨(fun h => by cases h), fun h => absurd (h.2 i (by omega)) (by rw [hfit]; exact (fun h => by cases h))⟩, ⟨wc, hqx⟩, rfl⟩, rfl⟩
                  case measure => simp [intOf]; omega
            · have hfit : fitB (cA i) (eA i) (kA i) (cB i) (eB i) (kB i) = false := by unfold fitB; simp [q2]
              have q5 : (eA i == eB i) = false := eqf q2
              rw [← q1] at n0
              go_wp2_with fail
              go_roundw
              case rel =>
                first | exact ⟨i + 1, false, by simp, rfl, by omega, ⟨(fun h => by cases h), fun h => absurd (h.2 i (by omega)) (by rw [hfit]; exact (fun h => by cases h))⟩, ⟨wc, hqx⟩, rfl⟩ | exact ⟨⟨i + 1, false, by simp, rfl, by omega, ⟨(fun h => by cases h), fun h => absurd (h.2 i (by omega)) (by rw [hfit]; exact (fun h => by cases h))⟩, ⟨wc, hqx⟩, rfl⟩, rfl⟩
              case measure => simp [intOf]; omega
          · have hfit : fitB (cA i) (eA i) (kA i) (cB i) (eB i) (kB i) = false := by unfold fitB; simp [q1]
            have q5 : (cA i == cB i) = false := eqf q1
            go_wp2_with fail
            go_roundw
            case rel =>
              first | exact ⟨i + 1, false, by simp, rfl, by omega, ⟨(fun h => by cases h), fun h => absurd (h.2 i (by omega)) (by rw [hfit]; exact (fun h => by cases h))⟩, ⟨wc, hqx⟩, rfl⟩ | exact ⟨⟨i + 1, false, by simp, rfl, by omega, ⟨(fun h => by cases h), fun h => absurd (h.2 i (by omega)) (by rw [hfit]; exact (fun h => by cases h))⟩, ⟨wc, hqx⟩, rfl⟩, rfl⟩
            case measure => simp [intOf]; omega
end

section
open Go Go.RowKit

attribute [local go_sem] World.cell?_alloc_some frozen?_alloc_cells fz0 fz1 fz2 fz3 fz4 fz5

set_option maxRecDepth 100000 in
set_option maxHeartbeats 4000000 in
theorem fr6 (w : World) (b7 b8 : Nat) (pa pb : Option Addr) (wa ha wb hb : Int) (na ca nb cb : Nat) (cA eA kA cB eB kB : Nat → Int)  (a : Act) (W : World) (hS : S7 b7 b8 a) (hE : HasB 10 (SameP wa ha na cA eA kA wb hb nb cB eB kB) a) (hF : HasB 11 (wa = wb ∧ ha = hb ∧ na = nb ∧ FitC na cA eA kA cB eB kB) a) (hAB : AB w b7 b8 pa pb wa ha wb hb na ca nb cb cA eA kA cB eB kB W) : (sq 6 (bodyOf Tryd.f6)).wp Tryd.prog (fun e a' W' => e = .normal ∧ S7 b7 b8 a' ∧ AB w b7 b8 pa pb wa ha wb hb na ca nb cb cA eA kA cB eB kB W') a W := by
  obtain ⟨hsz, hdf, s6, s7, s8⟩ := hS
  obtain ⟨tm, dfs⟩ := a
  simp only at hsz hdf
  subst hdf
  obtain ⟨g_, rfl⟩ := lit191 tm hsz
  replace s6 : g_ 6 = .bool false := s6
  replace s7 : g_ 7 = .pointer (some ⟨b7, 0, none⟩) := s7
  replace s8 : g_ 8 = .pointer (some ⟨b8, 0, none⟩) := s8
  clear hsz
  obtain ⟨E, s10, hE⟩ := hE
  replace s10 : g_ 10 = .bool E := s10
  obtain ⟨F, s11, hF⟩ := hF
  replace s11 : g_ 11 = .bool F := s11
  obtain ⟨h7, h8, hca, hcb, hW, hL, hnA, hnB, hkA⟩ := hAB
  have hAB : AB w b7 b8 pa pb wa ha wb hb na ca nb cb cA eA kA cB eB kB W := ⟨h7, h8, hca, hcb, hW, hL, hnA, hnB, hkA⟩
  have a0 := held_cell h7 0
  have a1 := held_cell h7 1
  have a2 : W.cell? ⟨b7, 2, none⟩ = some (.slice pa na ca) := held_cell h7 2
  have d0 := held_cell h8 0
  have d1 := held_cell h8 1
  have d2 : W.cell? ⟨b8, 2, none⟩ = some (.slice pb nb cb) := held_cell h8 2
  have hAA : true = true ↔ wa = wa ∧ ha = ha ∧ na = na ∧ FitC na cA eA kA cA eA kA := ⟨fun _ => ⟨rfl, rfl, rfl, fitC_refl _ _ _ _⟩, fun _ => rfl⟩
  obtain ⟨G, hG⟩ : ∃ G : Bool, G = true ↔ wb = wa ∧ hb = ha ∧ nb = na ∧ FitC nb cB eB kB cA eA kA := by
    by_cases h : wb = wa ∧ hb = ha ∧ nb = na ∧ FitC nb cB eB kB cA eA kA
    · exact ⟨true, ⟨fun _ => h, fun _ => rfl⟩⟩
    · exact ⟨false, ⟨(fun q => by cases q), fun q => absurd q h⟩⟩
  have hEG : E = (F && G) := by
    have : E = true ↔ (F && G) = true := by
      rw [hE, Bool.and_eq_true, hF, hG]
      constructor
      · rintro ⟨rfl, rfl, rfl, h⟩
        exact ⟨⟨rfl, rfl, rfl, fitC_of_same h⟩, rfl, rfl, rfl, fitC_of_same (fun i hi => ⟨(h i hi).1.symm, (h i hi).2.1.symm, (h i hi).2.2.symm⟩)⟩
      · rintro ⟨⟨rfl, rfl, rfl, h⟩, _, _, _, g⟩
        exact ⟨rfl, rfl, rfl, same_of_fits h g⟩
    cases E <;> cases h : (F && G) <;> simp_all
  have hEE : E = true ↔ wa = wb ∧ ha = hb ∧ na = nb ∧ SameC na cA eA kA cB eB kB := hE
  clear hE
  simp only [sq, bodyOf, Tryd.f6]
  simp only [s6, s7, s8]
  simp only [s10, s11]
  clear s10 s11
  cases F <;> cases G <;> (simp at hEG; subst hEG)
  · skip
    have q1 : ∀ V, Below W.heap.size W V → Calls Tryd.prog 24 #[.agg #[.int .i64 wa, .int .i64 ha, .slice pa na ca], .agg #[.int .i64 wb, .int .i64 hb, .slice pb nb cb]] V fun r w' => r = .returned (.bool false) ∧ Below V.heap.size V w' := fun V hV => same_is cA eA kA pa na ca cB eB kB pb nb cb wa ha wb hb false hEE V (by omega) (hca.below hV) (hcb.below hV)
    have q2 : ∀ V, Below W.heap.size W V → Calls Tryd.prog 25 #[.agg #[.int .i64 wa, .int .i64 ha, .slice pa na ca], .agg #[.int .i64 wb, .int .i64 hb, .slice pb nb cb]] V fun r w' => r = .returned (.bool false) ∧ Below V.heap.size V w' := fun V hV => fit_is cA eA kA pa na ca cB eB kB pb nb cb wa ha wb hb false hF V (by omega) (hca.below hV) (hcb.below hV)
    have q3 : ∀ V, Below W.heap.size W V → Calls Tryd.prog 25 #[.agg #[.int .i64 wa, .int .i64 ha, .slice pa na ca], .agg #[.int .i64 wa, .int .i64 ha, .slice pa na ca]] V fun r w' => r = .returned (.bool true) ∧ Below V.heap.size V w' := fun V hV => fit_is cA eA kA pa na ca cA eA kA pa na ca wa ha wa ha true hAA V (by omega) (hca.below hV) (hca.below hV)
    have q4 : ∀ V, Below W.heap.size W V → Calls Tryd.prog 25 #[.agg #[.int .i64 wb, .int .i64 hb, .slice pb nb cb], .agg #[.int .i64 wa, .int .i64 ha, .slice pa na ca]] V fun r w' => r = .returned (.bool false) ∧ Below V.heap.size V w' := fun V hV => fit_is cB eB kB pb nb cb cA eA kA pa na ca wb hb wa ha false hG V (by omega) (hcb.below hV) (hca.below hV)
    clear hF hG hAA hEE hca hcb
    go_wp2_with (first | (go_at_call 24; (with_reducible refine (q1 _ (by repeat first | (with_reducible exact Below.refl _ _) | (with_reducible assumption) | (with_reducible refine below_on ?_ _) | (with_reducible refine below_dn ?_) | (with_reducible refine below_drew ?_) | (with_reducible refine below_alloc ?_ _) | (with_reducible refine below_set ?_ (by simp; try omega) _) | (exact below_alloc hq _))).mono ?_); rintro e wx ⟨rfl, hx⟩; obtain ⟨ux, rfl⟩ := after hx; clear hx) | (go_at_call 25; (with_reducible refine (q2 _ (by repeat first | (with_reducible exact Below.refl _ _) | (with_reducible assumption) | (with_reducible refine below_on ?_ _) | (with_reducible refine below_dn ?_) | (with_reducible refine below_drew ?_) | (with_reducible refine below_alloc ?_ _) | (with_reducible refine below_set ?_ (by simp; try omega) _) | (exact below_alloc hq _))).mono ?_); rintro e wx ⟨rfl, hx⟩; obtain ⟨ux, rfl⟩ := after hx; clear hx) | (go_at_call 25; (with_reducible refine (q3 _ (by repeat first | (with_reducible exact Below.refl _ _) | (with_reducible assumption) | (with_reducible refine below_on ?_ _) | (with_reducible refine below_dn ?_) | (with_reducible refine below_drew ?_) | (with_reducible refine below_alloc ?_ _) | (with_reducible refine below_set ?_ (by simp; try omega) _) | (exact below_alloc hq _))).mono ?_); rintro e wx ⟨rfl, hx⟩; obtain ⟨ux, rfl⟩ := after hx; clear hx) | (go_at_call 25; (with_reducible refine (q4 _ (by repeat first | (with_reducible exact Below.refl _ _) | (with_reducible assumption) | (with_reducible refine below_on ?_ _) | (with_reducible refine below_dn ?_) | (with_reducible refine below_drew ?_) | (with_reducible refine below_alloc ?_ _) | (with_reducible refine below_set ?_ (by simp; try omega) _) | (exact below_alloc hq _))).mono ?_); rintro e wx ⟨rfl, hx⟩; obtain ⟨ux, rfl⟩ := after hx; clear hx) | fail)
    first | exact ⟨⟨rfl, rfl, rfl, rfl, rfl⟩, hAB.below (by repeat first | (with_reducible exact Below.refl _ _) | (with_reducible assumption) | (with_reducible refine below_on ?_ _) | (with_reducible refine below_dn ?_) | (with_reducible refine below_drew ?_) | (with_reducible refine below_alloc ?_ _) | (with_reducible refine below_set ?_ (by simp; try omega) _) | (exact below_alloc hq _))⟩
  · skip
    have q1 : ∀ V, Below W.heap.size W V → Calls Tryd.prog 24 #[.agg #[.int .i64 wa, .int .i64 ha, .slice pa na ca], .agg #[.int .i64 wb, .int .i64 hb, .slice pb nb cb]] V fun r w' => r = .returned (.bool false) ∧ Below V.heap.size V w' := fun V hV => same_is cA eA kA pa na ca cB eB kB pb nb cb wa ha wb hb false hEE V (by omega) (hca.below hV) (hcb.below hV)
    have q2 : ∀ V, Below W.heap.size W V → Calls Tryd.prog 25 #[.agg #[.int .i64 wa, .int .i64 ha, .slice pa na ca], .agg #[.int .i64 wb, .int .i64 hb, .slice pb nb cb]] V fun r w' => r = .returned (.bool false) ∧ Below V.heap.size V w' := fun V hV => fit_is cA eA kA pa na ca cB eB kB pb nb cb wa ha wb hb false hF V (by omega) (hca.below hV) (hcb.below hV)
    have q3 : ∀ V, Below W.heap.size W V → Calls Tryd.prog 25 #[.agg #[.int .i64 wa, .int .i64 ha, .slice pa na ca], .agg #[.int .i64 wa, .int .i64 ha, .slice pa na ca]] V fun r w' => r = .returned (.bool true) ∧ Below V.heap.size V w' := fun V hV => fit_is cA eA kA pa na ca cA eA kA pa na ca wa ha wa ha true hAA V (by omega) (hca.below hV) (hca.below hV)
    have q4 : ∀ V, Below W.heap.size W V → Calls Tryd.prog 25 #[.agg #[.int .i64 wb, .int .i64 hb, .slice pb nb cb], .agg #[.int .i64 wa, .int .i64 ha, .slice pa na ca]] V fun r w' => r = .returned (.bool true) ∧ Below V.heap.size V w' := fun V hV => fit_is cB eB kB pb nb cb cA eA kA pa na ca wb hb wa ha true hG V (by omega) (hcb.below hV) (hca.below hV)
    clear hF hG hAA hEE hca hcb
    go_wp2_with (first | (go_at_call 24; (with_reducible refine (q1 _ (by repeat first | (with_reducible exact Below.refl _ _) | (with_reducible assumption) | (with_reducible refine below_on ?_ _) | (with_reducible refine below_dn ?_) | (with_reducible refine below_drew ?_) | (with_reducible refine below_alloc ?_ _) | (with_reducible refine below_set ?_ (by simp; try omega) _) | (exact below_alloc hq _))).mono ?_); rintro e wx ⟨rfl, hx⟩; obtain ⟨ux, rfl⟩ := after hx; clear hx) | (go_at_call 25; (with_reducible refine (q2 _ (by repeat first | (with_reducible exact Below.refl _ _) | (with_reducible assumption) | (with_reducible refine below_on ?_ _) | (with_reducible refine below_dn ?_) | (with_reducible refine below_drew ?_) | (with_reducible refine below_alloc ?_ _) | (with_reducible refine below_set ?_ (by simp; try omega) _) | (exact below_alloc hq _))).mono ?_); rintro e wx ⟨rfl, hx⟩; obtain ⟨ux, rfl⟩ := after hx; clear hx) | (go_at_call 25; (with_reducible refine (q3 _ (by repeat first | (with_reducible exact Below.refl _ _) | (with_reducible assumption) | (with_reducible refine below_on ?_ _) | (with_reducible refine below_dn ?_) | (with_reducible refine below_drew ?_) | (with_reducible refine below_alloc ?_ _) | (with_reducible refine below_set ?_ (by simp; try omega) _) | (exact below_alloc hq _))).mono ?_); rintro e wx ⟨rfl, hx⟩; obtain ⟨ux, rfl⟩ := after hx; clear hx) | (go_at_call 25; (with_reducible refine (q4 _ (by repeat first | (with_reducible exact Below.refl _ _) | (with_reducible assumption) | (with_reducible refine below_on ?_ _) | (with_reducible refine below_dn ?_) | (with_reducible refine below_drew ?_) | (with_reducible refine below_alloc ?_ _) | (with_reducible refine below_set ?_ (by simp; try omega) _) | (exact below_alloc hq _))).mono ?_); rintro e wx ⟨rfl, hx⟩; obtain ⟨ux, rfl⟩ := after hx; clear hx) | fail)
    first | exact ⟨⟨rfl, rfl, rfl, rfl, rfl⟩, hAB.below (by repeat first | (with_reducible exact Below.refl _ _) | (with_reducible assumption) | (with_reducible refine below_on ?_ _) | (with_reducible refine below_dn ?_) | (with_reducible refine below_drew ?_) | (with_reducible refine below_alloc ?_ _) | (with_reducible refine below_set ?_ (by simp; try omega) _) | (exact below_alloc hq _))⟩
  · skip
    have q1 : ∀ V, Below W.heap.size W V → Calls Tryd.prog 24 #[.agg #[.int .i64 wa, .int .i64 ha, .slice pa na ca], .agg #[.int .i64 wb, .int .i64 hb, .slice pb nb cb]] V fun r w' => r = .returned (.bool false) ∧ Below V.heap.size V w' := fun V hV => same_is cA eA kA pa na ca cB eB kB pb nb cb wa ha wb hb false hEE V (by omega) (hca.below hV) (hcb.below hV)
    have q2 : ∀ V, Below W.heap.size W V → Calls Tryd.prog 25 #[.agg #[.int .i64 wa, .int .i64 ha, .slice pa na ca], .agg #[.int .i64 wb, .int .i64 hb, .slice pb nb cb]] V fun r w' => r = .returned (.bool true) ∧ Below V.heap.size V w' := fun V hV => fit_is cA eA kA pa na ca cB eB kB pb nb cb wa ha wb hb true hF V (by omega) (hca.below hV) (hcb.below hV)
    have q3 : ∀ V, Below W.heap.size W V → Calls Tryd.prog 25 #[.agg #[.int .i64 wa, .int .i64 ha, .slice pa na ca], .agg #[.int .i64 wa, .int .i64 ha, .slice pa na ca]] V fun r w' => r = .returned (.bool true) ∧ Below V.heap.size V w' := fun V hV => fit_is cA eA kA pa na ca cA eA kA pa na ca wa ha wa ha true hAA V (by omega) (hca.below hV) (hca.below hV)
    have q4 : ∀ V, Below W.heap.size W V → Calls Tryd.prog 25 #[.agg #[.int .i64 wb, .int .i64 hb, .slice pb nb cb], .agg #[.int .i64 wa, .int .i64 ha, .slice pa na ca]] V fun r w' => r = .returned (.bool false) ∧ Below V.heap.size V w' := fun V hV => fit_is cB eB kB pb nb cb cA eA kA pa na ca wb hb wa ha false hG V (by omega) (hcb.below hV) (hca.below hV)
    clear hF hG hAA hEE hca hcb
    go_wp2_with (first | (go_at_call 24; (with_reducible refine (q1 _ (by repeat first | (with_reducible exact Below.refl _ _) | (with_reducible assumption) | (with_reducible refine below_on ?_ _) | (with_reducible refine below_dn ?_) | (with_reducible refine below_drew ?_) | (with_reducible refine below_alloc ?_ _) | (with_reducible refine below_set ?_ (by simp; try omega) _) | (exact below_alloc hq _))).mono ?_); rintro e wx ⟨rfl, hx⟩; obtain ⟨ux, rfl⟩ := after hx; clear hx) | (go_at_call 25; (with_reducible refine (q2 _ (by repeat first | (with_reducible exact Below.refl _ _) | (with_reducible assumption) | (with_reducible refine below_on ?_ _) | (with_reducible refine below_dn ?_) | (with_reducible refine below_drew ?_) | (with_reducible refine below_alloc ?_ _) | (with_reducible refine below_set ?_ (by simp; try omega) _) | (exact below_alloc hq _))).mono ?_); rintro e wx ⟨rfl, hx⟩; obtain ⟨ux, rfl⟩ := after hx; clear hx) | (go_at_call 25; (with_reducible refine (q3 _ (by repeat first | (with_reducible exact Below.refl _ _) | (with_reducible assumption) | (with_reducible refine below_on ?_ _) | (with_reducible refine below_dn ?_) | (with_reducible refine below_drew ?_) | (with_reducible refine below_alloc ?_ _) | (with_reducible refine below_set ?_ (by simp; try omega) _) | (exact below_alloc hq _))).mono ?_); rintro e wx ⟨rfl, hx⟩; obtain ⟨ux, rfl⟩ := after hx; clear hx) | (go_at_call 25; (with_reducible refine (q4 _ (by repeat first | (with_reducible exact Below.refl _ _) | (with_reducible assumption) | (with_reducible refine below_on ?_ _) | (with_reducible refine below_dn ?_) | (with_reducible refine below_drew ?_) | (with_reducible refine below_alloc ?_ _) | (with_reducible refine below_set ?_ (by simp; try omega) _) | (exact below_alloc hq _))).mono ?_); rintro e wx ⟨rfl, hx⟩; obtain ⟨ux, rfl⟩ := after hx; clear hx) | fail)
    first | exact ⟨⟨rfl, rfl, rfl, rfl, rfl⟩, hAB.below (by repeat first | (with_reducible exact Below.refl _ _) | (with_reducible assumption) | (with_reducible refine below_on ?_ _) | (with_reducible refine below_dn ?_) | (with_reducible refine below_drew ?_) | (with_reducible refine below_alloc ?_ _) | (with_reducible refine below_set ?_ (by simp; try omega) _) | (exact below_alloc hq _))⟩
  · skip
    have q1 : ∀ V, Below W.heap.size W V → Calls Tryd.prog 24 #[.agg #[.int .i64 wa, .int .i64 ha, .slice pa na ca], .agg #[.int .i64 wb, .int .i64 hb, .slice pb nb cb]] V fun r w' => r = .returned (.bool true) ∧ Below V.heap.size V w' := fun V hV => same_is cA eA kA pa na ca cB eB kB pb nb cb wa ha wb hb true hEE V (by omega) (hca.below hV) (hcb.below hV)
    have q2 : ∀ V, Below W.heap.size W V → Calls Tryd.prog 25 #[.agg #[.int .i64 wa, .int .i64 ha, .slice pa na ca], .agg #[.int .i64 wb, .int .i64 hb, .slice pb nb cb]] V fun r w' => r = .returned (.bool true) ∧ Below V.heap.size V w' := fun V hV => fit_is cA eA kA pa na ca cB eB kB pb nb cb wa ha wb hb true hF V (by omega) (hca.below hV) (hcb.below hV)
    have q3 : ∀ V, Below W.heap.size W V → Calls Tryd.prog 25 #[.agg #[.int .i64 wa, .int .i64 ha, .slice pa na ca], .agg #[.int .i64 wa, .int .i64 ha, .slice pa na ca]] V fun r w' => r = .returned (.bool true) ∧ Below V.heap.size V w' := fun V hV => fit_is cA eA kA pa na ca cA eA kA pa na ca wa ha wa ha true hAA V (by omega) (hca.below hV) (hca.below hV)
    have q4 : ∀ V, Below W.heap.size W V → Calls Tryd.prog 25 #[.agg #[.int .i64 wb, .int .i64 hb, .slice pb nb cb], .agg #[.int .i64 wa, .int .i64 ha, .slice pa na ca]] V fun r w' => r = .returned (.bool true) ∧ Below V.heap.size V w' := fun V hV => fit_is cB eB kB pb nb cb cA eA kA pa na ca wb hb wa ha true hG V (by omega) (hcb.below hV) (hca.below hV)
    clear hF hG hAA hEE hca hcb
    go_wp2_with (first | (go_at_call 24; (with_reducible refine (q1 _ (by repeat first | (with_reducible exact Below.refl _ _) | (with_reducible assumption) | (with_reducible refine below_on ?_ _) | (with_reducible refine below_dn ?_) | (with_reducible refine below_drew ?_) | (with_reducible refine below_alloc ?_ _) | (with_reducible refine below_set ?_ (by simp; try omega) _) | (exact below_alloc hq _))).mono ?_); rintro e wx ⟨rfl, hx⟩; obtain ⟨ux, rfl⟩ := after hx; clear hx) | (go_at_call 25; (with_reducible refine (q2 _ (by repeat first | (with_reducible exact Below.refl _ _) | (with_reducible assumption) | (with_reducible refine below_on ?_ _) | (with_reducible refine below_dn ?_) | (with_reducible refine below_drew ?_) | (with_reducible refine below_alloc ?_ _) | (with_reducible refine below_set ?_ (by simp; try omega) _) | (exact below_alloc hq _))).mono ?_); rintro e wx ⟨rfl, hx⟩; obtain ⟨ux, rfl⟩ := after hx; clear hx) | (go_at_call 25; (with_reducible refine (q3 _ (by repeat first | (with_reducible exact Below.refl _ _) | (with_reducible assumption) | (with_reducible refine below_on ?_ _) | (with_reducible refine below_dn ?_) | (with_reducible refine below_drew ?_) | (with_reducible refine below_alloc ?_ _) | (with_reducible refine below_set ?_ (by simp; try omega) _) | (exact below_alloc hq _))).mono ?_); rintro e wx ⟨rfl, hx⟩; obtain ⟨ux, rfl⟩ := after hx; clear hx) | (go_at_call 25; (with_reducible refine (q4 _ (by repeat first | (with_reducible exact Below.refl _ _) | (with_reducible assumption) | (with_reducible refine below_on ?_ _) | (with_reducible refine below_dn ?_) | (with_reducible refine below_drew ?_) | (with_reducible refine below_alloc ?_ _) | (with_reducible refine below_set ?_ (by simp; try omega) _) | (exact below_alloc hq _))).mono ?_); rintro e wx ⟨rfl, hx⟩; obtain ⟨ux, rfl⟩ := after hx; clear hx) | fail)
    first | exact ⟨⟨rfl, rfl, rfl, rfl, rfl⟩, hAB.below (by repeat first | (with_reducible exact Below.refl _ _) | (with_reducible assumption) | (with_reducible refine below_on ?_ _) | (with_reducible refine below_dn ?_) | (with_reducible refine below_drew ?_) | (with_reducible refine below_alloc ?_ _) | (with_reducible refine below_set ?_ (by simp; try omega) _) | (exact below_alloc hq _))⟩
end

section
open Go Go.RowKit

attribute [local go_sem] World.cell?_alloc_some frozen?_alloc_cells fz0 fz1 fz2 fz3 fz4 fz5

set_option maxRecDepth 100000 in
set_option maxHeartbeats 4000000 in
theorem fr7s (w : World) (b7 b8 : Nat) (pa pb : Option Addr) (wa ha wb hb : Int) (na ca nb cb : Nat) (cA eA kA cB eB kB : Nat → Int)  (a : Act) (W : World) (hS : S7 b7 b8 a) (hAB : AB w b7 b8 pa pb wa ha wb hb na ca nb cb cA eA kA cB eB kB W) : (sq 7 (bodyOf Tryd.f6)).wp Tryd.prog (fun e a' W' => e = .normal ∧ S7 b7 b8 a' ∧ a'.tmps.getD 15 undef = .int .i64 0 ∧ AB w b7 b8 pa pb wa ha wb hb na ca nb cb cA eA kA cB eB kB W') a W := by
  obtain ⟨hsz, hdf, s6, s7, s8⟩ := hS
  obtain ⟨tm, dfs⟩ := a
  simp only at hsz hdf
  subst hdf
  obtain ⟨g_, rfl⟩ := lit191 tm hsz
  replace s6 : g_ 6 = .bool false := s6
  replace s7 : g_ 7 = .pointer (some ⟨b7, 0, none⟩) := s7
  replace s8 : g_ 8 = .pointer (some ⟨b8, 0, none⟩) := s8
  clear hsz
  simp only [sq, bodyOf, Tryd.f6]
  simp only [s6, s7, s8]
  go_wp2_with fail
  first | exact ⟨⟨rfl, rfl, rfl, rfl, rfl⟩, rfl, hAB⟩ | exact ⟨⟨rfl, rfl, rfl, rfl, rfl⟩, hAB⟩ | exact ⟨rfl, rfl, rfl, rfl, rfl⟩
end

section
open Go Go.RowKit

attribute [local go_sem] World.cell?_alloc_some frozen?_alloc_cells fz0 fz1 fz2 fz3 fz4 fz5

set_option maxRecDepth 100000 in
set_option maxHeartbeats 4000000 in
theorem fr8 (w : World) (b7 b8 : Nat) (pa pb : Option Addr) (wa ha wb hb : Int) (na ca nb cb : Nat) (cA eA kA cB eB kB : Nat → Int)  (a : Act) (W : World) (hS : S7 b7 b8 a) (s15 : a.tmps.getD 15 undef = .int .i64 0) (hAB : AB w b7 b8 pa pb wa ha wb hb na ca nb cb cA eA kA cB eB kB W) : (sq 8 (bodyOf Tryd.f6)).wp Tryd.prog (fun e a' W' => e = .normal ∧ S7 b7 b8 a' ∧ a'.tmps.getD 15 undef = .int .i64 (sumTo kA na 3) ∧ AB w b7 b8 pa pb wa ha wb hb na ca nb cb cA eA kA cB eB kB W') a W := by
  obtain ⟨hsz, hdf, s6, s7, s8⟩ := hS
  obtain ⟨tm, dfs⟩ := a
  simp only at hsz hdf
  subst hdf
  obtain ⟨g_, rfl⟩ := lit191 tm hsz
  replace s6 : g_ 6 = .bool false := s6
  replace s7 : g_ 7 = .pointer (some ⟨b7, 0, none⟩) := s7
  replace s8 : g_ 8 = .pointer (some ⟨b8, 0, none⟩) := s8
  clear hsz
  replace s15 : g_ 15 = .int .i64 0 := s15
  obtain ⟨h7, h8, hca, hcb, hW, hL, hnA, hnB, hkA⟩ := hAB
  have hAB : AB w b7 b8 pa pb wa ha wb hb na ca nb cb cA eA kA cB eB kB W := ⟨h7, h8, hca, hcb, hW, hL, hnA, hnB, hkA⟩
  have a0 := held_cell h7 0
  have a1 := held_cell h7 1
  have a2 : W.cell? ⟨b7, 2, none⟩ = some (.slice pa na ca) := held_cell h7 2
  have d0 := held_cell h8 0
  have d1 := held_cell h8 1
  have d2 : W.cell? ⟨b8, 2, none⟩ = some (.slice pb nb cb) := held_cell h8 2
  simp only [sq, bodyOf, Tryd.f6]
  simp only [s6, s7, s8]
  simp only [s15]
  go_wp2_with fail
  go_loopw [16, 15, 6] (fun kv sv rv wr => ∃ n : Nat, kv = .int .u8 ((n : Int) + 1) ∧ sv = .int .i64 (sumTo kA na n) ∧ rv = .bool false ∧ n ≤ 3 ∧ sumTo kA na n ≤ 96 * n ∧ ∃ x : Later W, wr = on x) (fun kv _ _ _ => (4 - intOf kv).toNat)
  case atStart => exact ⟨0, rfl, rfl, rfl, by omega, Nat.le_refl _, ⟨W, Below.refl _ _⟩, rfl⟩
  case round =>
    obtain ⟨n, rfl, rfl, rfl, hn, hs, x, rfl⟩ := hrel
    have hq : Below W.heap.size W (on x) := x.b
    by_cases hn3 : n < 3
    · have hn' : ((n : Int) + 1) ≤ 3 := by omega
      go_wp2_with fail
      go_loopw [18, 17] (fun iv cv wr => ∃ i : Nat, iv = .int .i64 i ∧ cv = .int .i64 (cntK kA ((n : Int) + 1) i) ∧ i ≤ na ∧ ∃ y : Later W, wr = on y) (fun iv _ _ => (na - intOf iv).toNat)
      case atStart => exact ⟨0, rfl, rfl, Nat.zero_le _, x, rfl⟩
      case round =>
        obtain ⟨i, rfl, rfl, hi, y, rfl⟩ := hrel
        have hqy : Below W.heap.size W (on y) := y.b
        by_cases hin : i < na
        · have hin' : (i : Int) < na := by omega
          obtain ⟨ab, ao, pae, hab, f0, f1, f2⟩ := hca.at hqy hin
          subst pae
          have a2' := cRy hqy a2
          have hci := cntK_le kA ((n : Int) + 1) i
          by_cases q1 : kA i = ((n : Int) + 1)
          · have e1 : cntK kA ((n : Int) + 1) (i + 1) = cntK kA ((n : Int) + 1) i + 1 := by show cntK kA _ i + (if kA i = _ then 1 else 0) = _; rw [if_pos q1]
            have q2 : (kA i == (n : Int) + 1) = true := by rw [q1]; simp
            go_wp2_with fail
            first | exact ⟨⟨i + 1, by simp, by rw [e1]; simp, by omega, y, rfl⟩, by simp [intOf]; omega⟩
          · have e1 : cntK kA ((n : Int) + 1) (i + 1) = cntK kA ((n : Int) + 1) i := by show cntK kA _ i + (if kA i = _ then 1 else 0) = _; rw [if_neg q1]; rfl
            have q2 : (kA i == (n : Int) + 1) = false := eqf (by intro h; exact q1 h)
            go_wp2_with fail
            first | exact ⟨⟨i + 1, by simp, by rw [e1], by omega, y, rfl⟩, by simp [intOf]; omega⟩
        · obtain rfl : i = na := by omega
          have a2' := cRy hqy a2
          have a0' := cRy hqy a0
          have a1' := cRy hqy a1
          have hci := cntK_le kA ((n : Int) + 1) i
          go_wp2_with (first | (go_at_call 26; (with_reducible refine (count_any cA eA kA pa _ ca wa ha _ _ (by omega) (hca.below (by repeat first | (with_reducible exact Below.refl _ _) | (with_reducible assumption) | (with_reducible refine below_on ?_ _) | (with_reducible refine below_dn ?_) | (with_reducible refine below_drew ?_) | (with_reducible refine below_alloc ?_ _) | (with_reducible refine below_set ?_ (by simp; try omega) _) | (exact below_alloc hq _)))).mono ?_); rintro e wx ⟨rfl, hx⟩; obtain ⟨ux, rfl⟩ := after hx; clear hx) | fail)
          exact ⟨⟨n + 1, by push_cast; rfl, by rw [sumTo]; push_cast; rfl, rfl, by omega, by rw [sumTo]; omega, ⟨on ux, (by repeat first | (with_reducible exact Below.refl _ _) | (with_reducible assumption) | (with_reducible refine below_on ?_ _) | (with_reducible refine below_dn ?_) | (with_reducible refine below_drew ?_) | (with_reducible refine below_alloc ?_ _) | (with_reducible refine below_set ?_ (by simp; try omega) _) | (exact below_alloc hq _))⟩, rfl⟩, by simp [intOf]; omega⟩
    · obtain rfl : n = 3 := by omega
      go_wp2_with fail
      first | exact ⟨⟨rfl, rfl, rfl, rfl, rfl⟩, rfl, hAB.below hq⟩ | exact ⟨⟨rfl, rfl, rfl, rfl, rfl⟩, hAB.below hq⟩
end

section
open Go Go.RowKit

attribute [local go_sem] World.cell?_alloc_some frozen?_alloc_cells fz0 fz1 fz2 fz3 fz4 fz5

set_option maxRecDepth 100000 in
set_option maxHeartbeats 4000000 in
theorem fr9 (w : World) (b7 b8 : Nat) (pa pb : Option Addr) (wa ha wb hb : Int) (na ca nb cb : Nat) (cA eA kA cB eB kB : Nat → Int) (a : Act) (W : World) (hS : S7 b7 b8 a) (s15 : a.tmps.getD 15 undef = .int .i64 (sumTo kA na 3)) (hAB : AB w b7 b8 pa pb wa ha wb hb na ca nb cb cA eA kA cB eB kB W) : (sq 9 (bodyOf Tryd.f6)).wp Tryd.prog (fun e a' W' => e = .normal ∧ a'.defers = [] ∧ a'.tmps.getD 6 undef = .bool true ∧ Below W.heap.size W W') a W := by
  obtain ⟨hsz, hdf, s6, s7, s8⟩ := hS
  obtain ⟨tm, dfs⟩ := a
  simp only at hsz hdf
  subst hdf
  obtain ⟨g_, rfl⟩ := lit191 tm hsz
  replace s6 : g_ 6 = .bool false := s6
  replace s7 : g_ 7 = .pointer (some ⟨b7, 0, none⟩) := s7
  replace s8 : g_ 8 = .pointer (some ⟨b8, 0, none⟩) := s8
  clear hsz
  replace s15 : g_ 15 = .int .i64 (sumTo kA na 3) := s15
  obtain ⟨h7, h8, hca, hcb, hW, hL, hnA, hnB, hkA⟩ := hAB
  have hAB : AB w b7 b8 pa pb wa ha wb hb na ca nb cb cA eA kA cB eB kB W := ⟨h7, h8, hca, hcb, hW, hL, hnA, hnB, hkA⟩
  have a0 := held_cell h7 0
  have a1 := held_cell h7 1
  have a2 : W.cell? ⟨b7, 2, none⟩ = some (.slice pa na ca) := held_cell h7 2
  have d0 := held_cell h8 0
  have d1 := held_cell h8 1
  have d2 : W.cell? ⟨b8, 2, none⟩ = some (.slice pb nb cb) := held_cell h8 2
  obtain ⟨t1, t2, t3⟩ := cnt_all kA na hkA
  have t4 : sumTo kA na 3 = na := by rw [sum3]; exact t1
  rw [t4] at s15
  have c0 : ∀ V, Below W.heap.size W V → Calls Tryd.prog 26 #[.agg #[.int .i64 wa, .int .i64 ha, .slice pa na ca], .int .u8 0] V fun r w' => r = .returned (.int .i64 0) ∧ Below V.heap.size V w' := fun V hV => by
    have := count_any cA eA kA pa na ca wa ha 0 V (by omega) (hca.below hV)
    rwa [t2] at this
  have c4 : ∀ V, Below W.heap.size W V → Calls Tryd.prog 26 #[.agg #[.int .i64 wa, .int .i64 ha, .slice pa na ca], .int .u8 4] V fun r w' => r = .returned (.int .i64 0) ∧ Below V.heap.size V w' := fun V hV => by
    have := count_any cA eA kA pa na ca wa ha 4 V (by omega) (hca.below hV)
    rwa [t3] at this
  have cl : ∀ V, Below W.heap.size W V → Calls Tryd.prog 12 #[] V fun r w' => r = .returned (.bool true) ∧ Below V.heap.size V w' := fun V hV => lives_ok V (lay_below hL hV)
  simp only [sq, bodyOf, Tryd.f6]
  simp only [s6, s7, s8]
  simp only [s15]
  go_upto_region 28 with fail
  refine region_later (by kernel_rfl) (by kernel_rfl) ?_
  repeat (go_big_quiet_step ((first | (go_at_call 26; with_reducible exact Calls.later (c0 _ (by repeat first | (with_reducible exact Below.refl _ _) | (with_reducible assumption) | (with_reducible refine below_on ?_ _) | (with_reducible refine below_dn ?_) | (with_reducible refine below_drew ?_) | (with_reducible refine below_alloc ?_ _) | (with_reducible refine below_set ?_ (by simp; try omega) _) | (exact below_alloc hq _)))) | (go_at_call 26; with_reducible exact Calls.later (c4 _ (by repeat first | (with_reducible exact Below.refl _ _) | (with_reducible assumption) | (with_reducible refine below_on ?_ _) | (with_reducible refine below_dn ?_) | (with_reducible refine below_drew ?_) | (with_reducible refine below_alloc ?_ _) | (with_reducible refine below_set ?_ (by simp; try omega) _) | (exact below_alloc hq _)))) | (go_at_call 12; with_reducible exact Calls.later (cl _ (by repeat first | (with_reducible exact Below.refl _ _) | (with_reducible assumption) | (with_reducible refine below_on ?_ _) | (with_reducible refine below_dn ?_) | (with_reducible refine below_drew ?_) | (with_reducible refine below_alloc ?_ _) | (with_reducible refine below_set ?_ (by simp; try omega) _) | (exact below_alloc hq _)))))))
  refine wpQuiet_nil ?_
  rintro _ ⟨u3, rfl⟩
  go_wp2_with fail
  first | exact (by repeat first | (with_reducible exact Below.refl _ _) | (with_reducible assumption) | (with_reducible refine below_on ?_ _) | (with_reducible refine below_dn ?_) | (with_reducible refine below_drew ?_) | (with_reducible refine below_alloc ?_ _) | (with_reducible refine below_set ?_ (by simp; try omega) _) | (exact below_alloc hq _)) | exact ⟨rfl, (by repeat first | (with_reducible exact Below.refl _ _) | (with_reducible assumption) | (with_reducible refine below_on ?_ _) | (with_reducible refine below_dn ?_) | (with_reducible refine below_drew ?_) | (with_reducible refine below_alloc ?_ _) | (with_reducible refine below_set ?_ (by simp; try omega) _) | (exact below_alloc hq _))⟩ | exact ⟨rfl, rfl, (by repeat first | (with_reducible exact Below.refl _ _) | (with_reducible assumption) | (with_reducible refine below_on ?_ _) | (with_reducible refine below_dn ?_) | (with_reducible refine below_drew ?_) | (with_reducible refine below_alloc ?_ _) | (with_reducible refine below_set ?_ (by simp; try omega) _) | (exact below_alloc hq _))⟩ | exact ⟨rfl, by simp, (by repeat first | (with_reducible exact Below.refl _ _) | (with_reducible assumption) | (with_reducible refine below_on ?_ _) | (with_reducible refine below_dn ?_) | (with_reducible refine below_drew ?_) | (with_reducible refine below_alloc ?_ _) | (with_reducible refine below_set ?_ (by simp; try omega) _) | (exact below_alloc hq _))⟩
end

end Go.Proofs.YtdnekeegpenioaaDoor
