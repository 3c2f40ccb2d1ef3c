/-
  Says: SheetsKnown answers true.
-/
import Derived.Test.YtaacmbmnlhoghaaDoorLwUnits
import Derived.Test.YtaacmbmnlhoghaaDoorKG1
import Derived.Test.YtaacmbmnlhoghaaDoorKG2
import Derived.Test.YtaacmbmnlhoghaaDoorKH1
import Derived.Test.YtaacmbmnlhoghaaDoorKH2
import Derived.Test.YtaacmbmnlhoghaaDoorKI1
import Derived.KernelRfl
set_option maxRecDepth 1000000
set_option linter.unusedVariables false
set_option linter.unusedSimpArgs false
namespace Go.Proofs.YtaacmbmnlhoghaaDoor
open Go Go.Vx
attribute [local instance] anyKeeps

open Go.RowKit
attribute [local instance] anySyms
theorem gall_16 (t : Nat → TypeId) : allN (gAt t mk_16 16 16) 3072 0 = true := allN_app (m := 384) (lo := 0) (n := 2688) (gg_16_0 t) (allN_app (m := 384) (lo := 384) (n := 2304) (gg_16_1 t) (allN_app (m := 384) (lo := 768) (n := 1920) (gg_16_2 t) (allN_app (m := 384) (lo := 1152) (n := 1536) (gg_16_3 t) (allN_app (m := 384) (lo := 1536) (n := 1152) (gg_16_4 t) (allN_app (m := 384) (lo := 1920) (n := 768) (gg_16_5 t) (allN_app (m := 384) (lo := 2304) (n := 384) (gg_16_6 t) (gg_16_7 t)))))))
theorem gall_1 (t : Nat → TypeId) : allN (gAt t mk_1 1 256) 3072 0 = true := allN_app (m := 384) (lo := 0) (n := 2688) (gg_1_0 t) (allN_app (m := 384) (lo := 384) (n := 2304) (gg_1_1 t) (allN_app (m := 384) (lo := 768) (n := 1920) (gg_1_2 t) (allN_app (m := 384) (lo := 1152) (n := 1536) (gg_1_3 t) (allN_app (m := 384) (lo := 1536) (n := 1152) (gg_1_4 t) (allN_app (m := 384) (lo := 1920) (n := 768) (gg_1_5 t) (allN_app (m := 384) (lo := 2304) (n := 384) (gg_1_6 t) (gg_1_7 t)))))))

theorem g_get (t : Nat → TypeId) {m W H id e : Nat} (hA : allN (gAt t m W H) 3072 0 = true) (h1 : id < 1024) (h2 : e < 3) : Entry Tryd.prog (tabG t) 51 ([va [vi W, vi H], va [vi id, vu e]], .bool (bitM m (3 * id + e))) := by
  have h := allN_get hA (3 * id + e) (Nat.zero_le _) (by omega)
  have d1 : Nat.div (3 * id + e) 3 = id := by show (3 * id + e) / 3 = id; omega
  have d2 : Nat.mod (3 * id + e) 3 = e := by show (3 * id + e) % 3 = e; omega
  unfold gAt at h
  rw [d1, d2] at h
  exact entry_of (tabs_G t) (size_V t) (floor_V t) (QC0_ok t) h
theorem a51_16 (t : Nat → TypeId) : AnsOk Tryd.prog (tabG t) (fnAns 51 A51_16) := fnAns_ok (tabs_G t) (by
  intro args v h
  unfold A51_16 at h
  split at h
  · rename_i W H id e
    split at h
    · rename_i hb
      cases h
      simp only [Bool.and_eq_true] at hb
      obtain ⟨g1, g2, h1, h2⟩ := hb
      obtain rfl := Nat.eq_of_beq_eq_true g1
      obtain rfl := Nat.eq_of_beq_eq_true g2
      exact g_get t (gall_16 t) (blt_lt h1) (blt_lt h2)
    · cases h
  · cases h)
theorem rg_ok_16 (t : Nat → TypeId) : KnownH Tryd.prog (tabG t) rg_16 ∧ rg_16.args.all flat = true := rowH_of (tabs_G t) (size_V t) (floor_V t) (valOrc_ok (base_G t) (a51_16 t)) (rh_16 t)
theorem a51_1 (t : Nat → TypeId) : AnsOk Tryd.prog (tabG t) (fnAns 51 A51_1) := fnAns_ok (tabs_G t) (by
  intro args v h
  unfold A51_1 at h
  split at h
  · rename_i W H id e
    split at h
    · rename_i hb
      cases h
      simp only [Bool.and_eq_true] at hb
      obtain ⟨g1, g2, h1, h2⟩ := hb
      obtain rfl := Nat.eq_of_beq_eq_true g1
      obtain rfl := Nat.eq_of_beq_eq_true g2
      exact g_get t (gall_1 t) (blt_lt h1) (blt_lt h2)
    · cases h
  · cases h)
theorem rg_ok_1 (t : Nat → TypeId) : KnownH Tryd.prog (tabG t) rg_1 ∧ rg_1.args.all flat = true := rowH_of (tabs_G t) (size_V t) (floor_V t) (valOrc_ok (base_G t) (a51_1 t)) (rh_1 t)
theorem big_ok (t : Nat → TypeId) : RowsOk Tryd.prog (tabG t) [rg_16, rg_1] := fun e he => by
  simp only [List.mem_cons, List.not_mem_nil, or_false] at he
  rcases he with rfl | rfl
  · exact rg_ok_16 t
  · exact rg_ok_1 t
theorem le_orc (t : Nat → TypeId) {l : List RowE} (h : RowsOk Tryd.prog (tabG t) l) : OrcOk Tryd.prog (tabG t) (rowOrc (fun _ => false) (tabG t) (orAns (fnAns 8 A8) (orAns (fnAns 15 A15) (orAns (fnAns 17 A17) AV))) l) :=
  rowOrc_ok (tabs_G t) (base_G t) ((a8 t).or ((a15 t).or ((a17 t).or (AV_ok t)))) h
theorem lo_0 (t : Nat → TypeId) : Ents Tryd.prog (tabG t) le_0 := ents_of (tabs_G t) (size_V t) (floor_V t) (le_orc t (rk_1_1 t)) (li_0 t)
theorem lo_1 (t : Nat → TypeId) : Ents Tryd.prog (tabG t) le_1 := ents_of (tabs_G t) (size_V t) (floor_V t) (le_orc t (rk_2_1 t)) (li_1 t)
theorem lo_2 (t : Nat → TypeId) : Ents Tryd.prog (tabG t) le_2 := ents_of (tabs_G t) (size_V t) (floor_V t) (le_orc t (rk_3_1 t)) (li_2 t)
theorem lo_3 (t : Nat → TypeId) : Ents Tryd.prog (tabG t) le_3 := ents_of (tabs_G t) (size_V t) (floor_V t) (le_orc t (rk_4_1 t)) (li_3 t)
theorem lo_4 (t : Nat → TypeId) : Ents Tryd.prog (tabG t) le_4 := ents_of (tabs_G t) (size_V t) (floor_V t) (le_orc t (rk_5_1 t)) (li_4 t)
theorem lo_5 (t : Nat → TypeId) : Ents Tryd.prog (tabG t) le_5 := ents_of (tabs_G t) (size_V t) (floor_V t) (le_orc t (rk_1_2 t)) (li_5 t)
theorem lo_6 (t : Nat → TypeId) : Ents Tryd.prog (tabG t) le_6 := ents_of (tabs_G t) (size_V t) (floor_V t) (le_orc t (rk_2_2 t)) (li_6 t)
theorem lo_7 (t : Nat → TypeId) : Ents Tryd.prog (tabG t) le_7 := ents_of (tabs_G t) (size_V t) (floor_V t) (le_orc t (rk_3_2 t)) (li_7 t)
theorem lo_8 (t : Nat → TypeId) : Ents Tryd.prog (tabG t) le_8 := ents_of (tabs_G t) (size_V t) (floor_V t) (le_orc t (rk_4_2 t)) (li_8 t)
theorem lo_9 (t : Nat → TypeId) : Ents Tryd.prog (tabG t) le_9 := ents_of (tabs_G t) (size_V t) (floor_V t) (le_orc t (rk_5_2 t)) (li_9 t)
theorem lo_10 (t : Nat → TypeId) : Ents Tryd.prog (tabG t) le_10 := ents_of (tabs_G t) (size_V t) (floor_V t) (le_orc t (rk_1_3 t)) (li_10 t)
theorem lo_11 (t : Nat → TypeId) : Ents Tryd.prog (tabG t) le_11 := ents_of (tabs_G t) (size_V t) (floor_V t) (le_orc t (rk_2_3 t)) (li_11 t)
theorem lo_12 (t : Nat → TypeId) : Ents Tryd.prog (tabG t) le_12 := ents_of (tabs_G t) (size_V t) (floor_V t) (le_orc t (rk_3_3 t)) (li_12 t)
theorem lo_13 (t : Nat → TypeId) : Ents Tryd.prog (tabG t) le_13 := ents_of (tabs_G t) (size_V t) (floor_V t) (le_orc t (rk_4_3 t)) (li_13 t)
theorem lo_14 (t : Nat → TypeId) : Ents Tryd.prog (tabG t) le_14 := ents_of (tabs_G t) (size_V t) (floor_V t) (le_orc t (rk_5_3 t)) (li_14 t)
theorem lo_15 (t : Nat → TypeId) : Ents Tryd.prog (tabG t) le_15 := ents_of (tabs_G t) (size_V t) (floor_V t) (le_orc t (rk_1_4 t)) (li_15 t)
theorem lo_16 (t : Nat → TypeId) : Ents Tryd.prog (tabG t) le_16 := ents_of (tabs_G t) (size_V t) (floor_V t) (le_orc t (rk_2_4 t)) (li_16 t)
theorem lo_17 (t : Nat → TypeId) : Ents Tryd.prog (tabG t) le_17 := ents_of (tabs_G t) (size_V t) (floor_V t) (le_orc t (rk_3_4 t)) (li_17 t)
theorem lo_18 (t : Nat → TypeId) : Ents Tryd.prog (tabG t) le_18 := ents_of (tabs_G t) (size_V t) (floor_V t) (le_orc t (rk_4_4 t)) (li_18 t)
theorem lo_19 (t : Nat → TypeId) : Ents Tryd.prog (tabG t) le_19 := ents_of (tabs_G t) (size_V t) (floor_V t) (le_orc t (rk_5_4 t)) (li_19 t)
theorem lo_20 (t : Nat → TypeId) : Ents Tryd.prog (tabG t) le_20 := ents_of (tabs_G t) (size_V t) (floor_V t) (le_orc t (rk_1_5 t)) (li_20 t)
theorem lo_21 (t : Nat → TypeId) : Ents Tryd.prog (tabG t) le_21 := ents_of (tabs_G t) (size_V t) (floor_V t) (le_orc t (rk_2_5 t)) (li_21 t)
theorem lo_22 (t : Nat → TypeId) : Ents Tryd.prog (tabG t) le_22 := ents_of (tabs_G t) (size_V t) (floor_V t) (le_orc t (rk_3_5 t)) (li_22 t)
theorem lo_23 (t : Nat → TypeId) : Ents Tryd.prog (tabG t) le_23 := ents_of (tabs_G t) (size_V t) (floor_V t) (le_orc t (rk_4_5 t)) (li_23 t)
theorem lo_24 (t : Nat → TypeId) : Ents Tryd.prog (tabG t) le_24 := ents_of (tabs_G t) (size_V t) (floor_V t) (le_orc t (rk_5_5 t)) (li_24 t)
noncomputable def A5 (args : List Value) : Option Value := match args with
  | [.agg ⟨[.int .u8 a, .int .u8 b]⟩] => (match inR 0 255 a with | true => (match inR 0 255 b with | true => some vt | false => none) | false => none)
  | _ => none
theorem a5 (t : Nat → TypeId) : AnsOk Tryd.prog (tabG t) (fnAns 5 A5) := fnAns_ok (tabs_G t) (by
  intro args v h
  unfold A5 at h
  split at h
  · split at h
    · rename_i ha
      split at h
      · rename_i hb
        cases h
        exact ⟨lu_all t _ _ (inR_spec ha) (inR_spec hb), rfl, rfl⟩
      · cases h
    · cases h
  · cases h)
noncomputable def lastE : List Ent := le_0 ++ le_1 ++ le_2 ++ le_3 ++ le_4 ++ le_5 ++ le_6 ++ le_7 ++ le_8 ++ le_9 ++ le_10 ++ le_11 ++ le_12 ++ le_13 ++ le_14 ++ le_15 ++ le_16 ++ le_17 ++ le_18 ++ le_19 ++ le_20 ++ le_21 ++ le_22 ++ le_23 ++ le_24
theorem last_ok (t : Nat → TypeId) : Ents Tryd.prog (tabG t) lastE := (Ents.app (Ents.app (Ents.app (Ents.app (Ents.app (Ents.app (Ents.app (Ents.app (Ents.app (Ents.app (Ents.app (Ents.app (Ents.app (Ents.app (Ents.app (Ents.app (Ents.app (Ents.app (Ents.app (Ents.app (Ents.app (Ents.app (Ents.app (Ents.app (lo_0 t) (lo_1 t)) (lo_2 t)) (lo_3 t)) (lo_4 t)) (lo_5 t)) (lo_6 t)) (lo_7 t)) (lo_8 t)) (lo_9 t)) (lo_10 t)) (lo_11 t)) (lo_12 t)) (lo_13 t)) (lo_14 t)) (lo_15 t)) (lo_16 t)) (lo_17 t)) (lo_18 t)) (lo_19 t)) (lo_20 t)) (lo_21 t)) (lo_22 t)) (lo_23 t)) (lo_24 t))
noncomputable def lastQ (t : Nat → TypeId) : Orc := rowOrc (fun _ => false) (tabG t) (orAns (orcL lastE) (orAns (fnAns 5 A5) (ansT [(14, [], vt)]))) [rg_16, rg_1]
theorem lastQ_ok (t : Nat → TypeId) : OrcOk Tryd.prog (tabG t) (lastQ t) := rowOrc_ok (tabs_G t) (base_G t) ((orcL_ok (tabs_G t) (last_ok t)).or ((a5 t).or (ansT_ok t))) (big_ok t)
theorem last_run (t : Nat → TypeId) : allL (entOk Tryd.prog (lastQ t) (tabG t)) [(7, [], vt)] = true := by kernel_rfl
theorem sheetsknown_law (w : World) (hL : Lay w) : Calls Tryd.prog 7 #[] w fun r w' => r = .returned (.bool true) ∧ Below w.heap.size w w' :=
  (ents_of (tabs_G (typ w)) (size_V _) (floor_V _) (lastQ_ok _) (last_run _) (7, [], vt) (List.mem_singleton.2 rfl)).1.calls (lies_G hL)

end Go.Proofs.YtaacmbmnlhoghaaDoor
