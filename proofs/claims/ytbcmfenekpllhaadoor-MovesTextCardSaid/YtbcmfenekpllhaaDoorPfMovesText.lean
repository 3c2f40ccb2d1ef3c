/-
  Says: crimplaw02.MovesText, called with any move and any text, returns true and leaves its arguments as they were, where the eight listed package-level variables hold what their initialisers laid (the card ties these to the text).
-/
import Derived.Test.YtbcmfenekpllhaaDoorMlTx
import Derived.Test.YtbcmfenekpllhaaDoorMl0
import Derived.Test.YtbcmfenekpllhaaDoorTie
import Derived.Test.YtbcmfenekpllhaaDoorCards
import Derived.SevenTiedAt
import Derived.Carry
set_option linter.unusedVariables false
set_option linter.unusedSimpArgs false
namespace Go.Proofs.YtbcmfenekpllhaaDoor
open Go Go.RowKit

open Go.ChangeShapes Go.WideShapes Go.ChangeAt Go.WideMaps Go.WideElems Go.Joins

set_option maxRecDepth 100000 in
theorem movesText_lifted (os : Os) (started : os.Started) (H : Type) (enc : TypeId × Value → H) :
    ReturnsInHanded {} Tryd.checked os 11 .any (fun w args => (Rows.movesTextSpec.pre enc Tryd.prog Tryd.f11 [] false w args ∧ laidMetH Tryd.prog laidM w) ∧ sizedMet enc Tryd.prog Tryd.f11 (OpenSpec.ofChange Rows.movesTextSpec) false w args)
      (Rows.movesTextSpec.post enc Tryd.prog Tryd.f11 false true false false) := by
  refine returns_laid_shaped (C := Tryd.checked) (X := fun w _ => laidMetH Tryd.prog laidM w) (fun _ _ _ hh h => h.of_heap hh) ownM started (by kernel_rfl) Tryd.func11
    (ChangeSpec.witness_shaped (enc := enc) (C := Tryd.checked) (os := os) (X := fun w _ => laidMetH Tryd.prog laidM w) false (mWorld os) #[.agg #[.int .u8 0, .int .i64 0, .int .i64 0], .string ⟨#[]⟩] 8 rfl (World.shaped_of_RefB (by kernel_rfl) (by kernel_rfl)) (by kernel_rfl) (by kernel_rfl) (by kernel_rfl) (m_met os _)) ?_
  intro W base args ds gs before hval0 hW hL hsh
  have hval : ∀ (j : Nat) t v, Tryd.f11.params[j]? = some t → args[j]? = some v → Value.okWide Tryd.prog W .any base t v := hval0
  have hW' := hW
  obtain ⟨p, q, hA0, hV, rfl, hfz, hnd⟩ := hW
  have hA : DataW.TrodAll enc Tryd.prog W 0 (fun _ => true) true Tryd.f11.params.toList args.toList ds p := hA0
  rw [Tryd.params11] at hA hval
  obtain ⟨v0, v1, d0, d1, p0, p1, rfl, rfl, rfl, h0, h1⟩ := trodAll_two hA
  obtain ⟨rfl, rfl⟩ := trodVars_none hV
  obtain ⟨c0a, c0b, c0c, y0a, y0b, y0c, m0, rfl, rfl, rfl, hy0a, hy0b, hy0c⟩ := open_agg3 Tryd.underlying51 (by kernel_rfl) cellsMv (hval 0 51 v0 rfl rfl) h0
  obtain ⟨t, e0a, rfl, wt⟩ := DataW.trod_int Tryd.underlying5 hy0a
  obtain ⟨X, e0b, rfl, wX⟩ := DataW.trod_int Tryd.underlying3 hy0b
  obtain ⟨Y, e0c, rfl, wY⟩ := DataW.trod_int Tryd.underlying3 hy0c
  simp at e0a e0b e0c
  subst e0a e0b e0c
  have r0 : ∀ (W' : World) (sp : Nat → Bool), DataW.Trod enc Tryd.prog W' 0 sp true 51 (.agg #[.int .u8 t, .int .i64 X, .int .i64 Y]) (.agg [.lit (.int .u8 t), .lit (.int .i64 X), .lit (.int .i64 Y)]) [] := fun W' sp =>
    shut_agg3 (y0 := (.lit (.int .u8 t), [])) (y1 := (.lit (.int .i64 X), [])) (y2 := (.lit (.int .i64 Y), [])) Tryd.underlying51 (by kernel_rfl) cellsMv ⟨1, by simp [DataW.trod, Tryd.underlying5, wt]⟩ ⟨1, by simp [DataW.trod, Tryd.underlying3, wX]⟩ ⟨1, by simp [DataW.trod, Tryd.underlying3, wY]⟩
  obtain ⟨s, rfl, rfl, rfl, ws⟩ := Go.ChangeMaps.open_string Tryd.underlying9 (hval 1 9 v1 rfl rfl) h1
  have r1 : ∀ (W' : World) (sp : Nat → Bool), DataW.Trod enc Tryd.prog W' 0 sp true 9 (.string s) (.lit (.string s.data.toList)) [] := fun _ _ => Go.ChangeMaps.shut_string Tryd.underlying9 ws
  have hS : Std W := std_of_laid hL hsh
  clear hA0 hval0
  simp only [List.append_nil] at hW'
  have z0 : 0 ≤ t := by
    have := wt
    simp [Lit.wf] at this
    have e1 : IntKind.u8.min = 0 := rfl
    omega
  refine (movestext_law t X Y s W hS z0).mono fun e W' ⟨he, hb⟩ => ?_
  subst he
  have hargs : ∀ (W' : World) (sp : Nat → Bool), DataW.TrodAll enc Tryd.prog W' 0 sp true Tryd.f11.params.toList _ _ _ := fun W' sp => trodAll_mk2 (r0 W' sp) (r1 W' sp)
  exact ⟨_, rfl, _, _, _, [], [], [], hW', trodAll_mk1 (shut_bool Tryd.underlying4 _), hargs _ _, rfl, hb.frame _, fun h => by cases h⟩

theorem movesText_holds : Rows.MovesTextSaid :=
  OpenClaim.holds_of_wide 11 Tryd.f11 rfl rfl rfl rfl rfl rfl rfl ⟨rfl, rfl, rfl, rfl, rfl⟩ rfl rfl rfl rfl rfl (by kernel_rfl) Tryd.func11 (by kernel_rfl)
    (of_decide_eq_true (by kernel_rfl)) (by unfold Func.isWrapper; first | (rw [if_pos (by decide +kernel)]; kernel_rfl) | (rw [if_neg (by decide +kernel)]; exact ⟨rfl, rfl⟩))
    (fun os started H enc _ => movesText_lifted os started H enc)

/-- The tied card. -/
theorem movesText_card_holds : Rows.MovesTextCardSaid :=
  Claim7.holds_tied_plain_at .later [] [.data, .data, .data, .data, .sentinel, .sentinel, .data, .pinned] true (true, "27c006ed0c08bad13e82f7267d3d6d03022f553e6789535a3d0afc29313dfe9c") true
    movesText_holds (fun _ h => by cases h) (by kernel_rfl) (fun _ h => by cases h) movesText_row_tie rfl ⟨rfl, rfl⟩ (by kernel_rfl) rfl
    (fun f fn hf hfn => by
      obtain rfl : f = 11 := Option.some.inj ((show Tryd.prog.funcNamed "crimp/crimplaw02.MovesText" = some 11 by kernel_rfl).symm.trans hf) |>.symm
      obtain rfl : fn = Tryd.f11 := (Option.some.inj (Tryd.func11.symm.trans hfn)).symm
      exact ⟨by kernel_rfl, fun j t ht => by
        rw [Tryd.params11] at ht
        have hm : t ∈ [51, 9] := by simpa using Array.mem_of_getElem? ht
        have hall : ([51, 9].all fun u => !Tryd.prog.wantsStandIn u) = true := by kernel_rfl
        exact (show Tryd.prog.wantsStandIn t = false by simpa using List.all_eq_true.1 hall t hm)⟩)
    (by kernel_rfl)
#print axioms movesText_card_holds

end Go.Proofs.YtbcmfenekpllhaaDoor
