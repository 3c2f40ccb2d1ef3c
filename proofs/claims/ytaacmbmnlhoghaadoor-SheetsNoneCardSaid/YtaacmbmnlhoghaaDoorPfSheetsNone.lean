/-
  Says: crimplaw05.SheetsNone, called with any sheet as plain data and any unit, returns true and leaves its arguments as they were, where the two listed package-level tables hold what their initialisers laid (the card ties these to the text).
-/
import Derived.Test.YtaacmbmnlhoghaaDoorLwNone
import Derived.Test.YtaacmbmnlhoghaaDoorCl0
import Derived.Test.YtaacmbmnlhoghaaDoorTie
import Derived.Test.YtaacmbmnlhoghaaDoorCards
import Derived.SevenTiedAt
set_option linter.unusedVariables false
set_option linter.unusedSimpArgs false
namespace Go.Proofs.YtaacmbmnlhoghaaDoor
open Go Go.RowKit

open Go.ChangeShapes Go.WideShapes Go.ChangeAt Go.WideMaps Go.WideElems Go.Joins
theorem cellsW : Tryd.prog.cellsOf 23 = 2 := by kernel_rfl
theorem cellsUn : Tryd.prog.cellsOf 43 = 2 := by kernel_rfl

set_option maxRecDepth 100000 in
theorem sheetsNone_lifted (os : Os) (started : os.Started) (H : Type) (enc : TypeId × Value → H) :
    ReturnsInHanded {} Tryd.checked os 6 .any (fun w args => (Rows.sheetsNoneSpec.pre enc Tryd.prog Tryd.f6 [] false w args ∧ laidMetH Tryd.prog laidL w) ∧ sizedMet enc Tryd.prog Tryd.f6 (OpenSpec.ofChange Rows.sheetsNoneSpec) false w args)
      (Rows.sheetsNoneSpec.post enc Tryd.prog Tryd.f6 false true false false) := by
  refine returns_laid_shaped (C := Tryd.checked) (X := fun w _ => laidMetH Tryd.prog laidL w) (fun _ _ _ hh h => h.of_heap hh) own started (by kernel_rfl) Tryd.func6
    (ChangeSpec.witness_shaped (enc := enc) (C := Tryd.checked) (os := os) (X := fun w _ => laidMetH Tryd.prog laidL w) false (World.doorLaid Tryd.prog 101 os) #[.agg #[.int .u8 0, .int .u8 0], .agg #[.int .i64 0, .int .u8 0]] 8 rfl (World.shaped_of_RefB (by kernel_rfl) (by kernel_rfl)) (by kernel_rfl) (by kernel_rfl) (by kernel_rfl) (door_met os _)) ?_
  intro W base args ds gs before hval0 hW hL hsh
  have hval : ∀ (j : Nat) t v, Tryd.f6.params[j]? = some t → args[j]? = some v → Value.okWide Tryd.prog W .any base t v := hval0
  have hW' := hW
  obtain ⟨p, q, hA0, hV, rfl, hfz, hnd⟩ := hW
  have hA : DataW.TrodAll enc Tryd.prog W 0 (fun _ => true) true Tryd.f6.params.toList args.toList ds p := hA0
  rw [Tryd.params6] at hA hval
  obtain ⟨v0, v1, d0, d1, p0, p1, rfl, rfl, rfl, h0, h1⟩ := trodAll_two hA
  obtain ⟨rfl, rfl⟩ := trodVars_none hV
  obtain ⟨c0a, c0b, y0a, y0b, m0, rfl, rfl, rfl, hy0a, hy0b⟩ := open_agg2 Tryd.underlying23 (by kernel_rfl) cellsW (hval 0 23 v0 rfl rfl) h0
  obtain ⟨a, e0a, rfl, wa⟩ := DataW.trod_int Tryd.underlying5 hy0a
  obtain ⟨b, e0b, rfl, wb⟩ := DataW.trod_int Tryd.underlying5 hy0b
  simp at e0a e0b
  subst e0a e0b
  have r0 : ∀ (W' : World) (sp : Nat → Bool), DataW.Trod enc Tryd.prog W' 0 sp true 23 (.agg #[.int .u8 a, .int .u8 b]) (.agg [.lit (.int .u8 a), .lit (.int .u8 b)]) [] := fun W' sp =>
    shut_agg2 (y0 := (.lit (.int .u8 a), [])) (y1 := (.lit (.int .u8 b), [])) Tryd.underlying23 (by kernel_rfl) cellsW ⟨1, by simp [DataW.trod, Tryd.underlying5, wa]⟩ ⟨1, by simp [DataW.trod, Tryd.underlying5, wb]⟩
  obtain ⟨c1a, c1b, y1a, y1b, m1, rfl, rfl, rfl, hy1a, hy1b⟩ := open_agg2 Tryd.underlying43 (by kernel_rfl) cellsUn (hval 1 43 v1 rfl rfl) h1
  obtain ⟨i, e1a, rfl, wi⟩ := DataW.trod_int Tryd.underlying3 hy1a
  obtain ⟨e, e1b, rfl, we⟩ := DataW.trod_int Tryd.underlying5 hy1b
  simp at e1a e1b
  subst e1a e1b
  have r1 : ∀ (W' : World) (sp : Nat → Bool), DataW.Trod enc Tryd.prog W' 0 sp true 43 (.agg #[.int .i64 i, .int .u8 e]) (.agg [.lit (.int .i64 i), .lit (.int .u8 e)]) [] := fun W' sp =>
    shut_agg2 (y0 := (.lit (.int .i64 i), [])) (y1 := (.lit (.int .u8 e), [])) Tryd.underlying43 (by kernel_rfl) cellsUn ⟨1, by simp [DataW.trod, Tryd.underlying3, wi]⟩ ⟨1, by simp [DataW.trod, Tryd.underlying5, we]⟩
  have hT : Lay W := lay_of_laid hL hsh
  clear hA0 hval0
  simp only [List.append_nil] at hW'
  have za : 0 ≤ a ∧ a ≤ 255 := by
    have := wa
    simp [Lit.wf] at this
    have e1 : IntKind.u8.min = 0 := rfl
    have e2 : IntKind.u8.max = 255 := rfl
    omega
  have zb : 0 ≤ b ∧ b ≤ 255 := by
    have := wb
    simp [Lit.wf] at this
    have e1 : IntKind.u8.min = 0 := rfl
    have e2 : IntKind.u8.max = 255 := rfl
    omega
  have zi : -9223372036854775808 ≤ i ∧ i ≤ 9223372036854775807 := by
    have := wi
    simp [Lit.wf] at this
    have e1 : IntKind.i64.min = -9223372036854775808 := rfl
    have e2 : IntKind.i64.max = 9223372036854775807 := rfl
    omega
  have ze : 0 ≤ e ∧ e ≤ 255 := by
    have := we
    simp [Lit.wf] at this
    have e1 : IntKind.u8.min = 0 := rfl
    have e2 : IntKind.u8.max = 255 := rfl
    omega
  refine (sheetsnone_law a b i e W hT za.1 za.2 zb.1 zb.2 zi.1 zi.2 ze.1 ze.2).mono fun e W' ⟨he, hb⟩ => ?_
  subst he
  have hargs : ∀ (W' : World) (sp : Nat → Bool), DataW.TrodAll enc Tryd.prog W' 0 sp true Tryd.f6.params.toList _ _ _ := fun W' sp => trodAll_mk2 (r0 W' sp) (r1 W' sp)
  exact ⟨_, rfl, _, _, _, [], [], [], hW', trodAll_mk1 (shut_bool Tryd.underlying4 _), hargs _ _, rfl, hb.frame _, fun h => by cases h⟩

theorem sheetsNone_holds : Rows.SheetsNoneSaid :=
  OpenClaim.holds_of_wide 6 Tryd.f6 rfl rfl rfl rfl rfl rfl rfl ⟨rfl, rfl, rfl, rfl, rfl⟩ rfl rfl rfl rfl rfl (by kernel_rfl) Tryd.func6 (by kernel_rfl)
    (of_decide_eq_true (by kernel_rfl)) (by unfold Func.isWrapper; first | (rw [if_pos (by decide +kernel)]; kernel_rfl) | (rw [if_neg (by decide +kernel)]; exact ⟨rfl, rfl⟩))
    (fun os started H enc _ => sheetsNone_lifted os started H enc)

/-- The tied card. -/
theorem sheetsNone_card_holds : Rows.SheetsNoneCardSaid :=
  Claim7.holds_tied_plain_at .later [] [.data, .data] true (true, "8e4cc0e6362cba19d7b667e52a35bd05c614877622f68faa52a6917dc910fc4b") false
    sheetsNone_holds (fun _ h => by cases h) (by kernel_rfl) (fun _ h => by cases h) sheetsNone_row_tie rfl ⟨rfl, rfl⟩ (by kernel_rfl) rfl
    (fun f fn hf hfn => by
      obtain rfl : f = 6 := Option.some.inj ((show Tryd.prog.funcNamed "crimp/crimplaw05.SheetsNone" = some 6 by kernel_rfl).symm.trans hf) |>.symm
      obtain rfl : fn = Tryd.f6 := (Option.some.inj (Tryd.func6.symm.trans hfn)).symm
      exact ⟨by kernel_rfl, fun j t ht => by
        rw [Tryd.params6] at ht
        have hm : t ∈ [23, 43] := by simpa using Array.mem_of_getElem? ht
        have hall : ([23, 43].all fun u => !Tryd.prog.wantsStandIn u) = true := by kernel_rfl
        exact (show Tryd.prog.wantsStandIn t = false by simpa using List.all_eq_true.1 hall t hm)⟩)
    (by kernel_rfl)
#print axioms sheetsNone_card_holds

end Go.Proofs.YtaacmbmnlhoghaaDoor
