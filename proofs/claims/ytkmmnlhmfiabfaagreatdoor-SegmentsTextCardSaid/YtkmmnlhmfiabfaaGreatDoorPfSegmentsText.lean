/-
  Says: crimplaw07.SegmentsText, called with any segment and any text, returns true and leaves its arguments as they were, where the nine listed package-level variables hold what their initialisers laid (the card ties these to the text).
-/
import Derived.Test.YtkmmnlhmfiabfaaGreatDoorLwText
import Derived.Test.YtkmmnlhmfiabfaaGreatDoorSl0
import Derived.Test.YtkmmnlhmfiabfaaGreatDoorTie
import Derived.Test.YtkmmnlhmfiabfaaGreatDoorCards
import Derived.SevenTiedAt
import Derived.Carry
set_option linter.unusedVariables false
set_option linter.unusedSimpArgs false
namespace Go.Proofs.YtkmmnlhmfiabfaaGreatDoor
open Go Go.RowKit

open Go.ChangeShapes Go.WideShapes Go.ChangeAt Go.WideMaps Go.WideElems Go.Joins

set_option maxRecDepth 100000 in
theorem segmentsText_lifted (os : Os) (started : os.Started) (H : Type) (enc : TypeId × Value → H) :
    ReturnsInHanded {} Tryz.checked os 8 .any (fun w args => (Rows.segmentsTextSpec.pre enc Tryz.prog Tryz.f8 [] false w args ∧ laidMetH Tryz.prog laidM w) ∧ sizedMet enc Tryz.prog Tryz.f8 (OpenSpec.ofChange Rows.segmentsTextSpec) false w args)
      (Rows.segmentsTextSpec.post enc Tryz.prog Tryz.f8 false true false false) := by
  refine returns_laid_shaped (C := Tryz.checked) (X := fun w _ => laidMetH Tryz.prog laidM w) (fun _ _ _ hh h => h.of_heap hh) ownM started (by kernel_rfl) Tryz.func8
    (ChangeSpec.witness_shaped (enc := enc) (C := Tryz.checked) (os := os) (X := fun w _ => laidMetH Tryz.prog laidM w) false (mWorld os) #[.agg #[.int .u8 0, .int .u8 0, .int .i64 0, .int .i64 0, .int .i64 0], .string ⟨#[]⟩] 8 rfl (World.shaped_of_RefB (by kernel_rfl) (by kernel_rfl)) (by kernel_rfl) (by kernel_rfl) (by kernel_rfl) (m_met os _)) ?_
  intro W base args ds gs before hval0 hW hL hsh
  have hval : ∀ (j : Nat) t v, Tryz.f8.params[j]? = some t → args[j]? = some v → Value.okWide Tryz.prog W .any base t v := hval0
  have hW' := hW
  obtain ⟨p, q, hA0, hV, rfl, hfz, hnd⟩ := hW
  have hA : DataW.TrodAll enc Tryz.prog W 0 (fun _ => true) true Tryz.f8.params.toList args.toList ds p := hA0
  rw [Tryz.params8] at hA hval
  obtain ⟨v0, v1, d0, d1, p0, p1, rfl, rfl, rfl, h0, h1⟩ := trodAll_two hA
  obtain ⟨rfl, rfl⟩ := trodVars_none hV
  obtain ⟨cs0, rfl, hsz0⟩ := okWide_struct Tryz.underlying29 (hval 0 29 v0 rfl rfl)
  rw [cellsSg] at hsz0
  obtain ⟨l0⟩ := cs0
  obtain ⟨c00, c01, c02, c03, c04, rfl⟩ := five l0 hsz0
  obtain ⟨fu0, hf0⟩ := h0
  obtain ⟨y00, y01, y02, y03, n0, hx0, _, e00, e01, e02, e03⟩ := trod_struct4 Tryz.underlying29 hf0
  simp [Value.cells, cellsKd, cellsLn, cI] at e00 e01 e02 e03
  obtain ⟨z00, z01, m0, hq0, _, g00, g01⟩ := trod_struct2 Tryz.underlying27 e01
  simp [cellsLk, cI] at g00 g01
  obtain ⟨k, qe00, rfl, wk⟩ := DataW.trod_int Tryz.underlying24 e00
  simp at qe00
  subst qe00
  obtain ⟨l, qg00, rfl, wl⟩ := DataW.trod_int Tryz.underlying25 g00
  simp at qg00
  subst qg00
  obtain ⟨c, qg01, rfl, wc⟩ := DataW.trod_int Tryz.underlying3 g01
  simp at qg01
  subst qg01
  obtain ⟨f, qe02, rfl, wf⟩ := DataW.trod_int Tryz.underlying3 e02
  simp at qe02
  subst qe02
  obtain ⟨t, qe03, rfl, wt⟩ := DataW.trod_int Tryz.underlying3 e03
  simp at qe03
  subst qe03
  subst hq0
  simp at hx0
  obtain ⟨rfl, rfl⟩ := hx0
  have r0 : ∀ (W' : World) (sp : Nat → Bool), DataW.Trod enc Tryz.prog W' 0 sp true 29 (.agg #[.int .u8 k, .int .u8 l, .int .i64 c, .int .i64 f, .int .i64 t]) (.agg [.lit (.int .u8 k), .agg [.lit (.int .u8 l), .lit (.int .i64 c)], .lit (.int .i64 f), .lit (.int .i64 t)]) [] := fun W' sp =>
    ⟨3, by simp [DataW.trod, Value.cells, Tryz.underlying29, Tryz.underlying27, Tryz.underlying24, Tryz.underlying25, Tryz.underlying3, cellsSg, cellsLn, cellsKd, cellsLk, cI, wk, wl, wc, wf, wt]⟩
  obtain ⟨s, rfl, rfl, rfl, ws⟩ := Go.ChangeMaps.open_string Tryz.underlying9 (hval 1 9 v1 rfl rfl) h1
  have r1 : ∀ (W' : World) (sp : Nat → Bool), DataW.Trod enc Tryz.prog W' 0 sp true 9 (.string s) (.lit (.string s.data.toList)) [] := fun _ _ => Go.ChangeMaps.shut_string Tryz.underlying9 ws
  have hA7 : All W := all_of_laid hL hsh
  clear hA0 hval0
  simp only [List.append_nil] at hW'
  refine (segtext_law k l c f t s W hA7).mono fun e W' ⟨he, hb⟩ => ?_
  subst he
  have hargs : ∀ (W' : World) (sp : Nat → Bool), DataW.TrodAll enc Tryz.prog W' 0 sp true Tryz.f8.params.toList _ _ _ := fun W' sp => trodAll_mk2 (r0 W' sp) (r1 W' sp)
  exact ⟨_, rfl, _, _, _, [], [], [], hW', trodAll_mk1 (shut_bool Tryz.underlying4 _), hargs _ _, rfl, hb.frame _, fun h => by cases h⟩

theorem segmentsText_holds : Rows.SegmentsTextSaid :=
  OpenClaim.holds_of_wide 8 Tryz.f8 rfl rfl rfl rfl rfl rfl rfl ⟨rfl, rfl, rfl, rfl, rfl⟩ rfl rfl rfl rfl rfl (by kernel_rfl) Tryz.func8 (by kernel_rfl)
    (of_decide_eq_true (by kernel_rfl)) (by unfold Func.isWrapper; first | (rw [if_pos (by decide +kernel)]; kernel_rfl) | (rw [if_neg (by decide +kernel)]; exact ⟨rfl, rfl⟩))
    (fun os started H enc _ => segmentsText_lifted os started H enc)

/-- The tied card. -/
theorem segmentsText_card_holds : Rows.SegmentsTextCardSaid :=
  Claim7.holds_tied_plain_at .later [] [.data, .data, .data, .data, .sentinel, .sentinel, .data, .data, .pinned] true (true, "98be4dc4875ef3fddc14b8580497e57dd8e587a27daabe22c0a4081ead6ef2f7") true
    segmentsText_holds (fun _ h => by cases h) (by kernel_rfl) (fun _ h => by cases h) segmentsText_row_tie rfl ⟨rfl, rfl⟩ (by kernel_rfl) rfl
    (fun f fn hf hfn => by
      obtain rfl : f = 8 := Option.some.inj ((show Tryz.prog.funcNamed "crimp/crimplaw07.SegmentsText" = some 8 by kernel_rfl).symm.trans hf) |>.symm
      obtain rfl : fn = Tryz.f8 := (Option.some.inj (Tryz.func8.symm.trans hfn)).symm
      exact ⟨by kernel_rfl, fun j t ht => by
        rw [Tryz.params8] at ht
        have hm : t ∈ [29, 9] := by simpa using Array.mem_of_getElem? ht
        have hall : ([29, 9].all fun u => !Tryz.prog.wantsStandIn u) = true := by kernel_rfl
        exact (show Tryz.prog.wantsStandIn t = false by simpa using List.all_eq_true.1 hall t hm)⟩)
    (by kernel_rfl)
#print axioms segmentsText_card_holds

end Go.Proofs.YtkmmnlhmfiabfaaGreatDoor
