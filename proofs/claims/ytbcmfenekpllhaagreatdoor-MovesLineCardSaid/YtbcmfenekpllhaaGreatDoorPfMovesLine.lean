/-
  Says: crimplaw02.MovesLine, called with any move and any line, returns true and leaves its arguments as they were, where the eight listed package-level variables hold what their initialisers laid (the card ties these to the text).
-/
import Derived.Test.YtbcmfenekpllhaaGreatDoorMlLn
import Derived.Test.YtbcmfenekpllhaaGreatDoorMl0
import Derived.Test.YtbcmfenekpllhaaGreatDoorTie
import Derived.Test.YtbcmfenekpllhaaGreatDoorCards
import Derived.SevenTiedAt
import Derived.Carry
set_option linter.unusedVariables false
set_option linter.unusedSimpArgs false
namespace Go.Proofs.YtbcmfenekpllhaaGreatDoor
open Go Go.RowKit

open Go.ChangeShapes Go.WideShapes Go.ChangeAt Go.WideMaps Go.WideElems Go.Joins

set_option maxRecDepth 100000 in
theorem movesLine_lifted (os : Os) (started : os.Started) (H : Type) (enc : TypeId × Value → H) :
    ReturnsInHanded {} Tryz.checked os 3 .any (fun w args => (Rows.movesLineSpec.pre enc Tryz.prog Tryz.f3 [] false w args ∧ laidMetH Tryz.prog laidM w) ∧ sizedMet enc Tryz.prog Tryz.f3 (OpenSpec.ofChange Rows.movesLineSpec) false w args)
      (Rows.movesLineSpec.post enc Tryz.prog Tryz.f3 false true false false) := by
  refine returns_laid_shaped (C := Tryz.checked) (X := fun w _ => laidMetH Tryz.prog laidM w) (fun _ _ _ hh h => h.of_heap hh) ownM started (by kernel_rfl) Tryz.func3
    (ChangeSpec.witness_shaped (enc := enc) (C := Tryz.checked) (os := os) (X := fun w _ => laidMetH Tryz.prog laidM w) false (mWorld os) #[.agg #[.int .u8 0, .int .i64 0, .int .i64 0], .agg #[.int .u8 0, .int .i64 0]] 8 rfl (World.shaped_of_RefB (by kernel_rfl) (by kernel_rfl)) (by kernel_rfl) (by kernel_rfl) (by kernel_rfl) (m_met os _)) ?_
  intro W base args ds gs before hval0 hW hL hsh
  have hval : ∀ (j : Nat) t v, Tryz.f3.params[j]? = some t → args[j]? = some v → Value.okWide Tryz.prog W .any base t v := hval0
  have hW' := hW
  obtain ⟨p, q, hA0, hV, rfl, hfz, hnd⟩ := hW
  have hA : DataW.TrodAll enc Tryz.prog W 0 (fun _ => true) true Tryz.f3.params.toList args.toList ds p := hA0
  rw [Tryz.params3] at hA hval
  obtain ⟨v0, v1, d0, d1, p0, p1, rfl, rfl, rfl, h0, h1⟩ := trodAll_two hA
  obtain ⟨rfl, rfl⟩ := trodVars_none hV
  obtain ⟨c0a, c0b, c0c, y0a, y0b, y0c, m0, rfl, rfl, rfl, hy0a, hy0b, hy0c⟩ := open_agg3 Tryz.underlying23 (by kernel_rfl) cellsMv (hval 0 23 v0 rfl rfl) h0
  obtain ⟨t, e0a, rfl, wt⟩ := DataW.trod_int Tryz.underlying5 hy0a
  obtain ⟨X, e0b, rfl, wX⟩ := DataW.trod_int Tryz.underlying3 hy0b
  obtain ⟨Y, e0c, rfl, wY⟩ := DataW.trod_int Tryz.underlying3 hy0c
  simp at e0a e0b e0c
  subst e0a e0b e0c
  have r0 : ∀ (W' : World) (sp : Nat → Bool), DataW.Trod enc Tryz.prog W' 0 sp true 23 (.agg #[.int .u8 t, .int .i64 X, .int .i64 Y]) (.agg [.lit (.int .u8 t), .lit (.int .i64 X), .lit (.int .i64 Y)]) [] := fun W' sp =>
    shut_agg3 (y0 := (.lit (.int .u8 t), [])) (y1 := (.lit (.int .i64 X), [])) (y2 := (.lit (.int .i64 Y), [])) Tryz.underlying23 (by kernel_rfl) cellsMv ⟨1, by simp [DataW.trod, Tryz.underlying5, wt]⟩ ⟨1, by simp [DataW.trod, Tryz.underlying3, wX]⟩ ⟨1, by simp [DataW.trod, Tryz.underlying3, wY]⟩
  obtain ⟨c1a, c1b, y1a, y1b, m1, rfl, rfl, rfl, hy1a, hy1b⟩ := open_agg2 Tryz.underlying26 (by kernel_rfl) cellsLn (hval 1 26 v1 rfl rfl) h1
  obtain ⟨k, e1a, rfl, wk⟩ := DataW.trod_int Tryz.underlying24 hy1a
  obtain ⟨c, e1b, rfl, wc⟩ := DataW.trod_int Tryz.underlying3 hy1b
  simp at e1a e1b
  subst e1a e1b
  have r1 : ∀ (W' : World) (sp : Nat → Bool), DataW.Trod enc Tryz.prog W' 0 sp true 26 (.agg #[.int .u8 k, .int .i64 c]) (.agg [.lit (.int .u8 k), .lit (.int .i64 c)]) [] := fun W' sp =>
    shut_agg2 (y0 := (.lit (.int .u8 k), [])) (y1 := (.lit (.int .i64 c), [])) Tryz.underlying26 (by kernel_rfl) cellsLn ⟨1, by simp [DataW.trod, Tryz.underlying24, wk]⟩ ⟨1, by simp [DataW.trod, Tryz.underlying3, wc]⟩
  have hS : Std W := std_of_laid hL hsh
  clear hA0 hval0
  simp only [List.append_nil] at hW'
  have z0 : 0 ≤ t := by
    have := wt
    simp [Lit.wf] at this
    have e1 : IntKind.u8.min = 0 := rfl
    omega
  refine (movesline_law t X Y k c W hS z0).mono fun e W' ⟨he, hb⟩ => ?_
  subst he
  have hargs : ∀ (W' : World) (sp : Nat → Bool), DataW.TrodAll enc Tryz.prog W' 0 sp true Tryz.f3.params.toList _ _ _ := fun W' sp => trodAll_mk2 (r0 W' sp) (r1 W' sp)
  exact ⟨_, rfl, _, _, _, [], [], [], hW', trodAll_mk1 (shut_bool Tryz.underlying4 _), hargs _ _, rfl, hb.frame _, fun h => by cases h⟩

theorem movesLine_holds : Rows.MovesLineSaid :=
  OpenClaim.holds_of_wide 3 Tryz.f3 rfl rfl rfl rfl rfl rfl rfl ⟨rfl, rfl, rfl, rfl, rfl⟩ rfl rfl rfl rfl rfl (by kernel_rfl) Tryz.func3 (by kernel_rfl)
    (of_decide_eq_true (by kernel_rfl)) (by unfold Func.isWrapper; first | (rw [if_pos (by decide +kernel)]; kernel_rfl) | (rw [if_neg (by decide +kernel)]; exact ⟨rfl, rfl⟩))
    (fun os started H enc _ => movesLine_lifted os started H enc)

/-- The tied card. -/
theorem movesLine_card_holds : Rows.MovesLineCardSaid :=
  Claim7.holds_tied_plain_at .later [] [.data, .data, .data, .data, .sentinel, .sentinel, .data, .pinned] true (true, "ffd95f7cc7ee549c6b18c8c6edf1b8b3e1b6d18aeebe4c2f35dc71eed202e0da") true
    movesLine_holds (fun _ h => by cases h) (by kernel_rfl) (fun _ h => by cases h) movesLine_row_tie rfl ⟨rfl, rfl⟩ (by kernel_rfl) rfl
    (fun f fn hf hfn => by
      obtain rfl : f = 3 := Option.some.inj ((show Tryz.prog.funcNamed "crimp/crimplaw02.MovesLine" = some 3 by kernel_rfl).symm.trans hf) |>.symm
      obtain rfl : fn = Tryz.f3 := (Option.some.inj (Tryz.func3.symm.trans hfn)).symm
      exact ⟨by kernel_rfl, fun j t ht => by
        rw [Tryz.params3] at ht
        have hm : t ∈ [23, 26] := by simpa using Array.mem_of_getElem? ht
        have hall : ([23, 26].all fun u => !Tryz.prog.wantsStandIn u) = true := by kernel_rfl
        exact (show Tryz.prog.wantsStandIn t = false by simpa using List.all_eq_true.1 hall t hm)⟩)
    (by kernel_rfl)
#print axioms movesLine_card_holds

end Go.Proofs.YtbcmfenekpllhaaGreatDoor
