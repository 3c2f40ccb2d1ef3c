/-
  Says: crimplaw03.CellsSide, called with any line and any cell, returns true and leaves its arguments as they were, where the three listed package-level tables hold what their initialisers laid (the card ties these to the text).
-/
import Derived.Test.YtgkiliijefkcaaaDoorLwSid
import Derived.Test.YtgkiliijefkcaaaDoorCl0
import Derived.Test.YtgkiliijefkcaaaDoorTie
import Derived.Test.YtgkiliijefkcaaaDoorCards
import Derived.SevenTiedAt
set_option linter.unusedVariables false
set_option linter.unusedSimpArgs false
namespace Go.Proofs.YtgkiliijefkcaaaDoor
open Go Go.RowKit

open Go.ChangeShapes Go.WideShapes Go.ChangeAt Go.WideMaps Go.WideElems Go.Joins

set_option maxRecDepth 100000 in
theorem cellsSide_lifted (os : Os) (started : os.Started) (H : Type) (enc : TypeId × Value → H) :
    ReturnsInHanded {} Tryd.checked os 5 .any (fun w args => (Rows.cellsSideSpec.pre enc Tryd.prog Tryd.f5 [] false w args ∧ laidMetH Tryd.prog laidL w) ∧ sizedMet enc Tryd.prog Tryd.f5 (OpenSpec.ofChange Rows.cellsSideSpec) false w args)
      (Rows.cellsSideSpec.post enc Tryd.prog Tryd.f5 false true false false) := by
  refine returnsInHanded_of_change_and (C := Tryd.checked) (X := fun w _ => laidMetH Tryd.prog laidL w) (fun _ _ _ hh h => h.of_heap hh) own started (by kernel_rfl) Tryd.func5
    (ChangeSpec.witness_shaped (enc := enc) (C := Tryd.checked) (os := os) (X := fun w _ => laidMetH Tryd.prog laidL w) false (World.doorLaid Tryd.prog 101 os) #[.agg #[.int .u8 0, .int .i64 0], .agg #[.int .i64 0, .int .i64 0, .int .u8 0]] 8 rfl (World.shaped_of_RefB (by kernel_rfl) (by kernel_rfl)) (by kernel_rfl) (by kernel_rfl) (by kernel_rfl) (door_met os _)) ?_
  intro W base args ds gs before hval0 hW _ _ hL _
  have hval : ∀ (j : Nat) t v, Tryd.f5.params[j]? = some t → args[j]? = some v → Value.okWide Tryd.prog W .any base t v := hval0
  have hW' := hW
  obtain ⟨p, q, hA0, hV, rfl, hfz, hnd⟩ := hW
  have hA : DataW.TrodAll enc Tryd.prog W 0 (fun _ => true) true Tryd.f5.params.toList args.toList ds p := hA0
  rw [Tryd.params5] at hA hval
  obtain ⟨v0, v1, d0, d1, p0, p1, rfl, rfl, rfl, h0, h1⟩ := trodAll_two hA
  obtain ⟨rfl, rfl⟩ := trodVars_none hV
  obtain ⟨c0a, c0b, y0a, y0b, m0, rfl, rfl, rfl, hy0a, hy0b⟩ := open_agg2 Tryd.underlying26 (by kernel_rfl) cells24 (hval 0 26 v0 rfl rfl) h0
  obtain ⟨k, e0a, rfl, wk⟩ := DataW.trod_int Tryd.underlying24 hy0a
  obtain ⟨c, e0b, rfl, wc⟩ := DataW.trod_int Tryd.underlying3 hy0b
  simp at e0a e0b
  subst e0a e0b
  have r0 : ∀ (W' : World) (sp : Nat → Bool), DataW.Trod enc Tryd.prog W' 0 sp true 26 (.agg #[.int .u8 k, .int .i64 c]) (.agg [.lit (.int .u8 k), .lit (.int .i64 c)]) [] := fun W' sp =>
    shut_agg2 (y0 := (.lit (.int .u8 k), [])) (y1 := (.lit (.int .i64 c), [])) Tryd.underlying26 (by kernel_rfl) cells24 ⟨1, by simp [DataW.trod, Tryd.underlying24, wk]⟩ ⟨1, by simp [DataW.trod, Tryd.underlying3, wc]⟩
  obtain ⟨c1a, c1b, c1c, y1a, y1b, y1c, m1, rfl, rfl, rfl, hy1a, hy1b, hy1c⟩ := open_agg3 Tryd.underlying23 (by kernel_rfl) cCl (hval 1 23 v1 rfl rfl) h1
  obtain ⟨x, e1a, rfl, wx⟩ := DataW.trod_int Tryd.underlying3 hy1a
  obtain ⟨y, e1b, rfl, wy⟩ := DataW.trod_int Tryd.underlying3 hy1b
  obtain ⟨q, e1c, rfl, wq⟩ := DataW.trod_int Tryd.underlying5 hy1c
  simp at e1a e1b e1c
  subst e1a e1b e1c
  have r1 : ∀ (W' : World) (sp : Nat → Bool), DataW.Trod enc Tryd.prog W' 0 sp true 23 (.agg #[.int .i64 x, .int .i64 y, .int .u8 q]) (.agg [.lit (.int .i64 x), .lit (.int .i64 y), .lit (.int .u8 q)]) [] := fun W' sp =>
    shut_agg3 (y0 := (.lit (.int .i64 x), [])) (y1 := (.lit (.int .i64 y), [])) (y2 := (.lit (.int .u8 q), [])) Tryd.underlying23 (by kernel_rfl) cCl ⟨1, by simp [DataW.trod, Tryd.underlying3, wx]⟩ ⟨1, by simp [DataW.trod, Tryd.underlying3, wy]⟩ ⟨1, by simp [DataW.trod, Tryd.underlying5, wq]⟩
  have hT : Lay W := lay_of_laid hL
  clear hA0 hval0
  simp only [List.append_nil] at hW'
  have zq : 0 ≤ q ∧ q ≤ 255 := by
    have := wq
    simp [Lit.wf] at this
    have e1 : IntKind.u8.min = 0 := rfl
    have e2 : IntKind.u8.max = 255 := rfl
    omega
  refine (cellsside_law k c x y q W hT zq.1).mono fun e W' ⟨he, hb⟩ => ?_
  subst he
  have hargs : ∀ (W' : World) (sp : Nat → Bool), DataW.TrodAll enc Tryd.prog W' 0 sp true Tryd.f5.params.toList _ _ _ := fun W' sp => trodAll_mk2 (r0 W' sp) (r1 W' sp)
  exact ⟨_, rfl, _, _, _, [], [], [], hW', trodAll_mk1 (shut_bool Tryd.underlying4 _), hargs _ _, rfl, hb.frame _, fun h => by cases h⟩

theorem cellsSide_holds : Rows.CellsSideSaid :=
  OpenClaim.holds_of_wide 5 Tryd.f5 rfl rfl rfl rfl rfl rfl rfl ⟨rfl, rfl, rfl, rfl, rfl⟩ rfl rfl rfl rfl rfl (by kernel_rfl) Tryd.func5 (by kernel_rfl)
    (of_decide_eq_true (by kernel_rfl)) (by unfold Func.isWrapper; first | (rw [if_pos (by decide +kernel)]; kernel_rfl) | (rw [if_neg (by decide +kernel)]; exact ⟨rfl, rfl⟩))
    (fun os started H enc _ => cellsSide_lifted os started H enc)

/-- The tied card. -/
theorem cellsSide_card_holds : Rows.CellsSideCardSaid :=
  Claim7.holds_tied_plain_at .later [] [.data, .data, .data] true (true, "c9f8e7c321b4b2576f1636ae23aefc4796bd88dcf22a131ab7cdd29d64758792") false
    cellsSide_holds (fun _ h => by cases h) (by kernel_rfl) (fun _ h => by cases h) cellsSide_row_tie rfl ⟨rfl, rfl⟩ (by kernel_rfl) rfl
    (fun f fn hf hfn => by
      obtain rfl : f = 5 := Option.some.inj ((show Tryd.prog.funcNamed "crimp/crimplaw03.CellsSide" = some 5 by kernel_rfl).symm.trans hf) |>.symm
      obtain rfl : fn = Tryd.f5 := (Option.some.inj (Tryd.func5.symm.trans hfn)).symm
      exact ⟨by kernel_rfl, fun j t ht => by
        rw [Tryd.params5] at ht
        have hm : t ∈ [26, 23] := by simpa using Array.mem_of_getElem? ht
        have hall : ([26, 23].all fun u => !Tryd.prog.wantsStandIn u) = true := by kernel_rfl
        exact (show Tryd.prog.wantsStandIn t = false by simpa using List.all_eq_true.1 hall t hm)⟩)
    (by kernel_rfl)
#print axioms cellsSide_card_holds

end Go.Proofs.YtgkiliijefkcaaaDoor
