/-
  Says: crimplaw03.CellsMove, called with any move, any cell and any number of an edge, returns true and leaves its arguments as they were, where the three listed package-level tables hold what their initialisers laid (the card ties these to the text).
-/
import Derived.Test.YtgkiliijefkcaaaDoorLwMov
import Derived.Test.YtgkiliijefkcaaaDoorCl0
import Derived.Test.YtgkiliijefkcaaaDoorTie
import Derived.Test.YtgkiliijefkcaaaDoorCards
import Derived.SevenTiedAt
set_option linter.unusedVariables false
set_option linter.unusedSimpArgs false
namespace Go.Proofs.YtgkiliijefkcaaaDoor
open Go Go.RowKit

open Go.ChangeShapes Go.WideShapes Go.ChangeAt Go.WideMaps Go.WideElems Go.Joins

set_option maxRecDepth 100000 in
theorem cellsMove_lifted (os : Os) (started : os.Started) (H : Type) (enc : TypeId × Value → H) :
    ReturnsInHanded {} Tryd.checked os 6 .any (fun w args => (Rows.cellsMoveSpec.pre enc Tryd.prog Tryd.f6 [] false w args ∧ laidMetH Tryd.prog laidL w) ∧ sizedMet enc Tryd.prog Tryd.f6 (OpenSpec.ofChange Rows.cellsMoveSpec) false w args)
      (Rows.cellsMoveSpec.post enc Tryd.prog Tryd.f6 false true false false) := by
  refine returnsInHanded_of_change_and (C := Tryd.checked) (X := fun w _ => laidMetH Tryd.prog laidL w) (fun _ _ _ hh h => h.of_heap hh) own started (by kernel_rfl) Tryd.func6
    (ChangeSpec.witness_shaped (enc := enc) (C := Tryd.checked) (os := os) (X := fun w _ => laidMetH Tryd.prog laidL w) false (World.doorLaid Tryd.prog 101 os) #[.agg #[.int .u8 0, .int .i64 0, .int .i64 0], .agg #[.int .i64 0, .int .i64 0, .int .u8 0], .int .u8 0] 8 rfl (World.shaped_of_RefB (by kernel_rfl) (by kernel_rfl)) (by kernel_rfl) (by kernel_rfl) (by kernel_rfl) (door_met os _)) ?_
  intro W base args ds gs before hval0 hW _ _ hL _
  have hval : ∀ (j : Nat) t v, Tryd.f6.params[j]? = some t → args[j]? = some v → Value.okWide Tryd.prog W .any base t v := hval0
  have hW' := hW
  obtain ⟨p, q, hA0, hV, rfl, hfz, hnd⟩ := hW
  have hA : DataW.TrodAll enc Tryd.prog W 0 (fun _ => true) true Tryd.f6.params.toList args.toList ds p := hA0
  rw [Tryd.params6] at hA hval
  obtain ⟨v0, v1, v2, d0, d1, d2, p0, p1, p2, rfl, rfl, rfl, h0, h1, h2⟩ := trodAll_three hA
  obtain ⟨rfl, rfl⟩ := trodVars_none hV
  obtain ⟨c0a, c0b, c0c, y0a, y0b, y0c, m0, rfl, rfl, rfl, hy0a, hy0b, hy0c⟩ := open_agg3 Tryd.underlying54 (by kernel_rfl) cellsMv (hval 0 54 v0 rfl rfl) h0
  obtain ⟨t, e0a, rfl, wt⟩ := DataW.trod_int Tryd.underlying5 hy0a
  obtain ⟨X, e0b, rfl, wX⟩ := DataW.trod_int Tryd.underlying3 hy0b
  obtain ⟨Y, e0c, rfl, wY⟩ := DataW.trod_int Tryd.underlying3 hy0c
  simp at e0a e0b e0c
  subst e0a e0b e0c
  have r0 : ∀ (W' : World) (sp : Nat → Bool), DataW.Trod enc Tryd.prog W' 0 sp true 54 (.agg #[.int .u8 t, .int .i64 X, .int .i64 Y]) (.agg [.lit (.int .u8 t), .lit (.int .i64 X), .lit (.int .i64 Y)]) [] := fun W' sp =>
    shut_agg3 (y0 := (.lit (.int .u8 t), [])) (y1 := (.lit (.int .i64 X), [])) (y2 := (.lit (.int .i64 Y), [])) Tryd.underlying54 (by kernel_rfl) cellsMv ⟨1, by simp [DataW.trod, Tryd.underlying5, wt]⟩ ⟨1, by simp [DataW.trod, Tryd.underlying3, wX]⟩ ⟨1, by simp [DataW.trod, Tryd.underlying3, wY]⟩
  obtain ⟨c1a, c1b, c1c, y1a, y1b, y1c, m1, rfl, rfl, rfl, hy1a, hy1b, hy1c⟩ := open_agg3 Tryd.underlying23 (by kernel_rfl) cCl (hval 1 23 v1 rfl rfl) h1
  obtain ⟨x, e1a, rfl, wx⟩ := DataW.trod_int Tryd.underlying3 hy1a
  obtain ⟨y, e1b, rfl, wy⟩ := DataW.trod_int Tryd.underlying3 hy1b
  obtain ⟨q, e1c, rfl, wq⟩ := DataW.trod_int Tryd.underlying5 hy1c
  simp at e1a e1b e1c
  subst e1a e1b e1c
  have r1 : ∀ (W' : World) (sp : Nat → Bool), DataW.Trod enc Tryd.prog W' 0 sp true 23 (.agg #[.int .i64 x, .int .i64 y, .int .u8 q]) (.agg [.lit (.int .i64 x), .lit (.int .i64 y), .lit (.int .u8 q)]) [] := fun W' sp =>
    shut_agg3 (y0 := (.lit (.int .i64 x), [])) (y1 := (.lit (.int .i64 y), [])) (y2 := (.lit (.int .u8 q), [])) Tryd.underlying23 (by kernel_rfl) cCl ⟨1, by simp [DataW.trod, Tryd.underlying3, wx]⟩ ⟨1, by simp [DataW.trod, Tryd.underlying3, wy]⟩ ⟨1, by simp [DataW.trod, Tryd.underlying5, wq]⟩
  obtain ⟨e, rfl, rfl, rfl, we⟩ := open_int Tryd.underlying5 (hval 2 5 v2 rfl rfl) h2
  have r2 : ∀ (W' : World) (sp : Nat → Bool), DataW.Trod enc Tryd.prog W' 0 sp true 5 (.int .u8 e) (.lit (.int .u8 e)) [] := fun _ _ => shut_int Tryd.underlying5 we
  have hT : Lay W := lay_of_laid hL
  clear hA0 hval0
  simp only [List.append_nil] at hW'
  have zt : 0 ≤ t ∧ t ≤ 255 := by
    have := wt
    simp [Lit.wf] at this
    have e1 : IntKind.u8.min = 0 := rfl
    have e2 : IntKind.u8.max = 255 := rfl
    omega
  have zq : 0 ≤ q ∧ q ≤ 255 := by
    have := wq
    simp [Lit.wf] at this
    have e1 : IntKind.u8.min = 0 := rfl
    have e2 : IntKind.u8.max = 255 := rfl
    omega
  have ze : 0 ≤ e ∧ e ≤ 255 := by
    have := we
    simp [Lit.wf] at this
    have e1 : IntKind.u8.min = 0 := rfl
    have e2 : IntKind.u8.max = 255 := rfl
    omega
  refine (cellsmove_law t X Y x y q e W hT zt.1 zq.1 ze.1 ze.2).mono fun e W' ⟨he, hb⟩ => ?_
  subst he
  have hargs : ∀ (W' : World) (sp : Nat → Bool), DataW.TrodAll enc Tryd.prog W' 0 sp true Tryd.f6.params.toList _ _ _ := fun W' sp => trodAll_mk3 (r0 W' sp) (r1 W' sp) (r2 W' sp)
  exact ⟨_, rfl, _, _, _, [], [], [], hW', trodAll_mk1 (shut_bool Tryd.underlying4 _), hargs _ _, rfl, hb.frame _, fun h => by cases h⟩

theorem cellsMove_holds : Rows.CellsMoveSaid :=
  OpenClaim.holds_of_wide 6 Tryd.f6 rfl rfl rfl rfl rfl rfl rfl ⟨rfl, rfl, rfl, rfl, rfl⟩ rfl rfl rfl rfl rfl (by kernel_rfl) Tryd.func6 (by kernel_rfl)
    (of_decide_eq_true (by kernel_rfl)) (by unfold Func.isWrapper; first | (rw [if_pos (by decide +kernel)]; kernel_rfl) | (rw [if_neg (by decide +kernel)]; exact ⟨rfl, rfl⟩))
    (fun os started H enc _ => cellsMove_lifted os started H enc)

/-- The tied card. -/
theorem cellsMove_card_holds : Rows.CellsMoveCardSaid :=
  Claim7.holds_tied_plain_at .later [] [.data, .data, .data] true (true, "c9f8e7c321b4b2576f1636ae23aefc4796bd88dcf22a131ab7cdd29d64758792") false
    cellsMove_holds (fun _ h => by cases h) (by kernel_rfl) (fun _ h => by cases h) cellsMove_row_tie rfl ⟨rfl, rfl⟩ (by kernel_rfl) rfl
    (fun f fn hf hfn => by
      obtain rfl : f = 6 := Option.some.inj ((show Tryd.prog.funcNamed "crimp/crimplaw03.CellsMove" = some 6 by kernel_rfl).symm.trans hf) |>.symm
      obtain rfl : fn = Tryd.f6 := (Option.some.inj (Tryd.func6.symm.trans hfn)).symm
      exact ⟨by kernel_rfl, fun j t ht => by
        rw [Tryd.params6] at ht
        have hm : t ∈ [54, 23, 5] := by simpa using Array.mem_of_getElem? ht
        have hall : ([54, 23, 5].all fun u => !Tryd.prog.wantsStandIn u) = true := by kernel_rfl
        exact (show Tryd.prog.wantsStandIn t = false by simpa using List.all_eq_true.1 hall t hm)⟩)
    (by kernel_rfl)
#print axioms cellsMove_card_holds

end Go.Proofs.YtgkiliijefkcaaaDoor
