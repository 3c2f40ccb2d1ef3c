/-
  Says: crimplaw03.CellsNeighbour, called with any cell, any edge and any other cell, returns true and leaves its arguments as they were, where the three listed package-level tables hold what their initialisers laid (the card ties these to the text).
-/
import Derived.Test.YtgkiliijefkcaaaDoorLwNei
import Derived.Test.YtgkiliijefkcaaaDoorCl0
import Derived.Test.YtgkiliijefkcaaaDoorTie
import Derived.Test.YtgkiliijefkcaaaDoorCards
import Derived.SevenTiedAt
set_option linter.unusedVariables false
set_option linter.unusedSimpArgs false
namespace Go.Proofs.YtgkiliijefkcaaaDoor
open Go Go.RowKit

open Go.ChangeShapes Go.WideShapes Go.ChangeAt Go.WideMaps Go.WideElems Go.Joins

set_option maxRecDepth 100000 in
theorem cellsNeighbour_lifted (os : Os) (started : os.Started) (H : Type) (enc : TypeId × Value → H) :
    ReturnsInHanded {} Tryd.checked os 4 .any (fun w args => (Rows.cellsNeighbourSpec.pre enc Tryd.prog Tryd.f4 [] false w args ∧ laidMetH Tryd.prog laidL w) ∧ sizedMet enc Tryd.prog Tryd.f4 (OpenSpec.ofChange Rows.cellsNeighbourSpec) false w args)
      (Rows.cellsNeighbourSpec.post enc Tryd.prog Tryd.f4 false true false false) := by
  refine returnsInHanded_of_change_and (C := Tryd.checked) (X := fun w _ => laidMetH Tryd.prog laidL w) (fun _ _ _ hh h => h.of_heap hh) own started (by kernel_rfl) Tryd.func4
    (ChangeSpec.witness_shaped (enc := enc) (C := Tryd.checked) (os := os) (X := fun w _ => laidMetH Tryd.prog laidL w) false (World.doorLaid Tryd.prog 101 os) #[.agg #[.int .i64 0, .int .i64 0, .int .u8 0], .int .u8 0, .agg #[.int .i64 0, .int .i64 0, .int .u8 0]] 8 rfl (World.shaped_of_RefB (by kernel_rfl) (by kernel_rfl)) (by kernel_rfl) (by kernel_rfl) (by kernel_rfl) (door_met os _)) ?_
  intro W base args ds gs before hval0 hW _ _ hL _
  have hval : ∀ (j : Nat) t v, Tryd.f4.params[j]? = some t → args[j]? = some v → Value.okWide Tryd.prog W .any base t v := hval0
  have hW' := hW
  obtain ⟨p, q, hA0, hV, rfl, hfz, hnd⟩ := hW
  have hA : DataW.TrodAll enc Tryd.prog W 0 (fun _ => true) true Tryd.f4.params.toList args.toList ds p := hA0
  rw [Tryd.params4] at hA hval
  obtain ⟨v0, v1, v2, d0, d1, d2, p0, p1, p2, rfl, rfl, rfl, h0, h1, h2⟩ := trodAll_three hA
  obtain ⟨rfl, rfl⟩ := trodVars_none hV
  obtain ⟨c0a, c0b, c0c, y0a, y0b, y0c, m0, rfl, rfl, rfl, hy0a, hy0b, hy0c⟩ := open_agg3 Tryd.underlying23 (by kernel_rfl) cCl (hval 0 23 v0 rfl rfl) h0
  obtain ⟨x, e0a, rfl, wx⟩ := DataW.trod_int Tryd.underlying3 hy0a
  obtain ⟨y, e0b, rfl, wy⟩ := DataW.trod_int Tryd.underlying3 hy0b
  obtain ⟨q, e0c, rfl, wq⟩ := DataW.trod_int Tryd.underlying5 hy0c
  simp at e0a e0b e0c
  subst e0a e0b e0c
  have r0 : ∀ (W' : World) (sp : Nat → Bool), DataW.Trod enc Tryd.prog W' 0 sp true 23 (.agg #[.int .i64 x, .int .i64 y, .int .u8 q]) (.agg [.lit (.int .i64 x), .lit (.int .i64 y), .lit (.int .u8 q)]) [] := fun W' sp =>
    shut_agg3 (y0 := (.lit (.int .i64 x), [])) (y1 := (.lit (.int .i64 y), [])) (y2 := (.lit (.int .u8 q), [])) Tryd.underlying23 (by kernel_rfl) cCl ⟨1, by simp [DataW.trod, Tryd.underlying3, wx]⟩ ⟨1, by simp [DataW.trod, Tryd.underlying3, wy]⟩ ⟨1, by simp [DataW.trod, Tryd.underlying5, wq]⟩
  obtain ⟨e, rfl, rfl, rfl, we⟩ := open_int Tryd.underlying5 (hval 1 5 v1 rfl rfl) h1
  have r1 : ∀ (W' : World) (sp : Nat → Bool), DataW.Trod enc Tryd.prog W' 0 sp true 5 (.int .u8 e) (.lit (.int .u8 e)) [] := fun _ _ => shut_int Tryd.underlying5 we
  obtain ⟨c2a, c2b, c2c, y2a, y2b, y2c, m2, rfl, rfl, rfl, hy2a, hy2b, hy2c⟩ := open_agg3 Tryd.underlying23 (by kernel_rfl) cCl (hval 2 23 v2 rfl rfl) h2
  obtain ⟨l, e2a, rfl, wl⟩ := DataW.trod_int Tryd.underlying3 hy2a
  obtain ⟨m, e2b, rfl, wm⟩ := DataW.trod_int Tryd.underlying3 hy2b
  obtain ⟨n, e2c, rfl, wn⟩ := DataW.trod_int Tryd.underlying5 hy2c
  simp at e2a e2b e2c
  subst e2a e2b e2c
  have r2 : ∀ (W' : World) (sp : Nat → Bool), DataW.Trod enc Tryd.prog W' 0 sp true 23 (.agg #[.int .i64 l, .int .i64 m, .int .u8 n]) (.agg [.lit (.int .i64 l), .lit (.int .i64 m), .lit (.int .u8 n)]) [] := fun W' sp =>
    shut_agg3 (y0 := (.lit (.int .i64 l), [])) (y1 := (.lit (.int .i64 m), [])) (y2 := (.lit (.int .u8 n), [])) Tryd.underlying23 (by kernel_rfl) cCl ⟨1, by simp [DataW.trod, Tryd.underlying3, wl]⟩ ⟨1, by simp [DataW.trod, Tryd.underlying3, wm]⟩ ⟨1, by simp [DataW.trod, Tryd.underlying5, wn]⟩
  have hT : Lay W := lay_of_laid hL
  clear hA0 hval0
  simp only [List.append_nil] at hW'
  have zq : 0 ≤ q ∧ q ≤ 255 := by
    have := wq
    simp [Lit.wf] at this
    have e1 : IntKind.u8.min = 0 := rfl
    have e2 : IntKind.u8.max = 255 := rfl
    omega
  have ze : 0 ≤ e ∧ e ≤ 255 := by
    have := we
    simp [Lit.wf] at this
    have e1 : IntKind.u8.min = 0 := rfl
    have e2 : IntKind.u8.max = 255 := rfl
    omega
  have zn : 0 ≤ n ∧ n ≤ 255 := by
    have := wn
    simp [Lit.wf] at this
    have e1 : IntKind.u8.min = 0 := rfl
    have e2 : IntKind.u8.max = 255 := rfl
    omega
  refine (cellsneighbour_law x y q e l m n W hT zq.1 ze.1 zn.1).mono fun e W' ⟨he, hb⟩ => ?_
  subst he
  have hargs : ∀ (W' : World) (sp : Nat → Bool), DataW.TrodAll enc Tryd.prog W' 0 sp true Tryd.f4.params.toList _ _ _ := fun W' sp => trodAll_mk3 (r0 W' sp) (r1 W' sp) (r2 W' sp)
  exact ⟨_, rfl, _, _, _, [], [], [], hW', trodAll_mk1 (shut_bool Tryd.underlying4 _), hargs _ _, rfl, hb.frame _, fun h => by cases h⟩

theorem cellsNeighbour_holds : Rows.CellsNeighbourSaid :=
  OpenClaim.holds_of_wide 4 Tryd.f4 rfl rfl rfl rfl rfl rfl rfl ⟨rfl, rfl, rfl, rfl, rfl⟩ rfl rfl rfl rfl rfl (by kernel_rfl) Tryd.func4 (by kernel_rfl)
    (of_decide_eq_true (by kernel_rfl)) (by unfold Func.isWrapper; first | (rw [if_pos (by decide +kernel)]; kernel_rfl) | (rw [if_neg (by decide +kernel)]; exact ⟨rfl, rfl⟩))
    (fun os started H enc _ => cellsNeighbour_lifted os started H enc)

/-- The tied card. -/
theorem cellsNeighbour_card_holds : Rows.CellsNeighbourCardSaid :=
  Claim7.holds_tied_plain_at .later [] [.data, .data, .data] true (true, "c9f8e7c321b4b2576f1636ae23aefc4796bd88dcf22a131ab7cdd29d64758792") false
    cellsNeighbour_holds (fun _ h => by cases h) (by kernel_rfl) (fun _ h => by cases h) cellsNeighbour_row_tie rfl ⟨rfl, rfl⟩ (by kernel_rfl) rfl
    (fun f fn hf hfn => by
      obtain rfl : f = 4 := Option.some.inj ((show Tryd.prog.funcNamed "crimp/crimplaw03.CellsNeighbour" = some 4 by kernel_rfl).symm.trans hf) |>.symm
      obtain rfl : fn = Tryd.f4 := (Option.some.inj (Tryd.func4.symm.trans hfn)).symm
      exact ⟨by kernel_rfl, fun j t ht => by
        rw [Tryd.params4] at ht
        have hm : t ∈ [23, 5, 23] := by simpa using Array.mem_of_getElem? ht
        have hall : ([23, 5, 23].all fun u => !Tryd.prog.wantsStandIn u) = true := by kernel_rfl
        exact (show Tryd.prog.wantsStandIn t = false by simpa using List.all_eq_true.1 hall t hm)⟩)
    (by kernel_rfl)
#print axioms cellsNeighbour_card_holds

end Go.Proofs.YtgkiliijefkcaaaDoor
