/-
  Says: crimplaw02.MovesOf, called with any line and any two numbers, returns true and leaves its arguments as they were, where the eight listed package-level variables hold what their initialisers laid (the card ties these to the text).
-/
import Derived.Test.YtbcmfenekpllhaaDoorMlOf
import Derived.Test.YtbcmfenekpllhaaDoorMl0
import Derived.Test.YtbcmfenekpllhaaDoorTie
import Derived.Test.YtbcmfenekpllhaaDoorCards
import Derived.SevenTiedAt
import Derived.Carry
set_option linter.unusedVariables false
set_option linter.unusedSimpArgs false
namespace Go.Proofs.YtbcmfenekpllhaaDoor
open Go Go.RowKit

open Go.ChangeShapes Go.WideShapes Go.ChangeAt Go.WideMaps Go.WideElems Go.Joins

set_option maxRecDepth 100000 in
theorem movesOf_lifted (os : Os) (started : os.Started) (H : Type) (enc : TypeId × Value → H) :
    ReturnsInHanded {} Tryd.checked os 5 .any (fun w args => (Rows.movesOfSpec.pre enc Tryd.prog Tryd.f5 [] false w args ∧ laidMetH Tryd.prog laidM w) ∧ sizedMet enc Tryd.prog Tryd.f5 (OpenSpec.ofChange Rows.movesOfSpec) false w args)
      (Rows.movesOfSpec.post enc Tryd.prog Tryd.f5 false true false false) := by
  refine returns_laid_shaped (C := Tryd.checked) (X := fun w _ => laidMetH Tryd.prog laidM w) (fun _ _ _ hh h => h.of_heap hh) ownM started (by kernel_rfl) Tryd.func5
    (ChangeSpec.witness_shaped (enc := enc) (C := Tryd.checked) (os := os) (X := fun w _ => laidMetH Tryd.prog laidM w) false (mWorld os) #[.agg #[.int .u8 0, .int .i64 0], .int .i8 0, .int .i8 0] 8 rfl (World.shaped_of_RefB (by kernel_rfl) (by kernel_rfl)) (by kernel_rfl) (by kernel_rfl) (by kernel_rfl) (m_met os _)) ?_
  intro W base args ds gs before hval0 hW hL hsh
  have hval : ∀ (j : Nat) t v, Tryd.f5.params[j]? = some t → args[j]? = some v → Value.okWide Tryd.prog W .any base t v := hval0
  have hW' := hW
  obtain ⟨p, q, hA0, hV, rfl, hfz, hnd⟩ := hW
  have hA : DataW.TrodAll enc Tryd.prog W 0 (fun _ => true) true Tryd.f5.params.toList args.toList ds p := hA0
  rw [Tryd.params5] at hA hval
  obtain ⟨v0, v1, v2, d0, d1, d2, p0, p1, p2, rfl, rfl, rfl, h0, h1, h2⟩ := trodAll_three hA
  obtain ⟨rfl, rfl⟩ := trodVars_none hV
  obtain ⟨c0a, c0b, y0a, y0b, m0, rfl, rfl, rfl, hy0a, hy0b⟩ := open_agg2 Tryd.underlying24 (by kernel_rfl) cellsLn (hval 0 24 v0 rfl rfl) h0
  obtain ⟨k, e0a, rfl, wk⟩ := DataW.trod_int Tryd.underlying22 hy0a
  obtain ⟨c, e0b, rfl, wc⟩ := DataW.trod_int Tryd.underlying3 hy0b
  simp at e0a e0b
  subst e0a e0b
  have r0 : ∀ (W' : World) (sp : Nat → Bool), DataW.Trod enc Tryd.prog W' 0 sp true 24 (.agg #[.int .u8 k, .int .i64 c]) (.agg [.lit (.int .u8 k), .lit (.int .i64 c)]) [] := fun W' sp =>
    shut_agg2 (y0 := (.lit (.int .u8 k), [])) (y1 := (.lit (.int .i64 c), [])) Tryd.underlying24 (by kernel_rfl) cellsLn ⟨1, by simp [DataW.trod, Tryd.underlying22, wk]⟩ ⟨1, by simp [DataW.trod, Tryd.underlying3, wc]⟩
  obtain ⟨x, rfl, rfl, rfl, wx⟩ := open_int Tryd.underlying38 (hval 1 38 v1 rfl rfl) h1
  have r1 : ∀ (W' : World) (sp : Nat → Bool), DataW.Trod enc Tryd.prog W' 0 sp true 38 (.int .i8 x) (.lit (.int .i8 x)) [] := fun _ _ => shut_int Tryd.underlying38 wx
  obtain ⟨y, rfl, rfl, rfl, wy⟩ := open_int Tryd.underlying38 (hval 2 38 v2 rfl rfl) h2
  have r2 : ∀ (W' : World) (sp : Nat → Bool), DataW.Trod enc Tryd.prog W' 0 sp true 38 (.int .i8 y) (.lit (.int .i8 y)) [] := fun _ _ => shut_int Tryd.underlying38 wy
  have hS : Std W := std_of_laid hL hsh
  clear hA0 hval0
  simp only [List.append_nil] at hW'
  have i0 : -128 ≤ x ∧ x ≤ 127 := by
    have := wx
    simp [Lit.wf] at this
    have e1 : IntKind.i8.min = -128 := rfl
    have e2 : IntKind.i8.max = 127 := rfl
    omega
  have i1 : -128 ≤ y ∧ y ≤ 127 := by
    have := wy
    simp [Lit.wf] at this
    have e1 : IntKind.i8.min = -128 := rfl
    have e2 : IntKind.i8.max = 127 := rfl
    omega
  refine (movesof_law k c x y W hS i0.1 i0.2 i1.1 i1.2).mono fun e W' ⟨he, hb⟩ => ?_
  subst he
  have hargs : ∀ (W' : World) (sp : Nat → Bool), DataW.TrodAll enc Tryd.prog W' 0 sp true Tryd.f5.params.toList _ _ _ := fun W' sp => trodAll_mk3 (r0 W' sp) (r1 W' sp) (r2 W' sp)
  exact ⟨_, rfl, _, _, _, [], [], [], hW', trodAll_mk1 (shut_bool Tryd.underlying4 _), hargs _ _, rfl, hb.frame _, fun h => by cases h⟩

theorem movesOf_holds : Rows.MovesOfSaid :=
  OpenClaim.holds_of_wide 5 Tryd.f5 rfl rfl rfl rfl rfl rfl rfl ⟨rfl, rfl, rfl, rfl, rfl⟩ rfl rfl rfl rfl rfl (by kernel_rfl) Tryd.func5 (by kernel_rfl)
    (of_decide_eq_true (by kernel_rfl)) (by unfold Func.isWrapper; first | (rw [if_pos (by decide +kernel)]; kernel_rfl) | (rw [if_neg (by decide +kernel)]; exact ⟨rfl, rfl⟩))
    (fun os started H enc _ => movesOf_lifted os started H enc)

/-- The tied card. -/
theorem movesOf_card_holds : Rows.MovesOfCardSaid :=
  Claim7.holds_tied_plain_at .later [] [.data, .data, .data, .data, .sentinel, .sentinel, .data, .pinned] true (true, "27c006ed0c08bad13e82f7267d3d6d03022f553e6789535a3d0afc29313dfe9c") true
    movesOf_holds (fun _ h => by cases h) (by kernel_rfl) (fun _ h => by cases h) movesOf_row_tie rfl ⟨rfl, rfl⟩ (by kernel_rfl) rfl
    (fun f fn hf hfn => by
      obtain rfl : f = 5 := Option.some.inj ((show Tryd.prog.funcNamed "crimp/crimplaw02.MovesOf" = some 5 by kernel_rfl).symm.trans hf) |>.symm
      obtain rfl : fn = Tryd.f5 := (Option.some.inj (Tryd.func5.symm.trans hfn)).symm
      exact ⟨by kernel_rfl, fun j t ht => by
        rw [Tryd.params5] at ht
        have hm : t ∈ [24, 38, 38] := by simpa using Array.mem_of_getElem? ht
        have hall : ([24, 38, 38].all fun u => !Tryd.prog.wantsStandIn u) = true := by kernel_rfl
        exact (show Tryd.prog.wantsStandIn t = false by simpa using List.all_eq_true.1 hall t hm)⟩)
    (by kernel_rfl)
#print axioms movesOf_card_holds

end Go.Proofs.YtbcmfenekpllhaaDoor
