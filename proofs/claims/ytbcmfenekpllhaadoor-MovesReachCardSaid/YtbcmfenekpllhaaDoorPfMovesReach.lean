/-
  Says: crimplaw02.MovesReach, called with any M, returns true and leaves its arguments as they were, where the eight listed package-level variables hold what their initialisers laid (the card ties these to the text).
-/
import Derived.Test.YtbcmfenekpllhaaDoorMlRe
import Derived.Deep.Strs
import Derived.Test.YtbcmfenekpllhaaDoorMl0
import Derived.Test.YtbcmfenekpllhaaDoorTie
import Derived.Test.YtbcmfenekpllhaaDoorCards
import Derived.SevenTiedAt
import Derived.Carry
set_option linter.unusedVariables false
set_option linter.unusedSimpArgs false
namespace Go.Proofs.YtbcmfenekpllhaaDoor
open Go Go.RowKit

open Go.ChangeShapes Go.WideShapes Go.ChangeAt Go.WideMaps Go.WideElems Go.Joins
theorem cellsM : Tryd.prog.cellsOf 71 = 3 := by kernel_rfl
theorem cellsM3 : Tryd.prog.cellsOf 72 = 9 := by kernel_rfl
theorem cellsA : Tryd.prog.cellsOf 46 = 2 := by kernel_rfl
theorem cellsI8 : Tryd.prog.cellsOf 38 = 1 := by kernel_rfl
theorem cellsU8 : Tryd.prog.cellsOf 5 = 1 := by kernel_rfl

set_option maxRecDepth 100000 in
theorem movesReach_lifted (os : Os) (started : os.Started) (H : Type) (enc : TypeId × Value → H) :
    ReturnsInHanded {} Tryd.checked os 10 .any (fun w args => (Rows.movesReachSpec.pre enc Tryd.prog Tryd.f10 [] false w args ∧ laidMetH Tryd.prog laidM w) ∧ sizedMet enc Tryd.prog Tryd.f10 (OpenSpec.ofChange Rows.movesReachSpec) false w args)
      (Rows.movesReachSpec.post enc Tryd.prog Tryd.f10 false true false false) := by
  refine returns_laid_shaped (C := Tryd.checked) (X := fun w _ => laidMetH Tryd.prog laidM w) (fun _ _ _ hh h => h.of_heap hh) ownM started (by kernel_rfl) Tryd.func10
    (ChangeSpec.witness_shaped (enc := enc) (C := Tryd.checked) (os := os) (X := fun w _ => laidMetH Tryd.prog laidM w) false (mWorld os) #[.agg #[.int .u8 0, .int .i8 0, .int .i8 0]] 8 rfl (World.shaped_of_RefB (by kernel_rfl) (by kernel_rfl)) (by kernel_rfl) (by kernel_rfl) (by kernel_rfl) (m_met os _)) ?_
  intro W base args ds gs before hval0 hW hL hsh
  have hval : ∀ (j : Nat) t v, Tryd.f10.params[j]? = some t → args[j]? = some v → Value.okWide Tryd.prog W .any base t v := hval0
  have hW' := hW
  obtain ⟨p, q, hA0, hV, rfl, hfz, hnd⟩ := hW
  have hA : DataW.TrodAll enc Tryd.prog W 0 (fun _ => true) true Tryd.f10.params.toList args.toList ds p := hA0
  rw [Tryd.params10] at hA hval
  obtain ⟨v0, d0, rfl, rfl, h0⟩ := trodAll_one hA
  obtain ⟨rfl, rfl⟩ := trodVars_none hV
  obtain ⟨c0a, c0b, c0c, y0a, y0b, y0c, m0, rfl, rfl, rfl, hy0a, hy0b, hy0c⟩ := open_agg3 Tryd.underlying71 (by kernel_rfl) cellsM (hval 0 71 v0 rfl rfl) h0
  obtain ⟨a, e0a, rfl, wa⟩ := DataW.trod_int Tryd.underlying5 hy0a
  obtain ⟨x, e0b, rfl, wx⟩ := DataW.trod_int Tryd.underlying38 hy0b
  obtain ⟨y, e0c, rfl, wy⟩ := DataW.trod_int Tryd.underlying38 hy0c
  simp at e0a e0b e0c
  subst e0a e0b e0c
  have r0 : ∀ (W' : World) (sp : Nat → Bool), DataW.Trod enc Tryd.prog W' 0 sp true 71 (.agg #[.int .u8 a, .int .i8 x, .int .i8 y]) (.agg [.lit (.int .u8 a), .lit (.int .i8 x), .lit (.int .i8 y)]) [] := fun W' sp =>
    shut_agg3 (y0 := (.lit (.int .u8 a), [])) (y1 := (.lit (.int .i8 x), [])) (y2 := (.lit (.int .i8 y), [])) Tryd.underlying71 (by kernel_rfl) cellsM ⟨1, by simp [DataW.trod, Tryd.underlying5, wa]⟩ ⟨1, by simp [DataW.trod, Tryd.underlying38, wx]⟩ ⟨1, by simp [DataW.trod, Tryd.underlying38, wy]⟩
  have hS : Std W := std_of_laid hL hsh
  clear hA0 hval0
  simp only [List.append_nil] at hW'
  have za : 0 ≤ a ∧ a ≤ 255 := by
    have := wa
    simp [Lit.wf] at this
    have e1 : IntKind.u8.min = 0 := rfl
    have e2 : IntKind.u8.max = 255 := rfl
    omega
  have zx : -128 ≤ x ∧ x ≤ 127 := by
    have := wx
    simp [Lit.wf] at this
    have e1 : IntKind.i8.min = -128 := rfl
    have e2 : IntKind.i8.max = 127 := rfl
    omega
  have zy : -128 ≤ y ∧ y ≤ 127 := by
    have := wy
    simp [Lit.wf] at this
    have e1 : IntKind.i8.min = -128 := rfl
    have e2 : IntKind.i8.max = 127 := rfl
    omega
  refine (reach_law a x y W hS za.1 za.2 zx.1 zx.2 zy.1 zy.2).mono fun e W' ⟨he, hb⟩ => ?_
  subst he
  have hargs : ∀ (W' : World) (sp : Nat → Bool), DataW.TrodAll enc Tryd.prog W' 0 sp true Tryd.f10.params.toList _ _ _ := fun W' sp => trodAll_mk1 (r0 W' sp)
  exact ⟨_, rfl, _, _, _, [], [], [], hW', trodAll_mk1 (shut_bool Tryd.underlying4 _), hargs _ _, rfl, hb.frame _, fun h => by cases h⟩

theorem movesReach_holds : Rows.MovesReachSaid :=
  OpenClaim.holds_of_wide 10 Tryd.f10 rfl rfl rfl rfl rfl rfl rfl ⟨rfl, rfl, rfl, rfl, rfl⟩ rfl rfl rfl rfl rfl (by kernel_rfl) Tryd.func10 (by kernel_rfl)
    (of_decide_eq_true (by kernel_rfl)) (by unfold Func.isWrapper; first | (rw [if_pos (by decide +kernel)]; kernel_rfl) | (rw [if_neg (by decide +kernel)]; exact ⟨rfl, rfl⟩))
    (fun os started H enc _ => movesReach_lifted os started H enc)

/-- The tied card. -/
theorem movesReach_card_holds : Rows.MovesReachCardSaid :=
  Claim7.holds_tied_plain_at .later [] [.data, .data, .data, .data, .sentinel, .sentinel, .data, .pinned] true (true, "27c006ed0c08bad13e82f7267d3d6d03022f553e6789535a3d0afc29313dfe9c") true
    movesReach_holds (fun _ h => by cases h) (by kernel_rfl) (fun _ h => by cases h) movesReach_row_tie rfl ⟨rfl, rfl⟩ (by kernel_rfl) rfl
    (fun f fn hf hfn => by
      obtain rfl : f = 10 := Option.some.inj ((show Tryd.prog.funcNamed "crimp/crimplaw02.MovesReach" = some 10 by kernel_rfl).symm.trans hf) |>.symm
      obtain rfl : fn = Tryd.f10 := (Option.some.inj (Tryd.func10.symm.trans hfn)).symm
      exact ⟨by kernel_rfl, fun j t ht => by
        rw [Tryd.params10] at ht
        have hm : t ∈ [71] := by simpa using Array.mem_of_getElem? ht
        have hall : ([71].all fun u => !Tryd.prog.wantsStandIn u) = true := by kernel_rfl
        exact (show Tryd.prog.wantsStandIn t = false by simpa using List.all_eq_true.1 hall t hm)⟩)
    (by kernel_rfl)
#print axioms movesReach_card_holds

end Go.Proofs.YtbcmfenekpllhaaDoor
