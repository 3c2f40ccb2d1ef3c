/-
  Says: crimplaw03.CellsWay, called with any short cell and any list of edges, returns true and leaves its arguments as they were, where the three listed package-level tables hold what their initialisers laid (the card ties these to the text).
-/
import Derived.Test.YtgkiliijefkcaaaDoorLwWay
import Derived.Test.YtgkiliijefkcaaaDoorCl0
import Derived.Test.YtgkiliijefkcaaaDoorTie
import Derived.Test.YtgkiliijefkcaaaDoorCards
import Derived.SevenTiedAt
import Derived.Carry
import Derived.OpenShut
import Derived.ProofKit
set_option linter.unusedVariables false
set_option linter.unusedSimpArgs false
namespace Go.Proofs.YtgkiliijefkcaaaDoor
open Go Go.RowKit

open Go.RowKit Go.ChangeShapes Go.WideShapes Go.ChangeAt Go.WideMaps Go.WideElems Go.Joins
theorem cC3 : Tryd.prog.cellsOf 68 = 3 := by kernel_rfl
theorem laidOut : laidOutB Tryd.prog = true := by kernel_rfl
theorem u8_getD (zs : List Int) (h : ∀ n ∈ zs, (Lit.int .u8 n).wf = true) (i : Nat) : 0 ≤ zs.getD i 0 ∧ zs.getD i 0 ≤ 255 := by
  by_cases hi : i < zs.length
  · have e : zs.getD i 0 = zs[i] := by simp [List.getD, hi]
    rw [e]
    have := h _ (List.getElem_mem hi)
    simp [Lit.wf] at this
    have e1 : IntKind.u8.min = 0 := rfl
    have e2 : IntKind.u8.max = 255 := rfl
    omega
  · have e : zs.getD i 0 = 0 := by simp [List.getD, hi]
    rw [e]; omega

set_option maxRecDepth 100000 in
theorem cellsWay_lifted (os : Os) (started : os.Started) (H : Type) (enc : TypeId × Value → H) :
    ReturnsInHanded {} Tryd.checked os 9 .any (fun w args => (Rows.cellsWaySpec.pre enc Tryd.prog Tryd.f9 [] false w args ∧ laidMetH Tryd.prog laidL w) ∧ sizedMet enc Tryd.prog Tryd.f9 (OpenSpec.ofChange Rows.cellsWaySpec) false w args)
      (Rows.cellsWaySpec.post enc Tryd.prog Tryd.f9 false true false false) := by
  refine returnsInHanded_of_change_and (C := Tryd.checked) (X := fun w _ => laidMetH Tryd.prog laidL w) (fun _ _ _ hh h => h.of_heap hh) own started (by kernel_rfl) Tryd.func9
    (ChangeSpec.witness_shaped (enc := enc) (C := Tryd.checked) (os := os) (X := fun w _ => laidMetH Tryd.prog laidL w) false (World.doorLaid Tryd.prog 101 os) #[.agg #[.int .i8 0, .int .i8 0, .int .u8 0], .slice none 0 0] 8 rfl (World.shaped_of_RefB (by kernel_rfl) (by kernel_rfl)) (by kernel_rfl) (by kernel_rfl) (by kernel_rfl) (door_met os _)) ?_
  intro W base args ds gs before hval0 hW _ _ hL _
  have hval : ∀ (j : Nat) t v, Tryd.f9.params[j]? = some t → args[j]? = some v → Value.okWide Tryd.prog W .any base t v := hval0
  have hW' := hW
  obtain ⟨p, q, hA0, hV, rfl, hfz, hnd⟩ := hW
  have hA : DataW.TrodAll enc Tryd.prog W 0 (fun _ => true) true Tryd.f9.params.toList args.toList ds p := hA0
  rw [Tryd.params9] at hA hval
  obtain ⟨v0, v1, d0, d1, p0, p1, rfl, rfl, rfl, h0, h1⟩ := trodAll_two hA
  obtain ⟨rfl, rfl⟩ := trodVars_none hV
  obtain ⟨c0a, c0b, c0c, y0a, y0b, y0c, m0, rfl, rfl, rfl, hy0a, hy0b, hy0c⟩ := open_agg3 Tryd.underlying68 (by kernel_rfl) cC3 (hval 0 68 v0 rfl rfl) h0
  obtain ⟨x, e0a, rfl, wx⟩ := DataW.trod_int Tryd.underlying66 hy0a
  obtain ⟨y, e0b, rfl, wy⟩ := DataW.trod_int Tryd.underlying66 hy0b
  obtain ⟨q, e0c, rfl, wq⟩ := DataW.trod_int Tryd.underlying5 hy0c
  simp at e0a e0b e0c
  subst e0a e0b e0c
  have r0 : ∀ (W' : World) (sp : Nat → Bool), DataW.Trod enc Tryd.prog W' 0 sp true 68 (.agg #[.int .i8 x, .int .i8 y, .int .u8 q]) (.agg [.lit (.int .i8 x), .lit (.int .i8 y), .lit (.int .u8 q)]) [] := fun W' sp =>
    shut_agg3 (y0 := (.lit (.int .i8 x), [])) (y1 := (.lit (.int .i8 y), [])) (y2 := (.lit (.int .u8 q), [])) Tryd.underlying68 (by kernel_rfl) cC3 ⟨1, by simp [DataW.trod, Tryd.underlying66, wx]⟩ ⟨1, by simp [DataW.trod, Tryd.underlying66, wy]⟩ ⟨1, by simp [DataW.trod, Tryd.underlying5, wq]⟩
  obtain ⟨pa, sn, sc, rfl⟩ := okWide_slice Tryd.underlying69 (hval 1 69 v1 rfl rfl)
  have h1k := h1
  obtain ⟨fu1, hf1⟩ := h1
  have hlt1 : ∀ x ∈ p1, x.block < W.heap.size := fun x hx => by simpa using hW'.lt x (by simp [hx])
  have r1 : True := trivial
  have hT : Lay W := lay_of_laid hL
  clear hA0 hval0
  simp only [List.append_nil] at hW'
  have zx : -128 ≤ x ∧ x ≤ 127 := by
    have := wx
    simp [Lit.wf] at this
    have e1 : IntKind.i8.min = -128 := rfl
    have e2 : IntKind.i8.max = 127 := rfl
    omega
  have zy : -128 ≤ y ∧ y ≤ 127 := by
    have := wy
    simp [Lit.wf] at this
    have e1 : IntKind.i8.min = -128 := rfl
    have e2 : IntKind.i8.max = 127 := rfl
    omega
  have zq : 0 ≤ q ∧ q ≤ 255 := by
    have := wq
    simp [Lit.wf] at this
    have e1 : IntKind.u8.min = 0 := rfl
    have e2 : IntKind.u8.max = 255 := rfl
    omega
  obtain ⟨ab, ao, zs, hpa, hcz, hwz⟩ : ∃ (ab ao : Nat) (zs : List Int), (0 < sn → pa = some ⟨ab, ao, none⟩) ∧ (∀ i, i < sn → W.cell? ⟨ab, ao + i, none⟩ = some (.int .u8 (zs.getD i 0))) ∧ (∀ i, 0 ≤ zs.getD i 0 ∧ zs.getD i 0 ≤ 255) := by
    rcases open_ints Tryd.underlying69 Tryd.underlying5 cU8 hf1 with ⟨hcs, hx⟩ | ⟨a, len', cap', zs, hcs, _, hl, hm, hz, hx, hcell, hwz⟩
    · simp [Value.cells] at hcs
      obtain ⟨rfl, rfl, rfl⟩ := hcs
      exact ⟨0, 0, [], fun h => absurd h (by decide), fun i h => absurd h (by omega), fun i => by simp⟩
    · simp [Value.cells] at hcs
      obtain ⟨rfl, rfl, rfl⟩ := hcs
      simp at hz
      by_cases hp : 0 < zs.length
      · obtain ⟨b, off, rfl, hc⟩ := ints_at hcell hp
        exact ⟨b, off, zs, fun _ => rfl, fun i h => hc i (by omega), u8_getD zs hwz⟩
      · exact ⟨0, 0, [], fun h => by omega, fun i h => by omega, fun i => by simp⟩
  refine (cellsway_law x y q pa ab ao sn sc zs W hT zx.1 zx.2 zy.1 zy.2 zq.1 zq.2 hpa hcz hwz).mono fun e W' ⟨he, hb⟩ => ?_
  subst he
  have hargs : DataW.TrodAll enc Tryd.prog W' 0 (fun b => decide (b < W.heap.size)) true Tryd.f9.params.toList _ _ _ := trodAll_mk2 (r0 W' (fun b => decide (b < W.heap.size))) (Below.trod laidOut (by kernel_rfl) (of_decide_eq_true (by kernel_rfl)) h1k hb hlt1)
  exact ⟨_, rfl, _, _, _, [], [] ++ p1, [], hW', trodAll_mk1 (shut_bool Tryd.underlying4 _), hargs, rfl, hb.frame _, fun h => by cases h⟩

theorem cellsWay_holds : Rows.CellsWaySaid :=
  OpenClaim.holds_of_wide 9 Tryd.f9 rfl rfl rfl rfl rfl rfl rfl ⟨rfl, rfl, rfl, rfl, rfl⟩ rfl rfl rfl rfl rfl (by kernel_rfl) Tryd.func9 (by kernel_rfl)
    (of_decide_eq_true (by kernel_rfl)) (by unfold Func.isWrapper; first | (rw [if_pos (by decide +kernel)]; kernel_rfl) | (rw [if_neg (by decide +kernel)]; exact ⟨rfl, rfl⟩))
    (fun os started H enc _ => cellsWay_lifted os started H enc)

/-- The tied card. -/
theorem cellsWay_card_holds : Rows.CellsWayCardSaid :=
  Claim7.holds_tied_plain_at .later [] [.data, .data, .data] true (true, "c9f8e7c321b4b2576f1636ae23aefc4796bd88dcf22a131ab7cdd29d64758792") false
    cellsWay_holds (fun _ h => by cases h) (by kernel_rfl) (fun _ h => by cases h) cellsWay_row_tie rfl ⟨rfl, rfl⟩ (by kernel_rfl) rfl
    (fun f fn hf hfn => by
      obtain rfl : f = 9 := Option.some.inj ((show Tryd.prog.funcNamed "crimp/crimplaw03.CellsWay" = some 9 by kernel_rfl).symm.trans hf) |>.symm
      obtain rfl : fn = Tryd.f9 := (Option.some.inj (Tryd.func9.symm.trans hfn)).symm
      exact ⟨by kernel_rfl, fun j t ht => by
        rw [Tryd.params9] at ht
        have hm : t ∈ [68, 69] := by simpa using Array.mem_of_getElem? ht
        have hall : ([68, 69].all fun u => !Tryd.prog.wantsStandIn u) = true := by kernel_rfl
        exact (show Tryd.prog.wantsStandIn t = false by simpa using List.all_eq_true.1 hall t hm)⟩)
    (by kernel_rfl)
#print axioms cellsWay_card_holds

end Go.Proofs.YtgkiliijefkcaaaDoor
