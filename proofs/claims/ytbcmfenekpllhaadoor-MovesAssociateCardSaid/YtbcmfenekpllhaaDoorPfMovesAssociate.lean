/-
  Says: crimplaw02.MovesAssociate, called with any three M and any two numbers, returns true and leaves its arguments as they were, where the eight listed package-level variables hold what their initialisers laid (the card ties these to the text).
-/
import Derived.Test.YtbcmfenekpllhaaDoorMlAs
import Derived.Deep.Strs
import Derived.Test.YtbcmfenekpllhaaDoorMl0
import Derived.Test.YtbcmfenekpllhaaDoorTie
import Derived.Test.YtbcmfenekpllhaaDoorCards
import Derived.SevenTiedAt
import Derived.Carry
set_option linter.unusedVariables false
set_option linter.unusedSimpArgs false
namespace Go.Proofs.YtbcmfenekpllhaaDoor
open Go Go.RowKit

open Go.ChangeShapes Go.WideShapes Go.ChangeAt Go.WideMaps Go.WideElems Go.Joins
theorem cellsM : Tryd.prog.cellsOf 71 = 3 := by kernel_rfl
theorem cellsM3 : Tryd.prog.cellsOf 72 = 9 := by kernel_rfl
theorem cellsA : Tryd.prog.cellsOf 46 = 2 := by kernel_rfl
theorem cellsI8 : Tryd.prog.cellsOf 38 = 1 := by kernel_rfl
theorem cellsU8 : Tryd.prog.cellsOf 5 = 1 := by kernel_rfl
theorem two {α : Type _} (l : List α) (h : l.length = 2) : ∃ a b, l = [a, b] := by
  match l, h with
  | [a, b], _ => exact ⟨a, b, rfl⟩
theorem three {α : Type _} (l : List α) (h : l.length = 3) : ∃ a b c, l = [a, b, c] := by
  match l, h with
  | [a, b, c], _ => exact ⟨a, b, c, rfl⟩
theorem nine {α : Type _} (l : List α) (h : l.length = 9) : ∃ a b c d e f g i j, l = [a, b, c, d, e, f, g, i, j] := by
  match l, h with
  | [a, b, c, d, e, f, g, i, j], _ => exact ⟨a, b, c, d, e, f, g, i, j, rfl⟩

set_option maxRecDepth 100000 in
theorem movesAssociate_lifted (os : Os) (started : os.Started) (H : Type) (enc : TypeId × Value → H) :
    ReturnsInHanded {} Tryd.checked os 9 .any (fun w args => (Rows.movesAssociateSpec.pre enc Tryd.prog Tryd.f9 [] false w args ∧ laidMetH Tryd.prog laidM w) ∧ sizedMet enc Tryd.prog Tryd.f9 (OpenSpec.ofChange Rows.movesAssociateSpec) false w args)
      (Rows.movesAssociateSpec.post enc Tryd.prog Tryd.f9 false true false false) := by
  refine returns_laid_shaped (C := Tryd.checked) (X := fun w _ => laidMetH Tryd.prog laidM w) (fun _ _ _ hh h => h.of_heap hh) ownM started (by kernel_rfl) Tryd.func9
    (ChangeSpec.witness_shaped (enc := enc) (C := Tryd.checked) (os := os) (X := fun w _ => laidMetH Tryd.prog laidM w) false (mWorld os) #[.agg #[.int .u8 0, .int .i8 0, .int .i8 0, .int .u8 0, .int .i8 0, .int .i8 0, .int .u8 0, .int .i8 0, .int .i8 0], .agg #[.int .i8 0, .int .i8 0]] 8 rfl (World.shaped_of_RefB (by kernel_rfl) (by kernel_rfl)) (by kernel_rfl) (by kernel_rfl) (by kernel_rfl) (m_met os _)) ?_
  intro W base args ds gs before hval0 hW hL hsh
  have hval : ∀ (j : Nat) t v, Tryd.f9.params[j]? = some t → args[j]? = some v → Value.okWide Tryd.prog W .any base t v := hval0
  have hW' := hW
  obtain ⟨p, q, hA0, hV, rfl, hfz, hnd⟩ := hW
  have hA : DataW.TrodAll enc Tryd.prog W 0 (fun _ => true) true Tryd.f9.params.toList args.toList ds p := hA0
  rw [Tryd.params9] at hA hval
  obtain ⟨v0, v1, d0, d1, p0, p1, rfl, rfl, rfl, h0, h1⟩ := trodAll_two hA
  obtain ⟨rfl, rfl⟩ := trodVars_none hV
  obtain ⟨cs0, rfl, hsz0, _⟩ : ∃ cs, v0 = .agg cs ∧ cs.size = Tryd.prog.cellsOf 72 ∧ Row.okWide Tryd.prog W .any base 72 cs := by
    have := hval 0 72 v0 rfl rfl
    simpa [Value.okWide, Tryd.underlying72] using this
  rw [cellsM3] at hsz0
  obtain ⟨l0⟩ := cs0
  obtain ⟨c00, c01, c02, c03, c04, c05, c06, c07, c08, rfl⟩ := nine l0 hsz0
  obtain ⟨fu0, hf0⟩ := h0
  obtain ⟨xs0, m0, _, hx0, _, hl0, hel0⟩ := DataW.trod_array Tryd.underlying72 hf0
  obtain ⟨y00, y01, y02, rfl⟩ := three xs0 hl0
  have hy00 := hel0 0 (by decide)
  rw [cellsM] at hy00
  simp [Value.cells] at hy00
  obtain ⟨s0a, s0b, s0c, k0, hs0, _, u0a, u0b, u0c⟩ := Go.Deep.trod_struct3 Tryd.underlying71 hy00
  simp [cellsU8, cellsI8] at u0a u0b u0c
  obtain ⟨a0, g0a, rfl, wa0⟩ := DataW.trod_int Tryd.underlying5 u0a
  simp at g0a
  subst g0a
  obtain ⟨x0, g0b, rfl, wx0⟩ := DataW.trod_int Tryd.underlying38 u0b
  simp at g0b
  subst g0b
  obtain ⟨y0, g0c, rfl, wy0⟩ := DataW.trod_int Tryd.underlying38 u0c
  simp at g0c
  subst g0c
  subst hs0
  have hy01 := hel0 1 (by decide)
  rw [cellsM] at hy01
  simp [Value.cells] at hy01
  obtain ⟨s1a, s1b, s1c, k1, hs1, _, u1a, u1b, u1c⟩ := Go.Deep.trod_struct3 Tryd.underlying71 hy01
  simp [cellsU8, cellsI8] at u1a u1b u1c
  obtain ⟨a1, g1a, rfl, wa1⟩ := DataW.trod_int Tryd.underlying5 u1a
  simp at g1a
  subst g1a
  obtain ⟨x1, g1b, rfl, wx1⟩ := DataW.trod_int Tryd.underlying38 u1b
  simp at g1b
  subst g1b
  obtain ⟨y1, g1c, rfl, wy1⟩ := DataW.trod_int Tryd.underlying38 u1c
  simp at g1c
  subst g1c
  subst hs1
  have hy02 := hel0 2 (by decide)
  rw [cellsM] at hy02
  simp [Value.cells] at hy02
  obtain ⟨s2a, s2b, s2c, k2, hs2, _, u2a, u2b, u2c⟩ := Go.Deep.trod_struct3 Tryd.underlying71 hy02
  simp [cellsU8, cellsI8] at u2a u2b u2c
  obtain ⟨a2, g2a, rfl, wa2⟩ := DataW.trod_int Tryd.underlying5 u2a
  simp at g2a
  subst g2a
  obtain ⟨x2, g2b, rfl, wx2⟩ := DataW.trod_int Tryd.underlying38 u2b
  simp at g2b
  subst g2b
  obtain ⟨y2, g2c, rfl, wy2⟩ := DataW.trod_int Tryd.underlying38 u2c
  simp at g2c
  subst g2c
  subst hs2
  simp at hx0
  obtain ⟨rfl, rfl⟩ := hx0
  have r0 : ∀ (W' : World) (sp : Nat → Bool), DataW.Trod enc Tryd.prog W' 0 sp true 72 (.agg #[.int .u8 a0, .int .i8 x0, .int .i8 y0, .int .u8 a1, .int .i8 x1, .int .i8 y1, .int .u8 a2, .int .i8 x2, .int .i8 y2]) (.agg [.agg [.lit (.int .u8 a0), .lit (.int .i8 x0), .lit (.int .i8 y0)], .agg [.lit (.int .u8 a1), .lit (.int .i8 x1), .lit (.int .i8 y1)], .agg [.lit (.int .u8 a2), .lit (.int .i8 x2), .lit (.int .i8 y2)]]) [] := fun W' sp =>
    ⟨3, by simp [DataW.trod, Value.cells, Tryd.underlying72, Tryd.underlying71, Tryd.underlying5, Tryd.underlying38, cellsM3, cellsM, cellsU8, cellsI8, wa0, wx0, wy0, wa1, wx1, wy1, wa2, wx2, wy2, show List.range 3 = [0, 1, 2] from rfl]⟩
  obtain ⟨cs1, rfl, hsz1, _⟩ : ∃ cs, v1 = .agg cs ∧ cs.size = Tryd.prog.cellsOf 46 ∧ Row.okWide Tryd.prog W .any base 46 cs := by
    have := hval 1 46 v1 rfl rfl
    simpa [Value.okWide, Tryd.underlying46] using this
  rw [cellsA] at hsz1
  obtain ⟨l1⟩ := cs1
  obtain ⟨c1a, c1b, rfl⟩ := two l1 hsz1
  obtain ⟨fu1, hf1⟩ := h1
  obtain ⟨xs1, m1, _, hx1, _, hl1, hel1⟩ := DataW.trod_array Tryd.underlying46 hf1
  obtain ⟨y1a, y1b, rfl⟩ := two xs1 hl1
  have hy1a := hel1 0 (by decide)
  have hy1b := hel1 1 (by decide)
  rw [cellsI8] at hy1a hy1b
  simp [Value.cells] at hy1a hy1b hx1
  obtain ⟨p, e1a, rfl, wp⟩ := DataW.trod_int Tryd.underlying38 hy1a
  obtain ⟨q, e1b, rfl, wq⟩ := DataW.trod_int Tryd.underlying38 hy1b
  simp at e1a e1b hx1
  subst e1a e1b
  obtain ⟨rfl, rfl⟩ := hx1
  have r1 : ∀ (W' : World) (sp : Nat → Bool), DataW.Trod enc Tryd.prog W' 0 sp true 46 (.agg #[.int .i8 p, .int .i8 q]) (.agg [.lit (.int .i8 p), .lit (.int .i8 q)]) [] := fun W' sp =>
    ⟨2, by simp [DataW.trod, Value.cells, Tryd.underlying46, Tryd.underlying38, cellsA, cellsI8, wp, wq, show List.range 2 = [0, 1] from rfl]⟩
  have hS : Std W := std_of_laid hL hsh
  clear hA0 hval0
  simp only [List.append_nil] at hW'
  have za0 : 0 ≤ a0 ∧ a0 ≤ 255 := by
    have := wa0
    simp [Lit.wf] at this
    have e1 : IntKind.u8.min = 0 := rfl
    have e2 : IntKind.u8.max = 255 := rfl
    omega
  have zx0 : -128 ≤ x0 ∧ x0 ≤ 127 := by
    have := wx0
    simp [Lit.wf] at this
    have e1 : IntKind.i8.min = -128 := rfl
    have e2 : IntKind.i8.max = 127 := rfl
    omega
  have zy0 : -128 ≤ y0 ∧ y0 ≤ 127 := by
    have := wy0
    simp [Lit.wf] at this
    have e1 : IntKind.i8.min = -128 := rfl
    have e2 : IntKind.i8.max = 127 := rfl
    omega
  have za1 : 0 ≤ a1 ∧ a1 ≤ 255 := by
    have := wa1
    simp [Lit.wf] at this
    have e1 : IntKind.u8.min = 0 := rfl
    have e2 : IntKind.u8.max = 255 := rfl
    omega
  have zx1 : -128 ≤ x1 ∧ x1 ≤ 127 := by
    have := wx1
    simp [Lit.wf] at this
    have e1 : IntKind.i8.min = -128 := rfl
    have e2 : IntKind.i8.max = 127 := rfl
    omega
  have zy1 : -128 ≤ y1 ∧ y1 ≤ 127 := by
    have := wy1
    simp [Lit.wf] at this
    have e1 : IntKind.i8.min = -128 := rfl
    have e2 : IntKind.i8.max = 127 := rfl
    omega
  have za2 : 0 ≤ a2 ∧ a2 ≤ 255 := by
    have := wa2
    simp [Lit.wf] at this
    have e1 : IntKind.u8.min = 0 := rfl
    have e2 : IntKind.u8.max = 255 := rfl
    omega
  have zx2 : -128 ≤ x2 ∧ x2 ≤ 127 := by
    have := wx2
    simp [Lit.wf] at this
    have e1 : IntKind.i8.min = -128 := rfl
    have e2 : IntKind.i8.max = 127 := rfl
    omega
  have zy2 : -128 ≤ y2 ∧ y2 ≤ 127 := by
    have := wy2
    simp [Lit.wf] at this
    have e1 : IntKind.i8.min = -128 := rfl
    have e2 : IntKind.i8.max = 127 := rfl
    omega
  have zp : -128 ≤ p ∧ p ≤ 127 := by
    have := wp
    simp [Lit.wf] at this
    have e1 : IntKind.i8.min = -128 := rfl
    have e2 : IntKind.i8.max = 127 := rfl
    omega
  have zq : -128 ≤ q ∧ q ≤ 127 := by
    have := wq
    simp [Lit.wf] at this
    have e1 : IntKind.i8.min = -128 := rfl
    have e2 : IntKind.i8.max = 127 := rfl
    omega
  refine (assoc_law a0 x0 y0 a1 x1 y1 a2 x2 y2 p q W hS za0.1 za0.2 zx0.1 zx0.2 zy0.1 zy0.2 za1.1 za1.2 zx1.1 zx1.2 zy1.1 zy1.2 za2.1 za2.2 zx2.1 zx2.2 zy2.1 zy2.2 zp.1 zp.2 zq.1 zq.2).mono fun e W' ⟨he, hb⟩ => ?_
  subst he
  have hargs : ∀ (W' : World) (sp : Nat → Bool), DataW.TrodAll enc Tryd.prog W' 0 sp true Tryd.f9.params.toList _ _ _ := fun W' sp => trodAll_mk2 (r0 W' sp) (r1 W' sp)
  exact ⟨_, rfl, _, _, _, [], [], [], hW', trodAll_mk1 (shut_bool Tryd.underlying4 _), hargs _ _, rfl, hb.frame _, fun h => by cases h⟩

theorem movesAssociate_holds : Rows.MovesAssociateSaid :=
  OpenClaim.holds_of_wide 9 Tryd.f9 rfl rfl rfl rfl rfl rfl rfl ⟨rfl, rfl, rfl, rfl, rfl⟩ rfl rfl rfl rfl rfl (by kernel_rfl) Tryd.func9 (by kernel_rfl)
    (of_decide_eq_true (by kernel_rfl)) (by unfold Func.isWrapper; first | (rw [if_pos (by decide +kernel)]; kernel_rfl) | (rw [if_neg (by decide +kernel)]; exact ⟨rfl, rfl⟩))
    (fun os started H enc _ => movesAssociate_lifted os started H enc)

/-- The tied card. -/
theorem movesAssociate_card_holds : Rows.MovesAssociateCardSaid :=
  Claim7.holds_tied_plain_at .later [] [.data, .data, .data, .data, .sentinel, .sentinel, .data, .pinned] true (true, "27c006ed0c08bad13e82f7267d3d6d03022f553e6789535a3d0afc29313dfe9c") true
    movesAssociate_holds (fun _ h => by cases h) (by kernel_rfl) (fun _ h => by cases h) movesAssociate_row_tie rfl ⟨rfl, rfl⟩ (by kernel_rfl) rfl
    (fun f fn hf hfn => by
      obtain rfl : f = 9 := Option.some.inj ((show Tryd.prog.funcNamed "crimp/crimplaw02.MovesAssociate" = some 9 by kernel_rfl).symm.trans hf) |>.symm
      obtain rfl : fn = Tryd.f9 := (Option.some.inj (Tryd.func9.symm.trans hfn)).symm
      exact ⟨by kernel_rfl, fun j t ht => by
        rw [Tryd.params9] at ht
        have hm : t ∈ [72, 46] := by simpa using Array.mem_of_getElem? ht
        have hall : ([72, 46].all fun u => !Tryd.prog.wantsStandIn u) = true := by kernel_rfl
        exact (show Tryd.prog.wantsStandIn t = false by simpa using List.all_eq_true.1 hall t hm)⟩)
    (by kernel_rfl)
#print axioms movesAssociate_card_holds

end Go.Proofs.YtbcmfenekpllhaaDoor
