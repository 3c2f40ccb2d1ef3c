/-
  Says: crimplaw01.LinesTwice, called with any two lines and any point of its own small form, returns true and leaves its arguments as they were, where the three tables of the library hold what their initialisers laid (the card ties these to the text).
-/
import Derived.Test.YtbnjbecmllmehaaDoorLwTwice
import Derived.Test.YtbnjbecmllmehaaDoorTie
import Derived.Test.YtbnjbecmllmehaaDoorCards
import Derived.SevenTiedAt
set_option linter.unusedVariables false
set_option linter.unusedSimpArgs false
namespace Go.Proofs.YtbnjbecmllmehaaDoor
open Go Go.RowKit

open Go.ChangeShapes Go.WideShapes Go.ChangeAt Go.WideMaps Go.WideElems Go.Joins
theorem cellsL : Tryd.prog.cellsOf 50 = 2 := by kernel_rfl
theorem cellsA : Tryd.prog.cellsOf 51 = 2 := by kernel_rfl
theorem cellsI8 : Tryd.prog.cellsOf 48 = 1 := by kernel_rfl
theorem two {α : Type _} (l : List α) (h : l.length = 2) : ∃ a b, l = [a, b] := by
  match l, h with
  | [a, b], _ => exact ⟨a, b, rfl⟩

set_option maxRecDepth 100000 in
theorem linesTwice_lifted (os : Os) (started : os.Started) (H : Type) (enc : TypeId × Value → H) :
    ReturnsInHanded {} Tryd.checked os 8 .any (fun w args => (Rows.linesTwiceSpec.pre enc Tryd.prog Tryd.f8 [] false w args ∧ laidMetH Tryd.prog laidL w) ∧ sizedMet enc Tryd.prog Tryd.f8 (OpenSpec.ofChange Rows.linesTwiceSpec) false w args)
      (Rows.linesTwiceSpec.post enc Tryd.prog Tryd.f8 false true false false) := by
  refine returnsInHanded_of_change_and (C := Tryd.checked) (X := fun w _ => laidMetH Tryd.prog laidL w) (fun _ _ _ hh h => h.of_heap hh) own started (by kernel_rfl) Tryd.func8
    (ChangeSpec.witness_shaped (enc := enc) (C := Tryd.checked) (os := os) (X := fun w _ => laidMetH Tryd.prog laidL w) false (World.doorLaid Tryd.prog 24 os) #[.agg #[.int .u8 0, .int .i8 0], .agg #[.int .u8 0, .int .i8 0], .agg #[.int .i8 0, .int .i8 0]] 8 rfl (World.shaped_of_RefB (by kernel_rfl) (by kernel_rfl)) (by kernel_rfl) (by kernel_rfl) (by kernel_rfl) (door_met os _)) ?_
  intro W base args ds gs before hval0 hW _ _ hL _
  have hval : ∀ (j : Nat) t v, Tryd.f8.params[j]? = some t → args[j]? = some v → Value.okWide Tryd.prog W .any base t v := hval0
  have hW' := hW
  obtain ⟨p, q, hA0, hV, rfl, hfz, hnd⟩ := hW
  have hA : DataW.TrodAll enc Tryd.prog W 0 (fun _ => true) true Tryd.f8.params.toList args.toList ds p := hA0
  rw [Tryd.params8] at hA hval
  obtain ⟨v0, v1, v2, d0, d1, d2, p0, p1, p2, rfl, rfl, rfl, h0, h1, h2⟩ := trodAll_three hA
  obtain ⟨rfl, rfl⟩ := trodVars_none hV
  obtain ⟨c0a, c0b, y0a, y0b, m0, rfl, rfl, rfl, hy0a, hy0b⟩ := open_agg2 Tryd.underlying50 (by kernel_rfl) cellsL (hval 0 50 v0 rfl rfl) h0
  obtain ⟨a, e0a, rfl, wa⟩ := DataW.trod_int Tryd.underlying5 hy0a
  obtain ⟨c, e0b, rfl, wc⟩ := DataW.trod_int Tryd.underlying48 hy0b
  simp at e0a e0b
  subst e0a e0b
  have r0 : ∀ (W' : World) (sp : Nat → Bool), DataW.Trod enc Tryd.prog W' 0 sp true 50 (.agg #[.int .u8 a, .int .i8 c]) (.agg [.lit (.int .u8 a), .lit (.int .i8 c)]) [] := fun W' sp =>
    shut_agg2 (y0 := (.lit (.int .u8 a), [])) (y1 := (.lit (.int .i8 c), [])) Tryd.underlying50 (by kernel_rfl) cellsL ⟨1, by simp [DataW.trod, Tryd.underlying5, wa]⟩ ⟨1, by simp [DataW.trod, Tryd.underlying48, wc]⟩
  obtain ⟨c1a, c1b, y1a, y1b, m1, rfl, rfl, rfl, hy1a, hy1b⟩ := open_agg2 Tryd.underlying50 (by kernel_rfl) cellsL (hval 1 50 v1 rfl rfl) h1
  obtain ⟨b, e1a, rfl, wb⟩ := DataW.trod_int Tryd.underlying5 hy1a
  obtain ⟨d, e1b, rfl, wd⟩ := DataW.trod_int Tryd.underlying48 hy1b
  simp at e1a e1b
  subst e1a e1b
  have r1 : ∀ (W' : World) (sp : Nat → Bool), DataW.Trod enc Tryd.prog W' 0 sp true 50 (.agg #[.int .u8 b, .int .i8 d]) (.agg [.lit (.int .u8 b), .lit (.int .i8 d)]) [] := fun W' sp =>
    shut_agg2 (y0 := (.lit (.int .u8 b), [])) (y1 := (.lit (.int .i8 d), [])) Tryd.underlying50 (by kernel_rfl) cellsL ⟨1, by simp [DataW.trod, Tryd.underlying5, wb]⟩ ⟨1, by simp [DataW.trod, Tryd.underlying48, wd]⟩
  obtain ⟨cs2, rfl, hsz2, _⟩ : ∃ cs, v2 = .agg cs ∧ cs.size = Tryd.prog.cellsOf 51 ∧ Row.okWide Tryd.prog W .any base 51 cs := by
    have := hval 2 51 v2 rfl rfl
    simpa [Value.okWide, Tryd.underlying51] using this
  rw [cellsA] at hsz2
  obtain ⟨l2⟩ := cs2
  obtain ⟨c2a, c2b, rfl⟩ := two l2 hsz2
  obtain ⟨fu2, hf2⟩ := h2
  obtain ⟨xs2, m2, _, hx2, _, hl2, hel2⟩ := DataW.trod_array Tryd.underlying51 hf2
  obtain ⟨y2a, y2b, rfl⟩ := two xs2 hl2
  have hy2a := hel2 0 (by decide)
  have hy2b := hel2 1 (by decide)
  rw [cellsI8] at hy2a hy2b
  simp [Value.cells] at hy2a hy2b hx2
  obtain ⟨x, e2a, rfl, wx⟩ := DataW.trod_int Tryd.underlying48 hy2a
  obtain ⟨y, e2b, rfl, wy⟩ := DataW.trod_int Tryd.underlying48 hy2b
  simp at e2a e2b hx2
  subst e2a e2b
  obtain ⟨rfl, rfl⟩ := hx2
  have r2 : ∀ (W' : World) (sp : Nat → Bool), DataW.Trod enc Tryd.prog W' 0 sp true 51 (.agg #[.int .i8 x, .int .i8 y]) (.agg [.lit (.int .i8 x), .lit (.int .i8 y)]) [] := fun W' sp =>
    ⟨2, by simp [DataW.trod, Value.cells, Tryd.underlying51, Tryd.underlying48, cellsA, cellsI8, wx, wy, show List.range 2 = [0, 1] from rfl]⟩
  have hT : Tab W := tab_of_laid hL
  clear hA0 hval0
  simp only [List.append_nil] at hW'
  refine (twice_law a c b d x y W hT (bounds_u8 wa).1 (bounds_u8 wa).2 (bounds_i8 wc).1 (bounds_i8 wc).2 (bounds_u8 wb).1 (bounds_u8 wb).2 (bounds_i8 wd).1 (bounds_i8 wd).2 (bounds_i8 wx).1 (bounds_i8 wx).2 (bounds_i8 wy).1 (bounds_i8 wy).2).mono fun e W' ⟨he, hb⟩ => ?_
  subst he
  have hargs : ∀ (W' : World) (sp : Nat → Bool), DataW.TrodAll enc Tryd.prog W' 0 sp true Tryd.f8.params.toList _ _ _ := fun W' sp => trodAll_mk3 (r0 W' sp) (r1 W' sp) (r2 W' sp)
  exact ⟨_, rfl, _, _, _, [], [], [], hW', trodAll_mk1 (shut_bool Tryd.underlying4 _), hargs _ _, rfl, hb.frame _, fun h => by cases h⟩

theorem linesTwice_holds : Rows.LinesTwiceSaid :=
  OpenClaim.holds_of_wide 8 Tryd.f8 rfl rfl rfl rfl rfl rfl rfl ⟨rfl, rfl, rfl, rfl, rfl⟩ rfl rfl rfl rfl rfl (by kernel_rfl) Tryd.func8 (by kernel_rfl)
    (of_decide_eq_true (by kernel_rfl)) (by unfold Func.isWrapper; first | (rw [if_pos (by decide +kernel)]; kernel_rfl) | (rw [if_neg (by decide +kernel)]; exact ⟨rfl, rfl⟩))
    (fun os started H enc _ => linesTwice_lifted os started H enc)

/-- The tied card. -/
theorem linesTwice_card_holds : Rows.LinesTwiceCardSaid :=
  Claim7.holds_tied_plain_at .later [] [.data, .data, .data] true (true, "b717215049f13c6222cc1595c421aad2e3e370035fc481f74673574e7dc1652a") false
    linesTwice_holds (fun _ h => by cases h) (by kernel_rfl) (fun _ h => by cases h) linesTwice_row_tie rfl ⟨rfl, rfl⟩ (by kernel_rfl) rfl
    (fun f fn hf hfn => by
      obtain rfl : f = 8 := Option.some.inj ((show Tryd.prog.funcNamed "crimp/crimplaw01.LinesTwice" = some 8 by kernel_rfl).symm.trans hf) |>.symm
      obtain rfl : fn = Tryd.f8 := (Option.some.inj (Tryd.func8.symm.trans hfn)).symm
      exact ⟨by kernel_rfl, fun j t ht => by
        rw [Tryd.params8] at ht
        have hm : t ∈ [50, 50, 51] := by simpa using Array.mem_of_getElem? ht
        have hall : ([50, 50, 51].all fun u => !Tryd.prog.wantsStandIn u) = true := by kernel_rfl
        exact (show Tryd.prog.wantsStandIn t = false by simpa using List.all_eq_true.1 hall t hm)⟩)
    (by kernel_rfl)
#print axioms linesTwice_card_holds

end Go.Proofs.YtbnjbecmllmehaaDoor
