/-
  Says: what the claims share: the condition on the package-level tables, a start that meets it.
-/
import Derived.Test.YtdnekeegpenioaaDoorLay
import Derived.Test.YtdnekeegpenioaaDoorRows
import Derived.ProofKit
import Derived.LaidMore
import Derived.OpenShut
import Derived.Stop.Joined
import Derived.Stop.LaidErr
import Derived.Lib.SmallJoins
import Derived.Lib.LaidTab
import Derived.Lib.LaidU8
import Derived.Deep.Strs
import Derived.HandedShaped
set_option linter.unusedVariables false
set_option linter.unusedSimpArgs false
namespace Go.Proofs.YtdnekeegpenioaaDoor
open Go Go.RowKit

open Go.ChangeShapes Go.WideShapes Go.ChangeAt Go.WideMaps Go.WideElems Go.Joins
set_option maxRecDepth 100000
/-- The package-level variables that the rows list, with what their initialisers lay. -/
noncomputable def laidL : List (String × DataW Unit) := [("crimp/cells.neighbours", Rows.laid_crimp_cells_neighbours)]
theorem gNei : Tryd.prog.globalNamed "crimp/cells.neighbours" = some 0 := by kernel_rfl
theorem gNeiType : (Tryd.prog.globals[0]?).map (·.type) = some 155 := by kernel_rfl
theorem cI : Tryd.prog.cellsOf 3 = 1 := by kernel_rfl
theorem cU8 : Tryd.prog.cellsOf 5 = 1 := by kernel_rfl
theorem cCl : Tryd.prog.cellsOf 80 = 3 := by kernel_rfl
theorem c3C : Tryd.prog.cellsOf 154 = 9 := by kernel_rfl
def neiN (k : Nat) : Int := match neiL.getD k undef with
  | .int _ n => n
  | _ => 0
def neiD (i j : Nat) : DataW Unit := .agg [.lit (.int .i64 (neiN (9 * i + 3 * j))), .lit (.int .i64 (neiN (9 * i + 3 * j + 1))), .lit (.int .u8 (neiN (9 * i + 3 * j + 2)))]
theorem nei_data : Rows.laid_crimp_cells_neighbours (H := Unit) = .agg ((List.range 4).map fun i => .agg ((List.range 3).map fun j => neiD i j)) := by kernel_rfl
theorem nei_val : ∀ i < 4, ∀ j < 3, neiL.getD (9 * i + 3 * j) undef = .int .i64 (neiN (9 * i + 3 * j)) ∧ neiL.getD (9 * i + 3 * j + 1) undef = .int .i64 (neiN (9 * i + 3 * j + 1)) ∧ neiL.getD (9 * i + 3 * j + 2) undef = .int .u8 (neiN (9 * i + 3 * j + 2)) := fun i hi j hj => by
  obtain rfl | rfl | rfl | rfl : i = 0 ∨ i = 1 ∨ i = 2 ∨ i = 3 := by omega
  all_goals (obtain rfl | rfl | rfl : j = 0 ∨ j = 1 ∨ j = 2 := by omega) <;> exact ⟨rfl, rfl, rfl⟩
theorem nei_of_reads {W : World} (h : Lib.VarReads Tryd.prog W "crimp/cells.neighbours" Rows.laid_crimp_cells_neighbours) : ∀ k < 36, W.cell? ⟨0, k, none⟩ = some (neiL.getD k undef) := by
  obtain ⟨g, t, cs, fuel, p, hg, hty, hvar, hd⟩ := h
  obtain rfl := Option.some.inj (gNei.symm.trans hg)
  obtain rfl := Option.some.inj (gNeiType.symm.trans hty)
  rw [nei_data] at hd
  intro k hk
  obtain ⟨i, j, l, hi, hj, hl, rfl⟩ : ∃ i j l, i < 4 ∧ j < 3 ∧ l < 3 ∧ k = i * 9 + (j * 3 + l) := ⟨k / 9, k % 9 / 3, k % 3, by omega, by omega, by omega, by omega⟩
  obtain ⟨v0, v1, v2⟩ := nei_val i hi j hj
  obtain ⟨f1, d1, q1, hd1, he1⟩ := Lib.array_elem Tryd.underlying155 hd i hi
  simp only [List.getElem?_map, List.getElem?_range hi, Option.map_some, Option.some.injEq] at hd1
  subst hd1
  rw [c3C] at he1
  obtain ⟨f2, d2, q2, hd2, he2⟩ := Lib.array_elem Tryd.underlying154 he1 j hj
  simp only [List.getElem?_map, List.getElem?_range hj, Option.map_some, Option.some.injEq] at hd2
  subst hd2
  rw [cCl] at he2
  obtain ⟨y0, y1, y2, n, hx, _, h0, h1, h2⟩ := Go.Deep.trod_struct3 Tryd.underlying80 he2
  simp only [cI, cU8] at h0 h1 h2
  simp [neiD] at hx
  obtain ⟨⟨x0, x1, x2⟩, _⟩ := hx
  obtain ⟨a0, e0, hy0, _⟩ := DataW.trod_int Tryd.underlying3 h0
  obtain ⟨a1, e1, hy1, _⟩ := DataW.trod_int Tryd.underlying3 h1
  obtain ⟨a2, e2, hy2, _⟩ := DataW.trod_int Tryd.underlying5 h2
  subst hy0 hy1 hy2
  simp at x0 x1 x2
  rw [World.var?_cell gNei hvar]
  obtain rfl | rfl | rfl : l = 0 ∨ l = 1 ∨ l = 2 := by omega
  · have e := congrArg (·[0]?) e0
    simp [List.getElem?_take, List.getElem?_drop, show j * 3 < 9 by omega] at e
    rw [show i * 9 + (j * 3 + 0) = i * 9 + j * 3 by omega, e, show i * 9 + j * 3 = 9 * i + 3 * j by omega, v0, x0]
  · have e := congrArg (·[0]?) e1
    simp [List.getElem?_take, List.getElem?_drop, show j * 3 + 1 < 9 by omega] at e
    rw [e, show i * 9 + (j * 3 + 1) = 9 * i + 3 * j + 1 by omega, v1, x1]
  · have e := congrArg (·[0]?) e2
    simp [List.getElem?_take, List.getElem?_drop, show j * 3 + 2 < 9 by omega] at e
    rw [e, show i * 9 + (j * 3 + 2) = 9 * i + 3 * j + 2 by omega, v2, x2]
theorem returns_laid_shaped {H : Type} {enc : TypeId × Value → H} {a : Assume} {C : Checked} {os : Os} {f : FuncId} {fn : Func} {s : ChangeSpec} {conds : List PathCond} {apart fresh handsOn again : Bool} {X : World → Array Value → Prop}
    (hX : ∀ (w w' : World) (args : Array Value), w.heap = w'.heap → X w args → X w' args)
    (own : ownKnob C.prog.godebug = none) (started : os.Started) (noInit : C.prog.inits.idxOf? f = none) (hfn : C.prog.funcs[f]? = some fn)
    (witness : ∃ (w : World) (tape : Tape) (i : Input), w.os = os ∧ (w.forCall tape i).Shaped C.prog ∧ i.vars = [] ∧ Input.okWide C.prog (w.forCall tape i) .any w.heap.size f i ∧
      ((s.pre enc C.prog fn conds apart (w.forCall tape i).memory i.args ∧ X (w.forCall tape i).memory i.args) ∧ sizedMet enc C.prog fn (OpenSpec.ofChange s) apart (w.forCall tape i).memory i.args) ∧ a.holds C.prog (lone (Frame.enter C.prog f i.args .normal) [] (w.forCall tape i)))
    (contract : ∀ (W : World) (base : Nat) (args : Array Value) (ds gs : List (DataW H)) (before : List MemPlace),
      (∀ (j : Nat) t v, fn.params[j]? = some t → args[j]? = some v → Value.okWide C.prog W .any base t v) →
      DataW.Whole enc C.prog fn.params.toList s.vars apart W args.toList ds gs before → X W args → W.ShapedOpen C.prog →
      Calls C.prog f args W fun e W' => ∃ v, e = .returned v ∧ s.post enc C.prog fn apart fresh handsOn again W args v W') :
    ReturnsInHanded a C os f .any (fun w args => (s.pre enc C.prog fn conds apart w args ∧ X w args) ∧ sizedMet enc C.prog fn (OpenSpec.ofChange s) apart w args) (s.post enc C.prog fn apart fresh handsOn again) := by
  refine returnsInHanded_of_calls own started noInit witness ?_
  intro w tape i _ hsh _ hok hpre _
  obtain ⟨_, _, _, fn', hfn', _, _, _, _, hval⟩ := hok
  obtain rfl : fn' = fn := Option.some.inj (hfn'.symm.trans hfn)
  obtain ⟨⟨⟨ds, gs, before, hw, _⟩, hx⟩, _⟩ := hpre
  refine (contract (w.forCall tape i) w.heap.size i.args ds gs before hval (DataW.Whole.of_heap (w' := w.forCall tape i) (by rfl) hw) (hX _ _ _ (by rfl) hx) hsh).mono fun e W' ⟨v, he, hp⟩ => ?_
  subst he
  exact ChangeSpec.post_blind hp
theorem lay_of_laid {W : World} (h : laidMetH Tryd.prog laidL W) (hsh : W.ShapedOpen Tryd.prog) : Lay W := by
  rw [MakeChecks.laidMetH_plain _ _ _ (by kernel_rfl)] at h
  exact ⟨nei_of_reads (Lib.laidMet.reads h (.head _))⟩
theorem own : ownKnob Tryd.prog.godebug = none := by kernel_rfl
theorem door_met (os : Os) (args : Array Value) : laidMetH Tryd.prog laidL ((World.doorLaid Tryd.prog 101 os).forCall (fun _ _ => 0) ⟨#[], args, []⟩).memory :=
  laidMetH_of_parts3 (fuel := 8) (laidMet_of_run' 8 (by kernel_rfl) (by kernel_rfl)) (by kernel_rfl) (by kernel_rfl)

end Go.Proofs.YtdnekeegpenioaaDoor
