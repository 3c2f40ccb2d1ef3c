/-
  Says: what the claims on package segments share: the condition on the package-level variables, a start that meets it.
-/
import Derived.Test.YtkmmnlhmfiabfaaGreatDoorKS
import Derived.Test.YtkmmnlhmfiabfaaGreatDoorRows
import Derived.ProofKit
import Derived.LaidMore
import Derived.OpenShut
import Derived.Stop.Joined
import Derived.Stop.LaidErr
import Derived.Lib.SmallJoins
import Derived.Lib.LaidTab
import Derived.Lib.LaidU8
import Derived.HandedShaped
import Derived.PinnedBridge
import Derived.Shelf.Vars
import Derived.Deep.Strs
set_option linter.unusedVariables false
set_option linter.unusedSimpArgs false
namespace Go.Proofs.YtkmmnlhmfiabfaaGreatDoor
open Go Go.RowKit

open Go.ChangeShapes Go.WideShapes Go.ChangeAt Go.WideMaps Go.WideElems Go.Joins
set_option maxRecDepth 100000
/-- A law over what is laid, the world's shape kept. -/
theorem returns_laid_shaped {H : Type} {enc : TypeId × Value → H} {a : Assume} {C : Checked} {os : Os} {f : FuncId} {fn : Func} {s : ChangeSpec} {conds : List PathCond} {apart fresh handsOn again : Bool} {X : World → Array Value → Prop}
    (hX : ∀ (w w' : World) (args : Array Value), w.heap = w'.heap → X w args → X w' args)
    (own : ownKnob C.prog.godebug = none) (started : os.Started) (noInit : C.prog.inits.idxOf? f = none) (hfn : C.prog.funcs[f]? = some fn)
    (witness : ∃ (w : World) (tape : Tape) (i : Input), w.os = os ∧ (w.forCall tape i).Shaped C.prog ∧ i.vars = [] ∧ Input.okWide C.prog (w.forCall tape i) .any w.heap.size f i ∧
      ((s.pre enc C.prog fn conds apart (w.forCall tape i).memory i.args ∧ X (w.forCall tape i).memory i.args) ∧ sizedMet enc C.prog fn (OpenSpec.ofChange s) apart (w.forCall tape i).memory i.args) ∧ a.holds C.prog (lone (Frame.enter C.prog f i.args .normal) [] (w.forCall tape i)))
    (contract : ∀ (W : World) (base : Nat) (args : Array Value) (ds gs : List (DataW H)) (before : List MemPlace),
      (∀ (j : Nat) t v, fn.params[j]? = some t → args[j]? = some v → Value.okWide C.prog W .any base t v) →
      DataW.Whole enc C.prog fn.params.toList s.vars apart W args.toList ds gs before → X W args → W.ShapedOpen C.prog →
      Calls C.prog f args W fun e W' => ∃ v, e = .returned v ∧ s.post enc C.prog fn apart fresh handsOn again W args v W') :
    ReturnsInHanded a C os f .any (fun w args => (s.pre enc C.prog fn conds apart w args ∧ X w args) ∧ sizedMet enc C.prog fn (OpenSpec.ofChange s) apart w args) (s.post enc C.prog fn apart fresh handsOn again) := by
  refine returnsInHanded_of_calls own started noInit witness ?_
  intro w tape i _ hsh _ hok hpre _
  obtain ⟨_, _, _, fn', hfn', _, _, _, _, hval⟩ := hok
  obtain rfl : fn' = fn := Option.some.inj (hfn'.symm.trans hfn)
  obtain ⟨⟨⟨ds, gs, before, hw, _⟩, hx⟩, _⟩ := hpre
  refine (contract (w.forCall tape i) w.heap.size i.args ds gs before hval (DataW.Whole.of_heap (w' := w.forCall tape i) (by rfl) hw) (hX _ _ _ (by rfl) hx) hsh).mono fun e W' ⟨v, he, hp⟩ => ?_
  subst he
  exact ChangeSpec.post_blind hp

/-- The package-level variables that the rows list, with what their initialisers lay. -/
noncomputable def laidM : List (String × DataW Unit) := [("math/bits.deBruijn32tab", Rows.laid_math_bits_deBruijn32tab), ("math/bits.deBruijn64tab", Rows.laid_math_bits_deBruijn64tab), ("internal/strconv.uint64pow10", Rows.laid_internal_strconv_uint64pow10), ("unicode/utf8.acceptRanges", Rows.laid_unicode_utf8_acceptRanges), ("strconv.ErrRange", Rows.laid_strconv_ErrRange), ("strconv.ErrSyntax", Rows.laid_strconv_ErrSyntax), ("crimp/cells.neighbours", Rows.laid_crimp_cells_neighbours), ("crimp/cells.corners", Rows.laid_crimp_cells_corners), ("unicode/utf8.first", Rows.laid_unicode_utf8_first)]
/-- An interface variable that reads as a value of a named type holds an interface value. -/
theorem iface_cell {H : Type} {enc : TypeId × Value → H} {P : Program} {w : World} {base : Nat} {sp : Nat → Bool} {fuel : Nat} {t : TypeId} {ms : Array (String × TypeId)} {cs : List Value} {nm : String} {d : DataW H} {p : List MemPlace} (ht : P.underlying t = some (.interface ms))
    (h : DataW.trod enc P w base sp false fuel t cs = some (.iface nm d, p)) : ∃ u v, cs = [.iface u v] := by
  cases fuel with
  | zero => simp [DataW.trod] at h
  | succ fuel =>
    unfold DataW.trod at h
    rw [ht] at h
    match cs with
    | [] => simp at h
    | [x] =>
      cases x with
      | iface u v => exact ⟨u, v, rfl⟩
      | _ => simp at h
    | _ :: _ :: _ => simp at h

theorem gCor : Tryz.prog.globalNamed "crimp/cells.corners" = some 1 := by kernel_rfl
theorem gCorType : (Tryz.prog.globals[1]?).map (·.type) = some 245 := by kernel_rfl
theorem gNei : Tryz.prog.globalNamed "crimp/cells.neighbours" = some 5 := by kernel_rfl
theorem gNeiType : (Tryz.prog.globals[5]?).map (·.type) = some 264 := by kernel_rfl
theorem gSyn : Tryz.prog.globalNamed "strconv.ErrSyntax" = some 2 := by kernel_rfl
theorem gSynType : (Tryz.prog.globals[2]?).map (·.type) = some 154 := by kernel_rfl
theorem gRan : Tryz.prog.globalNamed "strconv.ErrRange" = some 3 := by kernel_rfl
theorem gRanType : (Tryz.prog.globals[3]?).map (·.type) = some 154 := by kernel_rfl
theorem gPowM : Tryz.prog.globalNamed "internal/strconv.uint64pow10" = some 4 := by kernel_rfl
theorem gPowMType : (Tryz.prog.globals[4]?).map (·.type) = some 261 := by kernel_rfl
theorem cI : Tryz.prog.cellsOf 3 = 1 := by kernel_rfl
theorem cU8 : Tryz.prog.cellsOf 5 = 1 := by kernel_rfl
theorem cPt : Tryz.prog.cellsOf 130 = 2 := by kernel_rfl
theorem cCl : Tryz.prog.cellsOf 119 = 3 := by kernel_rfl
theorem c3P : Tryz.prog.cellsOf 170 = 6 := by kernel_rfl
theorem c3C : Tryz.prog.cellsOf 263 = 9 := by kernel_rfl
def corD (i j : Nat) : DataW Unit := .agg [.lit (.int .i64 (cornersL.getD (6 * i + 2 * j) 0)), .lit (.int .i64 (cornersL.getD (6 * i + 2 * j + 1) 0))]
theorem cor_data : Rows.laid_crimp_cells_corners (H := Unit) = .agg ((List.range 4).map fun i => .agg ((List.range 3).map fun j => corD i j)) := by kernel_rfl
theorem cor_of_reads {W : World} (h : Lib.VarReads Tryz.prog W "crimp/cells.corners" Rows.laid_crimp_cells_corners) : ∀ k < 24, W.cell? ⟨1, k, none⟩ = some (.int .i64 (cornersL.getD k 0)) := by
  obtain ⟨g, t, cs, fuel, p, hg, hty, hvar, hd⟩ := h
  obtain rfl := Option.some.inj (gCor.symm.trans hg)
  obtain rfl := Option.some.inj (gCorType.symm.trans hty)
  rw [cor_data] at hd
  intro k hk
  obtain ⟨i, j, l, hi, hj, hl, rfl⟩ : ∃ i j l, i < 4 ∧ j < 3 ∧ l < 2 ∧ k = i * 6 + (j * 2 + l) := ⟨k / 6, k % 6 / 2, k % 2, by omega, by omega, by omega, by omega⟩
  obtain ⟨f1, d1, q1, hd1, he1⟩ := Lib.array_elem Tryz.underlying245 hd i hi
  simp only [List.getElem?_map, List.getElem?_range hi, Option.map_some, Option.some.injEq] at hd1
  subst hd1
  rw [c3P] at he1
  obtain ⟨f2, d2, q2, hd2, he2⟩ := Lib.array_elem Tryz.underlying170 he1 j hj
  simp only [List.getElem?_map, List.getElem?_range hj, Option.map_some, Option.some.injEq] at hd2
  subst hd2
  rw [cPt] at he2
  obtain ⟨y0, y1, n, hx, _, h0, h1⟩ := trod_struct2 Tryz.underlying130 he2
  simp only [cI] at h0 h1
  simp [corD] at hx
  obtain ⟨⟨x0, x1⟩, _⟩ := hx
  obtain ⟨a0, e0, hy0, _⟩ := DataW.trod_int Tryz.underlying3 h0
  obtain ⟨a1, e1, hy1, _⟩ := DataW.trod_int Tryz.underlying3 h1
  subst hy0 hy1
  simp at x0 x1
  rw [World.var?_cell gCor hvar]
  obtain rfl | rfl : l = 0 ∨ l = 1 := by omega
  · have e := congrArg (·[0]?) e0
    simp [List.getElem?_take, List.getElem?_drop, show j * 2 < 6 by omega] at e
    rw [show i * 6 + (j * 2 + 0) = i * 6 + j * 2 by omega, e, show i * 6 + j * 2 = 6 * i + 2 * j by omega, ← x0]; simp
  · have e := congrArg (·[0]?) e1
    simp [List.getElem?_take, List.getElem?_drop, show j * 2 + 1 < 6 by omega] at e
    rw [e, show i * 6 + (j * 2 + 1) = 6 * i + 2 * j + 1 by omega, ← x1]; simp
def neiN (k : Nat) : Int := match neiL.getD k undef with
  | .int _ n => n
  | _ => 0
def neiD (i j : Nat) : DataW Unit := .agg [.lit (.int .i64 (neiN (9 * i + 3 * j))), .lit (.int .i64 (neiN (9 * i + 3 * j + 1))), .lit (.int .u8 (neiN (9 * i + 3 * j + 2)))]
theorem nei_data : Rows.laid_crimp_cells_neighbours (H := Unit) = .agg ((List.range 4).map fun i => .agg ((List.range 3).map fun j => neiD i j)) := by kernel_rfl
theorem nei_val : ∀ i < 4, ∀ j < 3, neiL.getD (9 * i + 3 * j) undef = .int .i64 (neiN (9 * i + 3 * j)) ∧ neiL.getD (9 * i + 3 * j + 1) undef = .int .i64 (neiN (9 * i + 3 * j + 1)) ∧ neiL.getD (9 * i + 3 * j + 2) undef = .int .u8 (neiN (9 * i + 3 * j + 2)) := fun i hi j hj => by
  obtain rfl | rfl | rfl | rfl : i = 0 ∨ i = 1 ∨ i = 2 ∨ i = 3 := by omega
  all_goals (obtain rfl | rfl | rfl : j = 0 ∨ j = 1 ∨ j = 2 := by omega) <;> exact ⟨rfl, rfl, rfl⟩
theorem nei_of_reads {W : World} (h : Lib.VarReads Tryz.prog W "crimp/cells.neighbours" Rows.laid_crimp_cells_neighbours) : ∀ k < 36, W.cell? ⟨5, k, none⟩ = some (neiL.getD k undef) := by
  obtain ⟨g, t, cs, fuel, p, hg, hty, hvar, hd⟩ := h
  obtain rfl := Option.some.inj (gNei.symm.trans hg)
  obtain rfl := Option.some.inj (gNeiType.symm.trans hty)
  rw [nei_data] at hd
  intro k hk
  obtain ⟨i, j, l, hi, hj, hl, rfl⟩ : ∃ i j l, i < 4 ∧ j < 3 ∧ l < 3 ∧ k = i * 9 + (j * 3 + l) := ⟨k / 9, k % 9 / 3, k % 3, by omega, by omega, by omega, by omega⟩
  obtain ⟨v0, v1, v2⟩ := nei_val i hi j hj
  obtain ⟨f1, d1, q1, hd1, he1⟩ := Lib.array_elem Tryz.underlying264 hd i hi
  simp only [List.getElem?_map, List.getElem?_range hi, Option.map_some, Option.some.injEq] at hd1
  subst hd1
  rw [c3C] at he1
  obtain ⟨f2, d2, q2, hd2, he2⟩ := Lib.array_elem Tryz.underlying263 he1 j hj
  simp only [List.getElem?_map, List.getElem?_range hj, Option.map_some, Option.some.injEq] at hd2
  subst hd2
  rw [cCl] at he2
  obtain ⟨y0, y1, y2, n, hx, _, h0, h1, h2⟩ := Go.Deep.trod_struct3 Tryz.underlying119 he2
  simp only [cI, cU8] at h0 h1 h2
  simp [neiD] at hx
  obtain ⟨⟨x0, x1, x2⟩, _⟩ := hx
  obtain ⟨a0, e0, hy0, _⟩ := DataW.trod_int Tryz.underlying3 h0
  obtain ⟨a1, e1, hy1, _⟩ := DataW.trod_int Tryz.underlying3 h1
  obtain ⟨a2, e2, hy2, _⟩ := DataW.trod_int Tryz.underlying5 h2
  subst hy0 hy1 hy2
  simp at x0 x1 x2
  rw [World.var?_cell gNei hvar]
  obtain rfl | rfl | rfl : l = 0 ∨ l = 1 ∨ l = 2 := by omega
  · have e := congrArg (·[0]?) e0
    simp [List.getElem?_take, List.getElem?_drop, show j * 3 < 9 by omega] at e
    rw [show i * 9 + (j * 3 + 0) = i * 9 + j * 3 by omega, e, show i * 9 + j * 3 = 9 * i + 3 * j by omega, v0, x0]
  · have e := congrArg (·[0]?) e1
    simp [List.getElem?_take, List.getElem?_drop, show j * 3 + 1 < 9 by omega] at e
    rw [e, show i * 9 + (j * 3 + 1) = 9 * i + 3 * j + 1 by omega, v1, x1]
  · have e := congrArg (·[0]?) e2
    simp [List.getElem?_take, List.getElem?_drop, show j * 3 + 2 < 9 by omega] at e
    rw [e, show i * 9 + (j * 3 + 2) = 9 * i + 3 * j + 2 by omega, v2, x2]

/-- The last variable is there. -/
theorem len_of_shaped {W : World} (h : W.ShapedOpen Tryz.prog) : 10 ≤ W.heap.size := by
  obtain ⟨cs, hh, _⟩ := h.1 9 (Array.replicate 64 (.int .u8 0)) 276 (of_decide_eq_true (by kernel_rfl)) (by kernel_rfl)
  have := (Array.getElem?_eq_some_iff.1 hh).1
  omega
theorem all_of_laid {W : World} (h : laidMetH Tryz.prog laidM W) (hsh : W.ShapedOpen Tryz.prog) : All W := by
  rw [MakeChecks.laidMetH_plain _ _ _ (by kernel_rfl)] at h
  refine ⟨⟨?_, ?_, ?_, ?_⟩, cor_of_reads (Lib.laidMet.reads h (.tail _ (.tail _ (.tail _ (.tail _ (.tail _ (.tail _ (.tail _ (.head _))))))))), nei_of_reads (Lib.laidMet.reads h (.tail _ (.tail _ (.tail _ (.tail _ (.tail _ (.tail _ (.head _)))))))), len_of_shaped hsh⟩
  · exact Lib.tabIs_of_head gPowM gPowMType Tryz.underlying261 Tryz.underlying195 (by kernel_rfl) (by kernel_rfl) h.tail.tail
  · obtain ⟨g, t, cs, fuel, p, hg, hty, hvar, hd⟩ := Lib.laidMet.reads h (n := "strconv.ErrSyntax") (.tail _ (.tail _ (.tail _ (.tail _ (.tail _ (.head _))))))
    obtain rfl := Option.some.inj (gSyn.symm.trans hg)
    obtain rfl := Option.some.inj (gSynType.symm.trans hty)
    obtain ⟨u, v, hc⟩ := iface_cell Tryz.underlying154 hd
    exact ⟨_, by rw [World.var?_cell gSyn hvar 0, ← Array.getElem?_toList, hc]; rfl, .inr ⟨u, v, rfl⟩⟩
  · obtain ⟨g, t, cs, fuel, p, hg, hty, hvar, hd⟩ := Lib.laidMet.reads h (n := "strconv.ErrRange") (.tail _ (.tail _ (.tail _ (.tail _ (.head _)))))
    obtain rfl := Option.some.inj (gRan.symm.trans hg)
    obtain rfl := Option.some.inj (gRanType.symm.trans hty)
    obtain ⟨u, v, hc⟩ := iface_cell Tryz.underlying154 hd
    exact ⟨_, by rw [World.var?_cell gRan hvar 0, ← Array.getElem?_toList, hc]; rfl, .inr ⟨u, v, rfl⟩⟩
  · exact cell_of_shapedOpen_int (t := 3) (zero := #[.int .i64 0]) hsh (of_decide_eq_true (by kernel_rfl)) (by kernel_rfl) rfl (by kernel_rfl) (by kernel_rfl) Tryz.underlying3
theorem ownM : ownKnob Tryz.prog.godebug = none := by kernel_rfl
/-- A start that meets the condition: what the door's own run leaves, the table that the dump leaves out laid by hand. -/
noncomputable def mWorld (os : Os) : World :=
  let w0 := World.doorLaid Tryz.prog 400 os
  { w0 with heap := w0.heap.modify 6 fun
      | .cells _ t frozen => .cells (Lib.firstTab.map fun z => Value.int .u8 z).toArray t frozen
      | o => o }
theorem m_met (os : Os) (args : Array Value) : laidMetH Tryz.prog laidM ((mWorld os).forCall (fun _ _ => 0) ⟨#[], args, []⟩).memory :=
  laidMetH_of_parts3 (fuel := 8) (laidMet_of_run' 8 (by kernel_rfl) (by kernel_rfl)) (by kernel_rfl) (by kernel_rfl)
theorem cellsLn : Tryz.prog.cellsOf 27 = 2 := by kernel_rfl
theorem cellsSg : Tryz.prog.cellsOf 29 = 5 := by kernel_rfl
theorem cellsKd : Tryz.prog.cellsOf 24 = 1 := by kernel_rfl
theorem cellsLk : Tryz.prog.cellsOf 25 = 1 := by kernel_rfl
theorem five {α : Type _} (l : List α) (h : l.length = 5) : ∃ a b c d e, l = [a, b, c, d, e] := by
  match l, h with
  | [a, b, c, d, e], _ => exact ⟨a, b, c, d, e, rfl⟩

end Go.Proofs.YtkmmnlhmfiabfaaGreatDoor
