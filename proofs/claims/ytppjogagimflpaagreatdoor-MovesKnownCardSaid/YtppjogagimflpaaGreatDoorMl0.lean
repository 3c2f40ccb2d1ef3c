/-
  Says: what the claims on package moves share: the condition on the package-level variables, a start that meets it.
-/
import Derived.Test.YtppjogagimflpaaGreatDoorMv8
import Derived.Test.YtppjogagimflpaaGreatDoorRows
import Derived.ProofKit
import Derived.LaidMore
import Derived.OpenShut
import Derived.Stop.Joined
import Derived.Stop.LaidErr
import Derived.Lib.SmallJoins
import Derived.Lib.LaidTab
import Derived.Lib.LaidU8
import Derived.HandedShaped
import Derived.PinnedBridge
import Derived.Shelf.Vars
set_option linter.unusedVariables false
set_option linter.unusedSimpArgs false
namespace Go.Proofs.YtppjogagimflpaaGreatDoor
open Go Go.RowKit

open Go.ChangeShapes Go.WideShapes Go.ChangeAt Go.WideMaps Go.WideElems Go.Joins
set_option maxRecDepth 100000
/-- A law over what is laid, the world's shape kept. -/
theorem returns_laid_shaped {H : Type} {enc : TypeId × Value → H} {a : Assume} {C : Checked} {os : Os} {f : FuncId} {fn : Func} {s : ChangeSpec} {conds : List PathCond} {apart fresh handsOn again : Bool} {X : World → Array Value → Prop}
    (hX : ∀ (w w' : World) (args : Array Value), w.heap = w'.heap → X w args → X w' args)
    (own : ownKnob C.prog.godebug = none) (started : os.Started) (noInit : C.prog.inits.idxOf? f = none) (hfn : C.prog.funcs[f]? = some fn)
    (witness : ∃ (w : World) (tape : Tape) (i : Input), w.os = os ∧ (w.forCall tape i).Shaped C.prog ∧ i.vars = [] ∧ Input.okWide C.prog (w.forCall tape i) .any w.heap.size f i ∧
      ((s.pre enc C.prog fn conds apart (w.forCall tape i).memory i.args ∧ X (w.forCall tape i).memory i.args) ∧ sizedMet enc C.prog fn (OpenSpec.ofChange s) apart (w.forCall tape i).memory i.args) ∧ a.holds C.prog (lone (Frame.enter C.prog f i.args .normal) [] (w.forCall tape i)))
    (contract : ∀ (W : World) (base : Nat) (args : Array Value) (ds gs : List (DataW H)) (before : List MemPlace),
      (∀ (j : Nat) t v, fn.params[j]? = some t → args[j]? = some v → Value.okWide C.prog W .any base t v) →
      DataW.Whole enc C.prog fn.params.toList s.vars apart W args.toList ds gs before → X W args → W.ShapedOpen C.prog →
      Calls C.prog f args W fun e W' => ∃ v, e = .returned v ∧ s.post enc C.prog fn apart fresh handsOn again W args v W') :
    ReturnsInHanded a C os f .any (fun w args => (s.pre enc C.prog fn conds apart w args ∧ X w args) ∧ sizedMet enc C.prog fn (OpenSpec.ofChange s) apart w args) (s.post enc C.prog fn apart fresh handsOn again) := by
  refine returnsInHanded_of_calls own started noInit witness ?_
  intro w tape i _ hsh _ hok hpre _
  obtain ⟨_, _, _, fn', hfn', _, _, _, _, hval⟩ := hok
  obtain rfl : fn' = fn := Option.some.inj (hfn'.symm.trans hfn)
  obtain ⟨⟨⟨ds, gs, before, hw, _⟩, hx⟩, _⟩ := hpre
  refine (contract (w.forCall tape i) w.heap.size i.args ds gs before hval (DataW.Whole.of_heap (w' := w.forCall tape i) (by rfl) hw) (hX _ _ _ (by rfl) hx) hsh).mono fun e W' ⟨v, he, hp⟩ => ?_
  subst he
  exact ChangeSpec.post_blind hp
/-- The package-level variables that the rows list, with what their initialisers lay. -/
noncomputable def laidM : List (String × DataW Unit) := [("math/bits.deBruijn32tab", Rows.laid_math_bits_deBruijn32tab), ("math/bits.deBruijn64tab", Rows.laid_math_bits_deBruijn64tab), ("internal/strconv.uint64pow10", Rows.laid_internal_strconv_uint64pow10), ("unicode/utf8.acceptRanges", Rows.laid_unicode_utf8_acceptRanges), ("strconv.ErrRange", Rows.laid_strconv_ErrRange), ("strconv.ErrSyntax", Rows.laid_strconv_ErrSyntax), ("crimp/moves.turns", Rows.laid_crimp_moves_turns), ("unicode/utf8.first", Rows.laid_unicode_utf8_first)]
/-- An interface variable that reads as a value of a named type holds an interface value. -/
theorem iface_cell {H : Type} {enc : TypeId × Value → H} {P : Program} {w : World} {base : Nat} {sp : Nat → Bool} {fuel : Nat} {t : TypeId} {ms : Array (String × TypeId)} {cs : List Value} {nm : String} {d : DataW H} {p : List MemPlace} (ht : P.underlying t = some (.interface ms))
    (h : DataW.trod enc P w base sp false fuel t cs = some (.iface nm d, p)) : ∃ u v, cs = [.iface u v] := by
  cases fuel with
  | zero => simp [DataW.trod] at h
  | succ fuel =>
    unfold DataW.trod at h
    rw [ht] at h
    match cs with
    | [] => simp at h
    | [x] =>
      cases x with
      | iface u v => exact ⟨u, v, rfl⟩
      | _ => simp at h
    | _ :: _ :: _ => simp at h
theorem gTur : Tryz.prog.globalNamed "crimp/moves.turns" = some 0 := by kernel_rfl
theorem gTurType : (Tryz.prog.globals[0]?).map (·.type) = some 96 := by kernel_rfl
theorem gSyn : Tryz.prog.globalNamed "strconv.ErrSyntax" = some 1 := by kernel_rfl
theorem gSynType : (Tryz.prog.globals[1]?).map (·.type) = some 109 := by kernel_rfl
theorem gRan : Tryz.prog.globalNamed "strconv.ErrRange" = some 2 := by kernel_rfl
theorem gRanType : (Tryz.prog.globals[2]?).map (·.type) = some 109 := by kernel_rfl
theorem gPowM : Tryz.prog.globalNamed "internal/strconv.uint64pow10" = some 3 := by kernel_rfl
theorem gPowMType : (Tryz.prog.globals[3]?).map (·.type) = some 144 := by kernel_rfl
theorem cI : Tryz.prog.cellsOf 3 = 1 := by kernel_rfl
theorem cA1 : Tryz.prog.cellsOf 94 = 2 := by kernel_rfl
theorem cA2 : Tryz.prog.cellsOf 95 = 4 := by kernel_rfl
/-- The rows of the table, as data. -/
def turnD (i j : Nat) : DataW Unit := .agg ([turnsL.getD (4 * i + 2 * j) 0, turnsL.getD (4 * i + 2 * j + 1) 0].map fun n => .lit (.int .i64 n))
theorem turns_data : Rows.laid_crimp_moves_turns (H := Unit) = .agg ((List.range 8).map fun i => .agg ((List.range 2).map fun j => turnD i j)) := by kernel_rfl
theorem turns_of_reads {W : World} (h : Lib.VarReads Tryz.prog W "crimp/moves.turns" Rows.laid_crimp_moves_turns) : Turns W := by
  obtain ⟨g, t, cs, fuel, p, hg, hty, hvar, hd⟩ := h
  obtain rfl := Option.some.inj (gTur.symm.trans hg)
  obtain rfl := Option.some.inj (gTurType.symm.trans hty)
  rw [turns_data] at hd
  intro k hk
  obtain ⟨i, j, l, hi, hj, hl, rfl⟩ : ∃ i j l, i < 8 ∧ j < 2 ∧ l < 2 ∧ k = i * 4 + (j * 2 + l) := ⟨k / 4, k % 4 / 2, k % 2, by omega, by omega, by omega, by omega⟩
  obtain ⟨f1, d1, q1, hd1, he1⟩ := Lib.array_elem Tryz.underlying96 hd i hi
  simp only [List.getElem?_map, List.getElem?_range hi, Option.map_some, Option.some.injEq] at hd1
  subst hd1
  rw [cA2] at he1
  obtain ⟨f2, d2, q2, hd2, he2⟩ := Lib.array_elem Tryz.underlying95 he1 j hj
  simp only [List.getElem?_map, List.getElem?_range hj, Option.map_some, Option.some.injEq] at hd2
  subst hd2
  rw [cA1] at he2
  have hcs := Lib.cells_of_tab (k := .i64) (zs := [turnsL.getD (4 * i + 2 * j) 0, turnsL.getD (4 * i + 2 * j + 1) 0]) Tryz.underlying94 Tryz.underlying3 cI cA1 he2
  have e := congrArg (·[l]?) hcs
  simp only [List.getElem?_take, List.getElem?_drop, hl, if_true, show j * 2 + l < 4 by omega] at e
  rw [World.var?_cell gTur hvar, ← Array.getElem?_toList, e]
  obtain rfl | rfl : l = 0 ∨ l = 1 := by omega
  · rw [show i * 4 + (j * 2 + 0) = 4 * i + 2 * j by omega]; rfl
  · rw [show i * 4 + (j * 2 + 1) = 4 * i + 2 * j + 1 by omega]; rfl
theorem std_of_laid {W : World} (h : laidMetH Tryz.prog laidM W) (hsh : W.ShapedOpen Tryz.prog) : Std W := by
  rw [MakeChecks.laidMetH_plain _ _ _ (by kernel_rfl)] at h
  refine ⟨?_, ?_, ?_, ?_, ?_⟩
  · exact Lib.tabIs_of_head gPowM gPowMType Tryz.underlying144 Tryz.underlying126 (by kernel_rfl) (by kernel_rfl) h.tail.tail
  · exact turns_of_reads (Lib.laidMet.reads h (.tail _ (.tail _ (.tail _ (.tail _ (.tail _ (.tail _ (.head _))))))))
  · obtain ⟨g, t, cs, fuel, p, hg, hty, hvar, hd⟩ := Lib.laidMet.reads h (n := "strconv.ErrSyntax") (.tail _ (.tail _ (.tail _ (.tail _ (.tail _ (.head _))))))
    obtain rfl := Option.some.inj (gSyn.symm.trans hg)
    obtain rfl := Option.some.inj (gSynType.symm.trans hty)
    obtain ⟨u, v, hc⟩ := iface_cell Tryz.underlying109 hd
    exact ⟨_, by rw [World.var?_cell gSyn hvar 0, ← Array.getElem?_toList, hc]; rfl, .inr ⟨u, v, rfl⟩⟩
  · obtain ⟨g, t, cs, fuel, p, hg, hty, hvar, hd⟩ := Lib.laidMet.reads h (n := "strconv.ErrRange") (.tail _ (.tail _ (.tail _ (.tail _ (.head _)))))
    obtain rfl := Option.some.inj (gRan.symm.trans hg)
    obtain rfl := Option.some.inj (gRanType.symm.trans hty)
    obtain ⟨u, v, hc⟩ := iface_cell Tryz.underlying109 hd
    exact ⟨_, by rw [World.var?_cell gRan hvar 0, ← Array.getElem?_toList, hc]; rfl, .inr ⟨u, v, rfl⟩⟩
  · exact cell_of_shapedOpen_int (t := 3) (zero := #[.int .i64 0]) hsh (of_decide_eq_true (by kernel_rfl)) (by kernel_rfl) rfl (by kernel_rfl) (by kernel_rfl) Tryz.underlying3
theorem ownM : ownKnob Tryz.prog.godebug = none := by kernel_rfl
/-- A start that meets the condition: what the door's own run leaves, the table that the dump leaves out laid by hand. -/
noncomputable def mWorld (os : Os) : World :=
  let w0 := World.doorLaid Tryz.prog 101 os
  { w0 with heap := w0.heap.modify 5 fun
      | .cells _ t frozen => .cells (Lib.firstTab.map fun z => Value.int .u8 z).toArray t frozen
      | o => o }
theorem m_met (os : Os) (args : Array Value) : laidMetH Tryz.prog laidM ((mWorld os).forCall (fun _ _ => 0) ⟨#[], args, []⟩).memory :=
  laidMetH_of_parts3 (fuel := 8) (laidMet_of_run' 8 (by kernel_rfl) (by kernel_rfl)) (by kernel_rfl) (by kernel_rfl)
theorem cellsLn : Tryz.prog.cellsOf 27 = 2 := by kernel_rfl
theorem cellsPt : Tryz.prog.cellsOf 32 = 2 := by kernel_rfl
theorem cellsMv : Tryz.prog.cellsOf 36 = 3 := by kernel_rfl
theorem shaped_m (os : Os) : (mWorld os).heap.size = (mWorld os).heap.size := rfl

end Go.Proofs.YtppjogagimflpaaGreatDoor
