/-
  Says: what a table of numbers reads as, whatever its type is made of. what the claims share: the condition on the package-level tables, a start that meets it.
-/
import Derived.Lib.LaidU8
import Derived.ProofKit
import Derived.OpenShut
import Derived.FnData
import Derived.Test.YtbghfcllicfnpabGreatDoorLay
import Derived.Test.YtbghfcllicfnpabGreatDoorRows
import Derived.LaidMore
import Derived.Stop.Joined
import Derived.Stop.LaidErr
import Derived.Lib.SmallJoins
import Derived.Lib.LaidTab
import Derived.Deep.Strs
import Derived.HandedShaped
set_option linter.unusedVariables false
set_option linter.unusedSimpArgs false
set_option linter.unusedSectionVars false
namespace Go.Proofs.YtbghfcllicfnpabGreatDoor
section
open Go

/-- The cells of plain data. -/
def flatD {H : Type} : Nat → DataW H → List Value
  | 0, _ => []
  | _ + 1, .lit (.int k z) => [.int k z]
  | _ + 1, .lit (.bool b) => [.bool b]
  | n + 1, .agg ds => ds.flatMap (flatD n)
  | _ + 1, _ => []
/-- Parts that lie one behind another, of good types. -/
def contT {α : Type} (P : Program) (ok : TypeId → Bool) (g : α → Nat × TypeId) : Nat → List α → Bool
  | _, [] => true
  | o, a :: r => (g a).1 == o && ok (g a).2 && contT P ok g (o + P.cellsOf (g a).2) r
def endT {α : Type} (P : Program) (g : α → Nat × TypeId) : Nat → List α → Nat
  | o, [] => o
  | o, a :: r => endT P g (o + P.cellsOf (g a).2) r
/-- Types of numbers, arrays and structs of such. -/
def flatT (P : Program) : Nat → TypeId → Bool
  | 0, _ => false
  | n + 1, t => match P.underlying t with
    | some (.int _) => P.cellsOf t == 1
    | some (.array m e) => contT P (flatT P n) (fun i => (i * P.cellsOf e, e)) 0 (List.range m) && endT P (fun i => (i * P.cellsOf e, e)) 0 (List.range m) == P.cellsOf t
    | some (.struct fs) => contT P (flatT P n) (fun f : Field => (f.offset, f.type)) 0 fs.toList && endT P (fun f : Field => (f.offset, f.type)) 0 fs.toList == P.cellsOf t
    | _ => false
section
variable {H : Type} {enc : TypeId × Value → H} {P : Program} {w : World} {base : Nat} {sp : Nat → Bool} {held : Bool}
theorem parts_of {α : Type} (g : α → Nat × TypeId) {n fuel : Nat} (ih : ∀ (t : TypeId) (cs : List Value) (x : DataW H × List MemPlace), flatT P n t = true → DataW.trod enc P w base sp held fuel t cs = some x → cs = flatD n x.1 ∧ cs.length = P.cellsOf t) (cs : List Value) :
    ∀ (L : List α) (o : Nat) (xs : List (DataW H × List MemPlace)), contT P (flatT P n) g o L = true → L.mapM (fun a => DataW.trod enc P w base sp held fuel (g a).2 ((cs.drop (g a).1).take (P.cellsOf (g a).2))) = some xs → cs.drop o = (xs.map (·.1)).flatMap (flatD n) ++ cs.drop (endT P g o L)
  | [], o, xs, _, h => by
    simp at h
    subst h
    simp [endT]
  | a :: r, o, xs, hc, h => by
    simp only [contT, Bool.and_eq_true, beq_iff_eq] at hc
    obtain ⟨⟨h1, h2⟩, h3⟩ := hc
    rw [List.mapM_cons] at h
    simp only [bind, Option.bind_eq_some_iff, pure, Option.some.injEq] at h
    obtain ⟨y, hy, ys, hys, rfl⟩ := h
    obtain ⟨e1, e2⟩ := ih _ _ _ h2 hy
    have e3 := parts_of g ih cs r _ ys h3 hys
    rw [h1] at e1 e2
    have e4 : cs.drop o = (cs.drop o).take (P.cellsOf (g a).2) ++ cs.drop (o + P.cellsOf (g a).2) := by
      rw [← List.drop_drop, List.take_append_drop]
    rw [e4, e3, e1]
    simp [endT]
theorem flat_of_trod : ∀ (n fuel : Nat) (t : TypeId) (cs : List Value) (x : DataW H × List MemPlace), flatT P n t = true → DataW.trod enc P w base sp held fuel t cs = some x → cs = flatD n x.1 ∧ cs.length = P.cellsOf t
  | 0, _, _, _, _, h, _ => by simp [flatT] at h
  | n + 1, 0, _, _, _, _, hd => by simp [DataW.trod] at hd
  | n + 1, fuel + 1, t, cs, x, h, hd => by
    unfold flatT at h
    split at h
    · rename_i k ht
      obtain ⟨z, rfl, rfl, _⟩ := DataW.trod_int ht hd
      simp at h
      exact ⟨rfl, by simp [h]⟩
    · rename_i m e ht
      simp only [Bool.and_eq_true, beq_iff_eq] at h
      rw [DataW.trod_step] at hd
      unfold DataW.trodStep at hd
      simp only [ht] at hd
      split at hd
      · rename_i hl
        simp only [Option.map_eq_some_iff] at hd
        obtain ⟨xs, hx, rfl⟩ := hd
        have e3 := parts_of (fun i : Nat => (i * P.cellsOf e, e)) (fun t cs x => flat_of_trod n fuel t cs x) cs (List.range m) 0 xs h.1 hx
        rw [h.2, ← hl, List.drop_length] at e3
        exact ⟨by simpa [flatD] using e3, hl⟩
      · cases hd
    · rename_i fs ht
      simp only [Bool.and_eq_true, beq_iff_eq] at h
      rw [DataW.trod_step] at hd
      unfold DataW.trodStep at hd
      simp only [ht] at hd
      split at hd
      · rename_i hl
        simp only [Option.map_eq_some_iff] at hd
        obtain ⟨xs, hx, rfl⟩ := hd
        have e3 := parts_of (fun f : Field => (f.offset, f.type)) (fun t cs x => flat_of_trod n fuel t cs x) cs fs.toList 0 xs h.1 hx
        rw [h.2, ← hl, List.drop_length] at e3
        exact ⟨by simpa [flatD] using e3, hl⟩
      · cases hd
    · cases h
end
/-- A laid table, cell by cell. -/
theorem tab_of_reads {P : Program} {W : World} {name : String} {d : DataW Unit} {g : Nat} {t : TypeId} {l : List Value} (hg : P.globalNamed name = some g) (hty : (P.globals[g]?).map (·.type) = some t) (hf : flatT P 8 t = true) (hl : flatD 8 d = l) (h : Lib.VarReads P W name d) : ∀ i < l.length, W.cell? ⟨g, i, none⟩ = some (l.getD i undef) := by
  obtain ⟨g', t', cs, fuel, p, hg', hty', hvar, hd⟩ := h
  obtain rfl := Option.some.inj (hg.symm.trans hg')
  obtain rfl := Option.some.inj (hty.symm.trans hty')
  obtain ⟨e, _⟩ := flat_of_trod 8 fuel t _ _ hf hd
  intro i hi
  rw [World.var?_cell hg hvar, ← Array.getElem?_toList, e, hl, List.getElem?_eq_getElem hi]
  simp [List.getD_eq_getElem?_getD, List.getElem?_eq_getElem hi]
end

section
open Go Go.RowKit

open Go.ChangeShapes Go.WideShapes Go.ChangeAt Go.WideMaps Go.WideElems Go.Joins
set_option maxRecDepth 100000
/-- The package-level variables that the rows list, with what their initialisers lay. -/
noncomputable def laidL : List (String × DataW Unit) := [("crimp/cells.neighbours", Rows.laid_crimp_cells_neighbours), ("crimp/cells.corners", Rows.laid_crimp_cells_corners), ("crimp/corners.directions", Rows.laid_crimp_corners_directions)]
theorem cI : Tryz.prog.cellsOf 3 = 1 := by kernel_rfl
theorem cU8 : Tryz.prog.cellsOf 5 = 1 := by kernel_rfl
theorem returns_laid_shaped {H : Type} {enc : TypeId × Value → H} {a : Assume} {C : Checked} {os : Os} {f : FuncId} {fn : Func} {s : ChangeSpec} {conds : List PathCond} {apart fresh handsOn again : Bool} {X : World → Array Value → Prop}
    (hX : ∀ (w w' : World) (args : Array Value), w.heap = w'.heap → X w args → X w' args)
    (own : ownKnob C.prog.godebug = none) (started : os.Started) (noInit : C.prog.inits.idxOf? f = none) (hfn : C.prog.funcs[f]? = some fn)
    (witness : ∃ (w : World) (tape : Tape) (i : Input), w.os = os ∧ (w.forCall tape i).Shaped C.prog ∧ i.vars = [] ∧ Input.okWide C.prog (w.forCall tape i) .any w.heap.size f i ∧
      ((s.pre enc C.prog fn conds apart (w.forCall tape i).memory i.args ∧ X (w.forCall tape i).memory i.args) ∧ sizedMet enc C.prog fn (OpenSpec.ofChange s) apart (w.forCall tape i).memory i.args) ∧ a.holds C.prog (lone (Frame.enter C.prog f i.args .normal) [] (w.forCall tape i)))
    (contract : ∀ (W : World) (base : Nat) (args : Array Value) (ds gs : List (DataW H)) (before : List MemPlace),
      (∀ (j : Nat) t v, fn.params[j]? = some t → args[j]? = some v → Value.okWide C.prog W .any base t v) →
      DataW.Whole enc C.prog fn.params.toList s.vars apart W args.toList ds gs before → X W args → W.ShapedOpen C.prog →
      Calls C.prog f args W fun e W' => ∃ v, e = .returned v ∧ s.post enc C.prog fn apart fresh handsOn again W args v W') :
    ReturnsInHanded a C os f .any (fun w args => (s.pre enc C.prog fn conds apart w args ∧ X w args) ∧ sizedMet enc C.prog fn (OpenSpec.ofChange s) apart w args) (s.post enc C.prog fn apart fresh handsOn again) := by
  refine returnsInHanded_of_calls own started noInit witness ?_
  intro w tape i _ hsh _ hok hpre _
  obtain ⟨_, _, _, fn', hfn', _, _, _, _, hval⟩ := hok
  obtain rfl : fn' = fn := Option.some.inj (hfn'.symm.trans hfn)
  obtain ⟨⟨⟨ds, gs, before, hw, _⟩, hx⟩, _⟩ := hpre
  refine (contract (w.forCall tape i) w.heap.size i.args ds gs before hval (DataW.Whole.of_heap (w' := w.forCall tape i) (by rfl) hw) (hX _ _ _ (by rfl) hx) hsh).mono fun e W' ⟨v, he, hp⟩ => ?_
  subst he
  exact ChangeSpec.post_blind hp
/-- The last variable is there. -/
theorem last_some : (((begin Tryz.prog (fun _ _ => 0) default).world.heap[2]?).bind Obj.row?).isSome = true := by kernel_rfl
theorem len_of_shaped {W : World} (h : W.ShapedOpen Tryz.prog) : 3 ≤ W.heap.size := by
  obtain ⟨⟨zero, t⟩, hz⟩ := Option.isSome_iff_exists.1 last_some
  obtain ⟨cs, hh, _⟩ := h.1 2 zero t (of_decide_eq_true (by kernel_rfl)) hz
  have := (Array.getElem?_eq_some_iff.1 hh).1
  omega
theorem gt0 : ∃ t, (Tryz.prog.globals[0]?).map (·.type) = some t ∧ flatT Tryz.prog 8 t = true := by
  have h : (((Tryz.prog.globals[0]?).map (·.type)).any fun t => flatT Tryz.prog 8 t) = true := by kernel_rfl
  generalize (Tryz.prog.globals[0]?).map (·.type) = q at h ⊢
  cases q with
  | none => cases h
  | some t => exact ⟨t, rfl, h⟩
theorem gt1 : ∃ t, (Tryz.prog.globals[1]?).map (·.type) = some t ∧ flatT Tryz.prog 8 t = true := by
  have h : (((Tryz.prog.globals[1]?).map (·.type)).any fun t => flatT Tryz.prog 8 t) = true := by kernel_rfl
  generalize (Tryz.prog.globals[1]?).map (·.type) = q at h ⊢
  cases q with
  | none => cases h
  | some t => exact ⟨t, rfl, h⟩
theorem gt2 : ∃ t, (Tryz.prog.globals[2]?).map (·.type) = some t ∧ flatT Tryz.prog 8 t = true := by
  have h : (((Tryz.prog.globals[2]?).map (·.type)).any fun t => flatT Tryz.prog 8 t) = true := by kernel_rfl
  generalize (Tryz.prog.globals[2]?).map (·.type) = q at h ⊢
  cases q with
  | none => cases h
  | some t => exact ⟨t, rfl, h⟩
theorem lay_of_laid {W : World} (h : laidMetH Tryz.prog laidL W) (hsh : W.ShapedOpen Tryz.prog) : Lay W := by
  rw [MakeChecks.laidMetH_plain _ _ _ (by kernel_rfl)] at h
  obtain ⟨t0, a0, b0⟩ := gt0
  obtain ⟨t1, a1, b1⟩ := gt1
  obtain ⟨t2, a2, b2⟩ := gt2
  exact ⟨tab_of_reads (show Tryz.prog.globalNamed "crimp/corners.directions" = some 0 by kernel_rfl) a0 b0 (show flatD 8 Rows.laid_crimp_corners_directions = tb0 by kernel_rfl) (Lib.laidMet.reads h (.tail _ (.tail _ (.head _)))), tab_of_reads (show Tryz.prog.globalNamed "crimp/cells.corners" = some 1 by kernel_rfl) a1 b1 (show flatD 8 Rows.laid_crimp_cells_corners = tb1 by kernel_rfl) (Lib.laidMet.reads h (.tail _ (.head _))), tab_of_reads (show Tryz.prog.globalNamed "crimp/cells.neighbours" = some 2 by kernel_rfl) a2 b2 (show flatD 8 Rows.laid_crimp_cells_neighbours = tb2 by kernel_rfl) (Lib.laidMet.reads h (.head _)), len_of_shaped hsh⟩
theorem own : ownKnob Tryz.prog.godebug = none := by kernel_rfl
theorem door_met (os : Os) (args : Array Value) : laidMetH Tryz.prog laidL ((World.doorLaid Tryz.prog 400 os).forCall (fun _ _ => 0) ⟨#[], args, []⟩).memory :=
  laidMetH_of_parts3 (fuel := 8) (laidMet_of_run' 8 (by kernel_rfl) (by kernel_rfl)) (by kernel_rfl) (by kernel_rfl)
end

end Go.Proofs.YtbghfcllicfnpabGreatDoor
