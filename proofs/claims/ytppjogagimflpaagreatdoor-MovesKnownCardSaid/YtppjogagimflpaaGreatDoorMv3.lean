/-
  Says: what turnOf gives for the factors of a turn.
-/
import Derived.Test.YtppjogagimflpaaGreatDoorMv1
import Derived.Laws.Rows
set_option linter.unusedVariables false
set_option linter.unusedSimpArgs false
namespace Go.Proofs.YtppjogagimflpaaGreatDoor
open Go Go.RowKit

theorem turns_list {w : World} (h : Turns w) : ∀ j v, (#[.int .i64 1, .int .i64 0, .int .i64 0, .int .i64 1, .int .i64 0, .int .i64 (-1), .int .i64 1, .int .i64 0, .int .i64 (-1), .int .i64 0, .int .i64 0, .int .i64 (-1), .int .i64 0, .int .i64 1, .int .i64 (-1), .int .i64 0, .int .i64 (-1), .int .i64 0, .int .i64 0, .int .i64 1, .int .i64 0, .int .i64 (-1), .int .i64 (-1), .int .i64 0, .int .i64 1, .int .i64 0, .int .i64 0, .int .i64 (-1), .int .i64 0, .int .i64 1, .int .i64 1, .int .i64 0] : Array Value).toList[j]? = some v → w.cell? ⟨0, j, none⟩ = some v := fun j v hj => by
  have hl : j < 32 := (List.getElem?_eq_some_iff.1 hj).1
  have e : ((#[.int .i64 1, .int .i64 0, .int .i64 0, .int .i64 1, .int .i64 0, .int .i64 (-1), .int .i64 1, .int .i64 0, .int .i64 (-1), .int .i64 0, .int .i64 0, .int .i64 (-1), .int .i64 0, .int .i64 1, .int .i64 (-1), .int .i64 0, .int .i64 (-1), .int .i64 0, .int .i64 0, .int .i64 1, .int .i64 0, .int .i64 (-1), .int .i64 (-1), .int .i64 0, .int .i64 1, .int .i64 0, .int .i64 0, .int .i64 (-1), .int .i64 0, .int .i64 1, .int .i64 1, .int .i64 0] : Array Value).toList) = turnsL.map (fun n => Value.int .i64 n) := rfl
  rw [e, List.getElem?_map] at hj
  rw [h j hl]
  have hx : turnsL[j]? = some (turnsL.getD j 0) := by
    have e2 : turnsL.length = 32 := rfl
    simp [List.getD, List.getElem?_eq_getElem (show j < turnsL.length by omega)]
  rw [hx] at hj
  exact hj
section
variable {P : Program}
theorem run_load_cells (w : World) (g : Nat) (ty : TypeId) (cs : Array Value) (d : TypeDesc) (hc : ∀ j v, cs.toList[j]? = some v → w.cell? ⟨g, j, none⟩ = some v)
    (hu : P.underlying ty = some d) (hd : (match d with | .struct _ | .array _ _ => true | _ => false) = true) (hi : (P.info? ty).map (·.size) = some cs.size) :
    (loadVar ty ⟨g, 0, none⟩).run P w = .ok (.agg cs) w := by
  have hl : (loadCells ⟨g, 0, none⟩ cs.toList.length).run P w = .ok cs.toList.toArray w :=
    run_loadCells_list (P := P) w ⟨g, 0, none⟩ cs.toList (fun j v hv => by
      have hadd : (⟨g, 0, none⟩ : Addr).add j = ⟨g, j, none⟩ := by unfold Addr.add; split <;> simp_all
      rw [hadd]; exact hc j v hv)
  cases hq : P.info? ty with
  | none => simp [hq] at hi
  | some i =>
    have hs : i.size = cs.size := by simpa [hq] using hi
    have hagg : (isAgg ty).run P w = .ok true w := by
      unfold isAgg
      rw [Sem.run_bind, run_underlying hu w]
      cases d <;> simp_all
    simp only [Array.length_toList, Array.toArray_toList] at hl
    simp [loadVar, Sem.run_bind, hagg, sizeOf, typeInfo, hq, hs, hl]
theorem wpList_load_cells {ops : Array Oper} {rest : List Oper} {o : Oper} {a : Act} {w : World} {Q : Exit → Act → World → Prop} (hgd : o.guard = none) (ty : TypeId) (x : Operand) (ho : o.op = .load ty x)
    (g : Nat) (hx : a.eval x = .pointer (some ⟨g, 0, none⟩)) (cs : Array Value) (d : TypeDesc) (hc : ∀ j v, cs.toList[j]? = some v → w.cell? ⟨g, j, none⟩ = some v)
    (hu : P.underlying ty = some d) (hd : (match d with | .struct _ | .array _ _ => true | _ => false) = true) (hi : (P.info? ty).map (·.size) = some cs.size)
    (h : wpList P ops Q rest (a.put o.dst (.agg cs)) w) : wpList P ops Q (o :: rest) a w :=
  wpList_plain hgd fun K hK => by
    unfold Oper.wp execOp
    simp only [ho, hx, Instr.loadAt, Instr.sureAddr, Sem.run_bind, Sem.run_pure, Result.andThen_ok, run_load_cells w g ty cs d hc hu hd hi]
    exact hK _ _ h
end
theorem row_at0 : ∀ w, (Instr.index 96 (.agg #[.int .i64 1, .int .i64 0, .int .i64 0, .int .i64 1, .int .i64 0, .int .i64 (-1), .int .i64 1, .int .i64 0, .int .i64 (-1), .int .i64 0, .int .i64 0, .int .i64 (-1), .int .i64 0, .int .i64 1, .int .i64 (-1), .int .i64 0, .int .i64 (-1), .int .i64 0, .int .i64 0, .int .i64 1, .int .i64 0, .int .i64 (-1), .int .i64 (-1), .int .i64 0, .int .i64 1, .int .i64 0, .int .i64 0, .int .i64 (-1), .int .i64 0, .int .i64 1, .int .i64 1, .int .i64 0]) (.int .i64 0)).run Tryz.prog w = .ok (.agg #[.int .i64 1, .int .i64 0, .int .i64 0, .int .i64 1]) w := fun _ => by kernel_rfl
theorem row_at1 : ∀ w, (Instr.index 96 (.agg #[.int .i64 1, .int .i64 0, .int .i64 0, .int .i64 1, .int .i64 0, .int .i64 (-1), .int .i64 1, .int .i64 0, .int .i64 (-1), .int .i64 0, .int .i64 0, .int .i64 (-1), .int .i64 0, .int .i64 1, .int .i64 (-1), .int .i64 0, .int .i64 (-1), .int .i64 0, .int .i64 0, .int .i64 1, .int .i64 0, .int .i64 (-1), .int .i64 (-1), .int .i64 0, .int .i64 1, .int .i64 0, .int .i64 0, .int .i64 (-1), .int .i64 0, .int .i64 1, .int .i64 1, .int .i64 0]) (.int .i64 1)).run Tryz.prog w = .ok (.agg #[.int .i64 0, .int .i64 (-1), .int .i64 1, .int .i64 0]) w := fun _ => by kernel_rfl
theorem row_at2 : ∀ w, (Instr.index 96 (.agg #[.int .i64 1, .int .i64 0, .int .i64 0, .int .i64 1, .int .i64 0, .int .i64 (-1), .int .i64 1, .int .i64 0, .int .i64 (-1), .int .i64 0, .int .i64 0, .int .i64 (-1), .int .i64 0, .int .i64 1, .int .i64 (-1), .int .i64 0, .int .i64 (-1), .int .i64 0, .int .i64 0, .int .i64 1, .int .i64 0, .int .i64 (-1), .int .i64 (-1), .int .i64 0, .int .i64 1, .int .i64 0, .int .i64 0, .int .i64 (-1), .int .i64 0, .int .i64 1, .int .i64 1, .int .i64 0]) (.int .i64 2)).run Tryz.prog w = .ok (.agg #[.int .i64 (-1), .int .i64 0, .int .i64 0, .int .i64 (-1)]) w := fun _ => by kernel_rfl
theorem row_at3 : ∀ w, (Instr.index 96 (.agg #[.int .i64 1, .int .i64 0, .int .i64 0, .int .i64 1, .int .i64 0, .int .i64 (-1), .int .i64 1, .int .i64 0, .int .i64 (-1), .int .i64 0, .int .i64 0, .int .i64 (-1), .int .i64 0, .int .i64 1, .int .i64 (-1), .int .i64 0, .int .i64 (-1), .int .i64 0, .int .i64 0, .int .i64 1, .int .i64 0, .int .i64 (-1), .int .i64 (-1), .int .i64 0, .int .i64 1, .int .i64 0, .int .i64 0, .int .i64 (-1), .int .i64 0, .int .i64 1, .int .i64 1, .int .i64 0]) (.int .i64 3)).run Tryz.prog w = .ok (.agg #[.int .i64 0, .int .i64 1, .int .i64 (-1), .int .i64 0]) w := fun _ => by kernel_rfl
theorem row_at4 : ∀ w, (Instr.index 96 (.agg #[.int .i64 1, .int .i64 0, .int .i64 0, .int .i64 1, .int .i64 0, .int .i64 (-1), .int .i64 1, .int .i64 0, .int .i64 (-1), .int .i64 0, .int .i64 0, .int .i64 (-1), .int .i64 0, .int .i64 1, .int .i64 (-1), .int .i64 0, .int .i64 (-1), .int .i64 0, .int .i64 0, .int .i64 1, .int .i64 0, .int .i64 (-1), .int .i64 (-1), .int .i64 0, .int .i64 1, .int .i64 0, .int .i64 0, .int .i64 (-1), .int .i64 0, .int .i64 1, .int .i64 1, .int .i64 0]) (.int .i64 4)).run Tryz.prog w = .ok (.agg #[.int .i64 (-1), .int .i64 0, .int .i64 0, .int .i64 1]) w := fun _ => by kernel_rfl
theorem row_at5 : ∀ w, (Instr.index 96 (.agg #[.int .i64 1, .int .i64 0, .int .i64 0, .int .i64 1, .int .i64 0, .int .i64 (-1), .int .i64 1, .int .i64 0, .int .i64 (-1), .int .i64 0, .int .i64 0, .int .i64 (-1), .int .i64 0, .int .i64 1, .int .i64 (-1), .int .i64 0, .int .i64 (-1), .int .i64 0, .int .i64 0, .int .i64 1, .int .i64 0, .int .i64 (-1), .int .i64 (-1), .int .i64 0, .int .i64 1, .int .i64 0, .int .i64 0, .int .i64 (-1), .int .i64 0, .int .i64 1, .int .i64 1, .int .i64 0]) (.int .i64 5)).run Tryz.prog w = .ok (.agg #[.int .i64 0, .int .i64 (-1), .int .i64 (-1), .int .i64 0]) w := fun _ => by kernel_rfl
theorem row_at6 : ∀ w, (Instr.index 96 (.agg #[.int .i64 1, .int .i64 0, .int .i64 0, .int .i64 1, .int .i64 0, .int .i64 (-1), .int .i64 1, .int .i64 0, .int .i64 (-1), .int .i64 0, .int .i64 0, .int .i64 (-1), .int .i64 0, .int .i64 1, .int .i64 (-1), .int .i64 0, .int .i64 (-1), .int .i64 0, .int .i64 0, .int .i64 1, .int .i64 0, .int .i64 (-1), .int .i64 (-1), .int .i64 0, .int .i64 1, .int .i64 0, .int .i64 0, .int .i64 (-1), .int .i64 0, .int .i64 1, .int .i64 1, .int .i64 0]) (.int .i64 6)).run Tryz.prog w = .ok (.agg #[.int .i64 1, .int .i64 0, .int .i64 0, .int .i64 (-1)]) w := fun _ => by kernel_rfl
theorem row_at7 : ∀ w, (Instr.index 96 (.agg #[.int .i64 1, .int .i64 0, .int .i64 0, .int .i64 1, .int .i64 0, .int .i64 (-1), .int .i64 1, .int .i64 0, .int .i64 (-1), .int .i64 0, .int .i64 0, .int .i64 (-1), .int .i64 0, .int .i64 1, .int .i64 (-1), .int .i64 0, .int .i64 (-1), .int .i64 0, .int .i64 0, .int .i64 1, .int .i64 0, .int .i64 (-1), .int .i64 (-1), .int .i64 0, .int .i64 1, .int .i64 0, .int .i64 0, .int .i64 (-1), .int .i64 0, .int .i64 1, .int .i64 1, .int .i64 0]) (.int .i64 7)).run Tryz.prog w = .ok (.agg #[.int .i64 0, .int .i64 1, .int .i64 1, .int .i64 0]) w := fun _ => by kernel_rfl
@[local go_sem] theorem eq_at00 : ∀ w, (Op.equalIn 10000 95 (.agg #[.int .i64 1, .int .i64 0, .int .i64 0, .int .i64 1]) (.agg #[.int .i64 1, .int .i64 0, .int .i64 0, .int .i64 1])).run Tryz.prog w = .ok true w := fun _ => by kernel_rfl
@[local go_sem] theorem eq_at10 : ∀ w, (Op.equalIn 10000 95 (.agg #[.int .i64 1, .int .i64 0, .int .i64 0, .int .i64 1]) (.agg #[.int .i64 0, .int .i64 (-1), .int .i64 1, .int .i64 0])).run Tryz.prog w = .ok false w := fun _ => by kernel_rfl
@[local go_sem] theorem eq_at11 : ∀ w, (Op.equalIn 10000 95 (.agg #[.int .i64 0, .int .i64 (-1), .int .i64 1, .int .i64 0]) (.agg #[.int .i64 0, .int .i64 (-1), .int .i64 1, .int .i64 0])).run Tryz.prog w = .ok true w := fun _ => by kernel_rfl
@[local go_sem] theorem eq_at20 : ∀ w, (Op.equalIn 10000 95 (.agg #[.int .i64 1, .int .i64 0, .int .i64 0, .int .i64 1]) (.agg #[.int .i64 (-1), .int .i64 0, .int .i64 0, .int .i64 (-1)])).run Tryz.prog w = .ok false w := fun _ => by kernel_rfl
@[local go_sem] theorem eq_at21 : ∀ w, (Op.equalIn 10000 95 (.agg #[.int .i64 0, .int .i64 (-1), .int .i64 1, .int .i64 0]) (.agg #[.int .i64 (-1), .int .i64 0, .int .i64 0, .int .i64 (-1)])).run Tryz.prog w = .ok false w := fun _ => by kernel_rfl
@[local go_sem] theorem eq_at22 : ∀ w, (Op.equalIn 10000 95 (.agg #[.int .i64 (-1), .int .i64 0, .int .i64 0, .int .i64 (-1)]) (.agg #[.int .i64 (-1), .int .i64 0, .int .i64 0, .int .i64 (-1)])).run Tryz.prog w = .ok true w := fun _ => by kernel_rfl
@[local go_sem] theorem eq_at30 : ∀ w, (Op.equalIn 10000 95 (.agg #[.int .i64 1, .int .i64 0, .int .i64 0, .int .i64 1]) (.agg #[.int .i64 0, .int .i64 1, .int .i64 (-1), .int .i64 0])).run Tryz.prog w = .ok false w := fun _ => by kernel_rfl
@[local go_sem] theorem eq_at31 : ∀ w, (Op.equalIn 10000 95 (.agg #[.int .i64 0, .int .i64 (-1), .int .i64 1, .int .i64 0]) (.agg #[.int .i64 0, .int .i64 1, .int .i64 (-1), .int .i64 0])).run Tryz.prog w = .ok false w := fun _ => by kernel_rfl
@[local go_sem] theorem eq_at32 : ∀ w, (Op.equalIn 10000 95 (.agg #[.int .i64 (-1), .int .i64 0, .int .i64 0, .int .i64 (-1)]) (.agg #[.int .i64 0, .int .i64 1, .int .i64 (-1), .int .i64 0])).run Tryz.prog w = .ok false w := fun _ => by kernel_rfl
@[local go_sem] theorem eq_at33 : ∀ w, (Op.equalIn 10000 95 (.agg #[.int .i64 0, .int .i64 1, .int .i64 (-1), .int .i64 0]) (.agg #[.int .i64 0, .int .i64 1, .int .i64 (-1), .int .i64 0])).run Tryz.prog w = .ok true w := fun _ => by kernel_rfl
@[local go_sem] theorem eq_at40 : ∀ w, (Op.equalIn 10000 95 (.agg #[.int .i64 1, .int .i64 0, .int .i64 0, .int .i64 1]) (.agg #[.int .i64 (-1), .int .i64 0, .int .i64 0, .int .i64 1])).run Tryz.prog w = .ok false w := fun _ => by kernel_rfl
@[local go_sem] theorem eq_at41 : ∀ w, (Op.equalIn 10000 95 (.agg #[.int .i64 0, .int .i64 (-1), .int .i64 1, .int .i64 0]) (.agg #[.int .i64 (-1), .int .i64 0, .int .i64 0, .int .i64 1])).run Tryz.prog w = .ok false w := fun _ => by kernel_rfl
@[local go_sem] theorem eq_at42 : ∀ w, (Op.equalIn 10000 95 (.agg #[.int .i64 (-1), .int .i64 0, .int .i64 0, .int .i64 (-1)]) (.agg #[.int .i64 (-1), .int .i64 0, .int .i64 0, .int .i64 1])).run Tryz.prog w = .ok false w := fun _ => by kernel_rfl
@[local go_sem] theorem eq_at43 : ∀ w, (Op.equalIn 10000 95 (.agg #[.int .i64 0, .int .i64 1, .int .i64 (-1), .int .i64 0]) (.agg #[.int .i64 (-1), .int .i64 0, .int .i64 0, .int .i64 1])).run Tryz.prog w = .ok false w := fun _ => by kernel_rfl
@[local go_sem] theorem eq_at44 : ∀ w, (Op.equalIn 10000 95 (.agg #[.int .i64 (-1), .int .i64 0, .int .i64 0, .int .i64 1]) (.agg #[.int .i64 (-1), .int .i64 0, .int .i64 0, .int .i64 1])).run Tryz.prog w = .ok true w := fun _ => by kernel_rfl
@[local go_sem] theorem eq_at50 : ∀ w, (Op.equalIn 10000 95 (.agg #[.int .i64 1, .int .i64 0, .int .i64 0, .int .i64 1]) (.agg #[.int .i64 0, .int .i64 (-1), .int .i64 (-1), .int .i64 0])).run Tryz.prog w = .ok false w := fun _ => by kernel_rfl
@[local go_sem] theorem eq_at51 : ∀ w, (Op.equalIn 10000 95 (.agg #[.int .i64 0, .int .i64 (-1), .int .i64 1, .int .i64 0]) (.agg #[.int .i64 0, .int .i64 (-1), .int .i64 (-1), .int .i64 0])).run Tryz.prog w = .ok false w := fun _ => by kernel_rfl
@[local go_sem] theorem eq_at52 : ∀ w, (Op.equalIn 10000 95 (.agg #[.int .i64 (-1), .int .i64 0, .int .i64 0, .int .i64 (-1)]) (.agg #[.int .i64 0, .int .i64 (-1), .int .i64 (-1), .int .i64 0])).run Tryz.prog w = .ok false w := fun _ => by kernel_rfl
@[local go_sem] theorem eq_at53 : ∀ w, (Op.equalIn 10000 95 (.agg #[.int .i64 0, .int .i64 1, .int .i64 (-1), .int .i64 0]) (.agg #[.int .i64 0, .int .i64 (-1), .int .i64 (-1), .int .i64 0])).run Tryz.prog w = .ok false w := fun _ => by kernel_rfl
@[local go_sem] theorem eq_at54 : ∀ w, (Op.equalIn 10000 95 (.agg #[.int .i64 (-1), .int .i64 0, .int .i64 0, .int .i64 1]) (.agg #[.int .i64 0, .int .i64 (-1), .int .i64 (-1), .int .i64 0])).run Tryz.prog w = .ok false w := fun _ => by kernel_rfl
@[local go_sem] theorem eq_at55 : ∀ w, (Op.equalIn 10000 95 (.agg #[.int .i64 0, .int .i64 (-1), .int .i64 (-1), .int .i64 0]) (.agg #[.int .i64 0, .int .i64 (-1), .int .i64 (-1), .int .i64 0])).run Tryz.prog w = .ok true w := fun _ => by kernel_rfl
@[local go_sem] theorem eq_at60 : ∀ w, (Op.equalIn 10000 95 (.agg #[.int .i64 1, .int .i64 0, .int .i64 0, .int .i64 1]) (.agg #[.int .i64 1, .int .i64 0, .int .i64 0, .int .i64 (-1)])).run Tryz.prog w = .ok false w := fun _ => by kernel_rfl
@[local go_sem] theorem eq_at61 : ∀ w, (Op.equalIn 10000 95 (.agg #[.int .i64 0, .int .i64 (-1), .int .i64 1, .int .i64 0]) (.agg #[.int .i64 1, .int .i64 0, .int .i64 0, .int .i64 (-1)])).run Tryz.prog w = .ok false w := fun _ => by kernel_rfl
@[local go_sem] theorem eq_at62 : ∀ w, (Op.equalIn 10000 95 (.agg #[.int .i64 (-1), .int .i64 0, .int .i64 0, .int .i64 (-1)]) (.agg #[.int .i64 1, .int .i64 0, .int .i64 0, .int .i64 (-1)])).run Tryz.prog w = .ok false w := fun _ => by kernel_rfl
@[local go_sem] theorem eq_at63 : ∀ w, (Op.equalIn 10000 95 (.agg #[.int .i64 0, .int .i64 1, .int .i64 (-1), .int .i64 0]) (.agg #[.int .i64 1, .int .i64 0, .int .i64 0, .int .i64 (-1)])).run Tryz.prog w = .ok false w := fun _ => by kernel_rfl
@[local go_sem] theorem eq_at64 : ∀ w, (Op.equalIn 10000 95 (.agg #[.int .i64 (-1), .int .i64 0, .int .i64 0, .int .i64 1]) (.agg #[.int .i64 1, .int .i64 0, .int .i64 0, .int .i64 (-1)])).run Tryz.prog w = .ok false w := fun _ => by kernel_rfl
@[local go_sem] theorem eq_at65 : ∀ w, (Op.equalIn 10000 95 (.agg #[.int .i64 0, .int .i64 (-1), .int .i64 (-1), .int .i64 0]) (.agg #[.int .i64 1, .int .i64 0, .int .i64 0, .int .i64 (-1)])).run Tryz.prog w = .ok false w := fun _ => by kernel_rfl
@[local go_sem] theorem eq_at66 : ∀ w, (Op.equalIn 10000 95 (.agg #[.int .i64 1, .int .i64 0, .int .i64 0, .int .i64 (-1)]) (.agg #[.int .i64 1, .int .i64 0, .int .i64 0, .int .i64 (-1)])).run Tryz.prog w = .ok true w := fun _ => by kernel_rfl
@[local go_sem] theorem eq_at70 : ∀ w, (Op.equalIn 10000 95 (.agg #[.int .i64 1, .int .i64 0, .int .i64 0, .int .i64 1]) (.agg #[.int .i64 0, .int .i64 1, .int .i64 1, .int .i64 0])).run Tryz.prog w = .ok false w := fun _ => by kernel_rfl
@[local go_sem] theorem eq_at71 : ∀ w, (Op.equalIn 10000 95 (.agg #[.int .i64 0, .int .i64 (-1), .int .i64 1, .int .i64 0]) (.agg #[.int .i64 0, .int .i64 1, .int .i64 1, .int .i64 0])).run Tryz.prog w = .ok false w := fun _ => by kernel_rfl
@[local go_sem] theorem eq_at72 : ∀ w, (Op.equalIn 10000 95 (.agg #[.int .i64 (-1), .int .i64 0, .int .i64 0, .int .i64 (-1)]) (.agg #[.int .i64 0, .int .i64 1, .int .i64 1, .int .i64 0])).run Tryz.prog w = .ok false w := fun _ => by kernel_rfl
@[local go_sem] theorem eq_at73 : ∀ w, (Op.equalIn 10000 95 (.agg #[.int .i64 0, .int .i64 1, .int .i64 (-1), .int .i64 0]) (.agg #[.int .i64 0, .int .i64 1, .int .i64 1, .int .i64 0])).run Tryz.prog w = .ok false w := fun _ => by kernel_rfl
@[local go_sem] theorem eq_at74 : ∀ w, (Op.equalIn 10000 95 (.agg #[.int .i64 (-1), .int .i64 0, .int .i64 0, .int .i64 1]) (.agg #[.int .i64 0, .int .i64 1, .int .i64 1, .int .i64 0])).run Tryz.prog w = .ok false w := fun _ => by kernel_rfl
@[local go_sem] theorem eq_at75 : ∀ w, (Op.equalIn 10000 95 (.agg #[.int .i64 0, .int .i64 (-1), .int .i64 (-1), .int .i64 0]) (.agg #[.int .i64 0, .int .i64 1, .int .i64 1, .int .i64 0])).run Tryz.prog w = .ok false w := fun _ => by kernel_rfl
@[local go_sem] theorem eq_at76 : ∀ w, (Op.equalIn 10000 95 (.agg #[.int .i64 1, .int .i64 0, .int .i64 0, .int .i64 (-1)]) (.agg #[.int .i64 0, .int .i64 1, .int .i64 1, .int .i64 0])).run Tryz.prog w = .ok false w := fun _ => by kernel_rfl
@[local go_sem] theorem eq_at77 : ∀ w, (Op.equalIn 10000 95 (.agg #[.int .i64 0, .int .i64 1, .int .i64 1, .int .i64 0]) (.agg #[.int .i64 0, .int .i64 1, .int .i64 1, .int .i64 0])).run Tryz.prog w = .ok true w := fun _ => by kernel_rfl
attribute [local go_sem] row_at0 row_at1 row_at2 row_at3 row_at4 row_at5 row_at6 row_at7

set_option maxRecDepth 100000 in
set_option maxHeartbeats 4000000 in
theorem turnOf_0 (w : World) (hU : Turns w) : Calls Tryz.prog 57 #[.agg #[.int .i64 1, .int .i64 0, .int .i64 0, .int .i64 1]] w fun e w' => e = .returned (.int .u8 0) ∧ Below w.heap.size w w' := by
  have hg1 : ∀ o, ∀ j v, (#[.int .i64 1, .int .i64 0, .int .i64 0, .int .i64 1, .int .i64 0, .int .i64 (-1), .int .i64 1, .int .i64 0, .int .i64 (-1), .int .i64 0, .int .i64 0, .int .i64 (-1), .int .i64 0, .int .i64 1, .int .i64 (-1), .int .i64 0, .int .i64 (-1), .int .i64 0, .int .i64 0, .int .i64 1, .int .i64 0, .int .i64 (-1), .int .i64 (-1), .int .i64 0, .int .i64 1, .int .i64 0, .int .i64 0, .int .i64 (-1), .int .i64 0, .int .i64 1, .int .i64 1, .int .i64 0] : Array Value).toList[j]? = some v → (w.alloc o).cell? ⟨0, j, none⟩ = some v := fun o => turns_list (turns_below hU ((Below.refl _ _).alloc (Nat.le_refl _) o))
  go_enter Tryz.func57, Tryz.ntmps57
  go_wp2_with (refine wpList_load_cells rfl 96 _ rfl 0 rfl #[.int .i64 1, .int .i64 0, .int .i64 0, .int .i64 1, .int .i64 0, .int .i64 (-1), .int .i64 1, .int .i64 0, .int .i64 (-1), .int .i64 0, .int .i64 0, .int .i64 (-1), .int .i64 0, .int .i64 1, .int .i64 (-1), .int .i64 0, .int .i64 (-1), .int .i64 0, .int .i64 0, .int .i64 1, .int .i64 0, .int .i64 (-1), .int .i64 (-1), .int .i64 0, .int .i64 1, .int .i64 0, .int .i64 0, .int .i64 (-1), .int .i64 0, .int .i64 1, .int .i64 1, .int .i64 0] _ (hg1 _) Tryz.underlying96 rfl (by kernel_rfl) ?_)
  clear hg1
  go_loopw [6] (fun iv wr => ∃ i : Int, iv = .int .i64 i ∧ 0 ≤ i ∧ i ≤ 0 ∧ ∃ u : Later (w.alloc (.cells #[.int .i64 1, .int .i64 0, .int .i64 0, .int .i64 1] 95)), wr = on u) (fun iv _ => (0 - intOf iv).toNat)
  case atStart => exact ⟨0, rfl, by omega, by omega, ⟨_, Below.refl _ _⟩, rfl⟩
  case round =>
    obtain ⟨i, rfl, hi1, hi2, u0, rfl⟩ := hrel
    have c0 : ∀ o, ((on u0).alloc o).cell? ⟨w.heap.size, 0, none⟩ = some (.int .i64 (1)) := al1 (by simp [go_sem])
    have c1 : ∀ o, ((on u0).alloc o).cell? ⟨w.heap.size, 1, none⟩ = some (.int .i64 (0)) := al1 (by simp [go_sem])
    have c2 : ∀ o, ((on u0).alloc o).cell? ⟨w.heap.size, 2, none⟩ = some (.int .i64 (0)) := al1 (by simp [go_sem])
    have c3 : ∀ o, ((on u0).alloc o).cell? ⟨w.heap.size, 3, none⟩ = some (.int .i64 (1)) := al1 (by simp [go_sem])
    obtain rfl : i = 0 := by omega
    · go_wp2
      go_ret
      exact ⟨rfl, (by repeat first | (with_reducible exact Below.refl _ _) | (with_reducible refine below_on ?_ _) | (with_reducible refine below_alloc ?_ _) | (with_reducible refine below_set ?_ (by simp; try omega) _))⟩

set_option maxRecDepth 100000 in
set_option maxHeartbeats 4000000 in
theorem turnOf_1 (w : World) (hU : Turns w) : Calls Tryz.prog 57 #[.agg #[.int .i64 0, .int .i64 (-1), .int .i64 1, .int .i64 0]] w fun e w' => e = .returned (.int .u8 1) ∧ Below w.heap.size w w' := by
  have hg1 : ∀ o, ∀ j v, (#[.int .i64 1, .int .i64 0, .int .i64 0, .int .i64 1, .int .i64 0, .int .i64 (-1), .int .i64 1, .int .i64 0, .int .i64 (-1), .int .i64 0, .int .i64 0, .int .i64 (-1), .int .i64 0, .int .i64 1, .int .i64 (-1), .int .i64 0, .int .i64 (-1), .int .i64 0, .int .i64 0, .int .i64 1, .int .i64 0, .int .i64 (-1), .int .i64 (-1), .int .i64 0, .int .i64 1, .int .i64 0, .int .i64 0, .int .i64 (-1), .int .i64 0, .int .i64 1, .int .i64 1, .int .i64 0] : Array Value).toList[j]? = some v → (w.alloc o).cell? ⟨0, j, none⟩ = some v := fun o => turns_list (turns_below hU ((Below.refl _ _).alloc (Nat.le_refl _) o))
  go_enter Tryz.func57, Tryz.ntmps57
  go_wp2_with (refine wpList_load_cells rfl 96 _ rfl 0 rfl #[.int .i64 1, .int .i64 0, .int .i64 0, .int .i64 1, .int .i64 0, .int .i64 (-1), .int .i64 1, .int .i64 0, .int .i64 (-1), .int .i64 0, .int .i64 0, .int .i64 (-1), .int .i64 0, .int .i64 1, .int .i64 (-1), .int .i64 0, .int .i64 (-1), .int .i64 0, .int .i64 0, .int .i64 1, .int .i64 0, .int .i64 (-1), .int .i64 (-1), .int .i64 0, .int .i64 1, .int .i64 0, .int .i64 0, .int .i64 (-1), .int .i64 0, .int .i64 1, .int .i64 1, .int .i64 0] _ (hg1 _) Tryz.underlying96 rfl (by kernel_rfl) ?_)
  clear hg1
  go_loopw [6] (fun iv wr => ∃ i : Int, iv = .int .i64 i ∧ 0 ≤ i ∧ i ≤ 1 ∧ ∃ u : Later (w.alloc (.cells #[.int .i64 0, .int .i64 (-1), .int .i64 1, .int .i64 0] 95)), wr = on u) (fun iv _ => (1 - intOf iv).toNat)
  case atStart => exact ⟨0, rfl, by omega, by omega, ⟨_, Below.refl _ _⟩, rfl⟩
  case round =>
    obtain ⟨i, rfl, hi1, hi2, u0, rfl⟩ := hrel
    have c0 : ∀ o, ((on u0).alloc o).cell? ⟨w.heap.size, 0, none⟩ = some (.int .i64 (0)) := al1 (by simp [go_sem])
    have c1 : ∀ o, ((on u0).alloc o).cell? ⟨w.heap.size, 1, none⟩ = some (.int .i64 (-1)) := al1 (by simp [go_sem])
    have c2 : ∀ o, ((on u0).alloc o).cell? ⟨w.heap.size, 2, none⟩ = some (.int .i64 (1)) := al1 (by simp [go_sem])
    have c3 : ∀ o, ((on u0).alloc o).cell? ⟨w.heap.size, 3, none⟩ = some (.int .i64 (0)) := al1 (by simp [go_sem])
    obtain rfl | rfl : i = 0 ∨ i = 1 := by omega
    · go_wp2
      go_roundw
      case rel => exact ⟨0 + 1, rfl, by omega, by omega, after (by repeat first | (with_reducible exact Below.refl _ _) | (with_reducible refine below_on ?_ _) | (with_reducible refine below_alloc ?_ _))⟩
      case measure => simp [intOf]
    · go_wp2
      go_ret
      exact ⟨rfl, (by repeat first | (with_reducible exact Below.refl _ _) | (with_reducible refine below_on ?_ _) | (with_reducible refine below_alloc ?_ _) | (with_reducible refine below_set ?_ (by simp; try omega) _))⟩

set_option maxRecDepth 100000 in
set_option maxHeartbeats 4000000 in
theorem turnOf_2 (w : World) (hU : Turns w) : Calls Tryz.prog 57 #[.agg #[.int .i64 (-1), .int .i64 0, .int .i64 0, .int .i64 (-1)]] w fun e w' => e = .returned (.int .u8 2) ∧ Below w.heap.size w w' := by
  have hg1 : ∀ o, ∀ j v, (#[.int .i64 1, .int .i64 0, .int .i64 0, .int .i64 1, .int .i64 0, .int .i64 (-1), .int .i64 1, .int .i64 0, .int .i64 (-1), .int .i64 0, .int .i64 0, .int .i64 (-1), .int .i64 0, .int .i64 1, .int .i64 (-1), .int .i64 0, .int .i64 (-1), .int .i64 0, .int .i64 0, .int .i64 1, .int .i64 0, .int .i64 (-1), .int .i64 (-1), .int .i64 0, .int .i64 1, .int .i64 0, .int .i64 0, .int .i64 (-1), .int .i64 0, .int .i64 1, .int .i64 1, .int .i64 0] : Array Value).toList[j]? = some v → (w.alloc o).cell? ⟨0, j, none⟩ = some v := fun o => turns_list (turns_below hU ((Below.refl _ _).alloc (Nat.le_refl _) o))
  go_enter Tryz.func57, Tryz.ntmps57
  go_wp2_with (refine wpList_load_cells rfl 96 _ rfl 0 rfl #[.int .i64 1, .int .i64 0, .int .i64 0, .int .i64 1, .int .i64 0, .int .i64 (-1), .int .i64 1, .int .i64 0, .int .i64 (-1), .int .i64 0, .int .i64 0, .int .i64 (-1), .int .i64 0, .int .i64 1, .int .i64 (-1), .int .i64 0, .int .i64 (-1), .int .i64 0, .int .i64 0, .int .i64 1, .int .i64 0, .int .i64 (-1), .int .i64 (-1), .int .i64 0, .int .i64 1, .int .i64 0, .int .i64 0, .int .i64 (-1), .int .i64 0, .int .i64 1, .int .i64 1, .int .i64 0] _ (hg1 _) Tryz.underlying96 rfl (by kernel_rfl) ?_)
  clear hg1
  go_loopw [6] (fun iv wr => ∃ i : Int, iv = .int .i64 i ∧ 0 ≤ i ∧ i ≤ 2 ∧ ∃ u : Later (w.alloc (.cells #[.int .i64 (-1), .int .i64 0, .int .i64 0, .int .i64 (-1)] 95)), wr = on u) (fun iv _ => (2 - intOf iv).toNat)
  case atStart => exact ⟨0, rfl, by omega, by omega, ⟨_, Below.refl _ _⟩, rfl⟩
  case round =>
    obtain ⟨i, rfl, hi1, hi2, u0, rfl⟩ := hrel
    have c0 : ∀ o, ((on u0).alloc o).cell? ⟨w.heap.size, 0, none⟩ = some (.int .i64 (-1)) := al1 (by simp [go_sem])
    have c1 : ∀ o, ((on u0).alloc o).cell? ⟨w.heap.size, 1, none⟩ = some (.int .i64 (0)) := al1 (by simp [go_sem])
    have c2 : ∀ o, ((on u0).alloc o).cell? ⟨w.heap.size, 2, none⟩ = some (.int .i64 (0)) := al1 (by simp [go_sem])
    have c3 : ∀ o, ((on u0).alloc o).cell? ⟨w.heap.size, 3, none⟩ = some (.int .i64 (-1)) := al1 (by simp [go_sem])
    obtain rfl | rfl | rfl : i = 0 ∨ i = 1 ∨ i = 2 := by omega
    · go_wp2
      go_roundw
      case rel => exact ⟨0 + 1, rfl, by omega, by omega, after (by repeat first | (with_reducible exact Below.refl _ _) | (with_reducible refine below_on ?_ _) | (with_reducible refine below_alloc ?_ _))⟩
      case measure => simp [intOf]
    · go_wp2
      go_roundw
      case rel => exact ⟨1 + 1, rfl, by omega, by omega, after (by repeat first | (with_reducible exact Below.refl _ _) | (with_reducible refine below_on ?_ _) | (with_reducible refine below_alloc ?_ _))⟩
      case measure => simp [intOf]
    · go_wp2
      go_ret
      exact ⟨rfl, (by repeat first | (with_reducible exact Below.refl _ _) | (with_reducible refine below_on ?_ _) | (with_reducible refine below_alloc ?_ _) | (with_reducible refine below_set ?_ (by simp; try omega) _))⟩

set_option maxRecDepth 100000 in
set_option maxHeartbeats 4000000 in
theorem turnOf_3 (w : World) (hU : Turns w) : Calls Tryz.prog 57 #[.agg #[.int .i64 0, .int .i64 1, .int .i64 (-1), .int .i64 0]] w fun e w' => e = .returned (.int .u8 3) ∧ Below w.heap.size w w' := by
  have hg1 : ∀ o, ∀ j v, (#[.int .i64 1, .int .i64 0, .int .i64 0, .int .i64 1, .int .i64 0, .int .i64 (-1), .int .i64 1, .int .i64 0, .int .i64 (-1), .int .i64 0, .int .i64 0, .int .i64 (-1), .int .i64 0, .int .i64 1, .int .i64 (-1), .int .i64 0, .int .i64 (-1), .int .i64 0, .int .i64 0, .int .i64 1, .int .i64 0, .int .i64 (-1), .int .i64 (-1), .int .i64 0, .int .i64 1, .int .i64 0, .int .i64 0, .int .i64 (-1), .int .i64 0, .int .i64 1, .int .i64 1, .int .i64 0] : Array Value).toList[j]? = some v → (w.alloc o).cell? ⟨0, j, none⟩ = some v := fun o => turns_list (turns_below hU ((Below.refl _ _).alloc (Nat.le_refl _) o))
  go_enter Tryz.func57, Tryz.ntmps57
  go_wp2_with (refine wpList_load_cells rfl 96 _ rfl 0 rfl #[.int .i64 1, .int .i64 0, .int .i64 0, .int .i64 1, .int .i64 0, .int .i64 (-1), .int .i64 1, .int .i64 0, .int .i64 (-1), .int .i64 0, .int .i64 0, .int .i64 (-1), .int .i64 0, .int .i64 1, .int .i64 (-1), .int .i64 0, .int .i64 (-1), .int .i64 0, .int .i64 0, .int .i64 1, .int .i64 0, .int .i64 (-1), .int .i64 (-1), .int .i64 0, .int .i64 1, .int .i64 0, .int .i64 0, .int .i64 (-1), .int .i64 0, .int .i64 1, .int .i64 1, .int .i64 0] _ (hg1 _) Tryz.underlying96 rfl (by kernel_rfl) ?_)
  clear hg1
  go_loopw [6] (fun iv wr => ∃ i : Int, iv = .int .i64 i ∧ 0 ≤ i ∧ i ≤ 3 ∧ ∃ u : Later (w.alloc (.cells #[.int .i64 0, .int .i64 1, .int .i64 (-1), .int .i64 0] 95)), wr = on u) (fun iv _ => (3 - intOf iv).toNat)
  case atStart => exact ⟨0, rfl, by omega, by omega, ⟨_, Below.refl _ _⟩, rfl⟩
  case round =>
    obtain ⟨i, rfl, hi1, hi2, u0, rfl⟩ := hrel
    have c0 : ∀ o, ((on u0).alloc o).cell? ⟨w.heap.size, 0, none⟩ = some (.int .i64 (0)) := al1 (by simp [go_sem])
    have c1 : ∀ o, ((on u0).alloc o).cell? ⟨w.heap.size, 1, none⟩ = some (.int .i64 (1)) := al1 (by simp [go_sem])
    have c2 : ∀ o, ((on u0).alloc o).cell? ⟨w.heap.size, 2, none⟩ = some (.int .i64 (-1)) := al1 (by simp [go_sem])
    have c3 : ∀ o, ((on u0).alloc o).cell? ⟨w.heap.size, 3, none⟩ = some (.int .i64 (0)) := al1 (by simp [go_sem])
    obtain rfl | rfl | rfl | rfl : i = 0 ∨ i = 1 ∨ i = 2 ∨ i = 3 := by omega
    · go_wp2
      go_roundw
      case rel => exact ⟨0 + 1, rfl, by omega, by omega, after (by repeat first | (with_reducible exact Below.refl _ _) | (with_reducible refine below_on ?_ _) | (with_reducible refine below_alloc ?_ _))⟩
      case measure => simp [intOf]
    · go_wp2
      go_roundw
      case rel => exact ⟨1 + 1, rfl, by omega, by omega, after (by repeat first | (with_reducible exact Below.refl _ _) | (with_reducible refine below_on ?_ _) | (with_reducible refine below_alloc ?_ _))⟩
      case measure => simp [intOf]
    · go_wp2
      go_roundw
      case rel => exact ⟨2 + 1, rfl, by omega, by omega, after (by repeat first | (with_reducible exact Below.refl _ _) | (with_reducible refine below_on ?_ _) | (with_reducible refine below_alloc ?_ _))⟩
      case measure => simp [intOf]
    · go_wp2
      go_ret
      exact ⟨rfl, (by repeat first | (with_reducible exact Below.refl _ _) | (with_reducible refine below_on ?_ _) | (with_reducible refine below_alloc ?_ _) | (with_reducible refine below_set ?_ (by simp; try omega) _))⟩

set_option maxRecDepth 100000 in
set_option maxHeartbeats 4000000 in
theorem turnOf_4 (w : World) (hU : Turns w) : Calls Tryz.prog 57 #[.agg #[.int .i64 (-1), .int .i64 0, .int .i64 0, .int .i64 1]] w fun e w' => e = .returned (.int .u8 4) ∧ Below w.heap.size w w' := by
  have hg1 : ∀ o, ∀ j v, (#[.int .i64 1, .int .i64 0, .int .i64 0, .int .i64 1, .int .i64 0, .int .i64 (-1), .int .i64 1, .int .i64 0, .int .i64 (-1), .int .i64 0, .int .i64 0, .int .i64 (-1), .int .i64 0, .int .i64 1, .int .i64 (-1), .int .i64 0, .int .i64 (-1), .int .i64 0, .int .i64 0, .int .i64 1, .int .i64 0, .int .i64 (-1), .int .i64 (-1), .int .i64 0, .int .i64 1, .int .i64 0, .int .i64 0, .int .i64 (-1), .int .i64 0, .int .i64 1, .int .i64 1, .int .i64 0] : Array Value).toList[j]? = some v → (w.alloc o).cell? ⟨0, j, none⟩ = some v := fun o => turns_list (turns_below hU ((Below.refl _ _).alloc (Nat.le_refl _) o))
  go_enter Tryz.func57, Tryz.ntmps57
  go_wp2_with (refine wpList_load_cells rfl 96 _ rfl 0 rfl #[.int .i64 1, .int .i64 0, .int .i64 0, .int .i64 1, .int .i64 0, .int .i64 (-1), .int .i64 1, .int .i64 0, .int .i64 (-1), .int .i64 0, .int .i64 0, .int .i64 (-1), .int .i64 0, .int .i64 1, .int .i64 (-1), .int .i64 0, .int .i64 (-1), .int .i64 0, .int .i64 0, .int .i64 1, .int .i64 0, .int .i64 (-1), .int .i64 (-1), .int .i64 0, .int .i64 1, .int .i64 0, .int .i64 0, .int .i64 (-1), .int .i64 0, .int .i64 1, .int .i64 1, .int .i64 0] _ (hg1 _) Tryz.underlying96 rfl (by kernel_rfl) ?_)
  clear hg1
  go_loopw [6] (fun iv wr => ∃ i : Int, iv = .int .i64 i ∧ 0 ≤ i ∧ i ≤ 4 ∧ ∃ u : Later (w.alloc (.cells #[.int .i64 (-1), .int .i64 0, .int .i64 0, .int .i64 1] 95)), wr = on u) (fun iv _ => (4 - intOf iv).toNat)
  case atStart => exact ⟨0, rfl, by omega, by omega, ⟨_, Below.refl _ _⟩, rfl⟩
  case round =>
    obtain ⟨i, rfl, hi1, hi2, u0, rfl⟩ := hrel
    have c0 : ∀ o, ((on u0).alloc o).cell? ⟨w.heap.size, 0, none⟩ = some (.int .i64 (-1)) := al1 (by simp [go_sem])
    have c1 : ∀ o, ((on u0).alloc o).cell? ⟨w.heap.size, 1, none⟩ = some (.int .i64 (0)) := al1 (by simp [go_sem])
    have c2 : ∀ o, ((on u0).alloc o).cell? ⟨w.heap.size, 2, none⟩ = some (.int .i64 (0)) := al1 (by simp [go_sem])
    have c3 : ∀ o, ((on u0).alloc o).cell? ⟨w.heap.size, 3, none⟩ = some (.int .i64 (1)) := al1 (by simp [go_sem])
    obtain rfl | rfl | rfl | rfl | rfl : i = 0 ∨ i = 1 ∨ i = 2 ∨ i = 3 ∨ i = 4 := by omega
    · go_wp2
      go_roundw
      case rel => exact ⟨0 + 1, rfl, by omega, by omega, after (by repeat first | (with_reducible exact Below.refl _ _) | (with_reducible refine below_on ?_ _) | (with_reducible refine below_alloc ?_ _))⟩
      case measure => simp [intOf]
    · go_wp2
      go_roundw
      case rel => exact ⟨1 + 1, rfl, by omega, by omega, after (by repeat first | (with_reducible exact Below.refl _ _) | (with_reducible refine below_on ?_ _) | (with_reducible refine below_alloc ?_ _))⟩
      case measure => simp [intOf]
    · go_wp2
      go_roundw
      case rel => exact ⟨2 + 1, rfl, by omega, by omega, after (by repeat first | (with_reducible exact Below.refl _ _) | (with_reducible refine below_on ?_ _) | (with_reducible refine below_alloc ?_ _))⟩
      case measure => simp [intOf]
    · go_wp2
      go_roundw
      case rel => exact ⟨3 + 1, rfl, by omega, by omega, after (by repeat first | (with_reducible exact Below.refl _ _) | (with_reducible refine below_on ?_ _) | (with_reducible refine below_alloc ?_ _))⟩
      case measure => simp [intOf]
    · go_wp2
      go_ret
      exact ⟨rfl, (by repeat first | (with_reducible exact Below.refl _ _) | (with_reducible refine below_on ?_ _) | (with_reducible refine below_alloc ?_ _) | (with_reducible refine below_set ?_ (by simp; try omega) _))⟩

set_option maxRecDepth 100000 in
set_option maxHeartbeats 4000000 in
theorem turnOf_5 (w : World) (hU : Turns w) : Calls Tryz.prog 57 #[.agg #[.int .i64 0, .int .i64 (-1), .int .i64 (-1), .int .i64 0]] w fun e w' => e = .returned (.int .u8 5) ∧ Below w.heap.size w w' := by
  have hg1 : ∀ o, ∀ j v, (#[.int .i64 1, .int .i64 0, .int .i64 0, .int .i64 1, .int .i64 0, .int .i64 (-1), .int .i64 1, .int .i64 0, .int .i64 (-1), .int .i64 0, .int .i64 0, .int .i64 (-1), .int .i64 0, .int .i64 1, .int .i64 (-1), .int .i64 0, .int .i64 (-1), .int .i64 0, .int .i64 0, .int .i64 1, .int .i64 0, .int .i64 (-1), .int .i64 (-1), .int .i64 0, .int .i64 1, .int .i64 0, .int .i64 0, .int .i64 (-1), .int .i64 0, .int .i64 1, .int .i64 1, .int .i64 0] : Array Value).toList[j]? = some v → (w.alloc o).cell? ⟨0, j, none⟩ = some v := fun o => turns_list (turns_below hU ((Below.refl _ _).alloc (Nat.le_refl _) o))
  go_enter Tryz.func57, Tryz.ntmps57
  go_wp2_with (refine wpList_load_cells rfl 96 _ rfl 0 rfl #[.int .i64 1, .int .i64 0, .int .i64 0, .int .i64 1, .int .i64 0, .int .i64 (-1), .int .i64 1, .int .i64 0, .int .i64 (-1), .int .i64 0, .int .i64 0, .int .i64 (-1), .int .i64 0, .int .i64 1, .int .i64 (-1), .int .i64 0, .int .i64 (-1), .int .i64 0, .int .i64 0, .int .i64 1, .int .i64 0, .int .i64 (-1), .int .i64 (-1), .int .i64 0, .int .i64 1, .int .i64 0, .int .i64 0, .int .i64 (-1), .int .i64 0, .int .i64 1, .int .i64 1, .int .i64 0] _ (hg1 _) Tryz.underlying96 rfl (by kernel_rfl) ?_)
  clear hg1
  go_loopw [6] (fun iv wr => ∃ i : Int, iv = .int .i64 i ∧ 0 ≤ i ∧ i ≤ 5 ∧ ∃ u : Later (w.alloc (.cells #[.int .i64 0, .int .i64 (-1), .int .i64 (-1), .int .i64 0] 95)), wr = on u) (fun iv _ => (5 - intOf iv).toNat)
  case atStart => exact ⟨0, rfl, by omega, by omega, ⟨_, Below.refl _ _⟩, rfl⟩
  case round =>
    obtain ⟨i, rfl, hi1, hi2, u0, rfl⟩ := hrel
    have c0 : ∀ o, ((on u0).alloc o).cell? ⟨w.heap.size, 0, none⟩ = some (.int .i64 (0)) := al1 (by simp [go_sem])
    have c1 : ∀ o, ((on u0).alloc o).cell? ⟨w.heap.size, 1, none⟩ = some (.int .i64 (-1)) := al1 (by simp [go_sem])
    have c2 : ∀ o, ((on u0).alloc o).cell? ⟨w.heap.size, 2, none⟩ = some (.int .i64 (-1)) := al1 (by simp [go_sem])
    have c3 : ∀ o, ((on u0).alloc o).cell? ⟨w.heap.size, 3, none⟩ = some (.int .i64 (0)) := al1 (by simp [go_sem])
    obtain rfl | rfl | rfl | rfl | rfl | rfl : i = 0 ∨ i = 1 ∨ i = 2 ∨ i = 3 ∨ i = 4 ∨ i = 5 := by omega
    · go_wp2
      go_roundw
      case rel => exact ⟨0 + 1, rfl, by omega, by omega, after (by repeat first | (with_reducible exact Below.refl _ _) | (with_reducible refine below_on ?_ _) | (with_reducible refine below_alloc ?_ _))⟩
      case measure => simp [intOf]
    · go_wp2
      go_roundw
      case rel => exact ⟨1 + 1, rfl, by omega, by omega, after (by repeat first | (with_reducible exact Below.refl _ _) | (with_reducible refine below_on ?_ _) | (with_reducible refine below_alloc ?_ _))⟩
      case measure => simp [intOf]
    · go_wp2
      go_roundw
      case rel => exact ⟨2 + 1, rfl, by omega, by omega, after (by repeat first | (with_reducible exact Below.refl _ _) | (with_reducible refine below_on ?_ _) | (with_reducible refine below_alloc ?_ _))⟩
      case measure => simp [intOf]
    · go_wp2
      go_roundw
      case rel => exact ⟨3 + 1, rfl, by omega, by omega, after (by repeat first | (with_reducible exact Below.refl _ _) | (with_reducible refine below_on ?_ _) | (with_reducible refine below_alloc ?_ _))⟩
      case measure => simp [intOf]
    · go_wp2
      go_roundw
      case rel => exact ⟨4 + 1, rfl, by omega, by omega, after (by repeat first | (with_reducible exact Below.refl _ _) | (with_reducible refine below_on ?_ _) | (with_reducible refine below_alloc ?_ _))⟩
      case measure => simp [intOf]
    · go_wp2
      go_ret
      exact ⟨rfl, (by repeat first | (with_reducible exact Below.refl _ _) | (with_reducible refine below_on ?_ _) | (with_reducible refine below_alloc ?_ _) | (with_reducible refine below_set ?_ (by simp; try omega) _))⟩

set_option maxRecDepth 100000 in
set_option maxHeartbeats 4000000 in
theorem turnOf_6 (w : World) (hU : Turns w) : Calls Tryz.prog 57 #[.agg #[.int .i64 1, .int .i64 0, .int .i64 0, .int .i64 (-1)]] w fun e w' => e = .returned (.int .u8 6) ∧ Below w.heap.size w w' := by
  have hg1 : ∀ o, ∀ j v, (#[.int .i64 1, .int .i64 0, .int .i64 0, .int .i64 1, .int .i64 0, .int .i64 (-1), .int .i64 1, .int .i64 0, .int .i64 (-1), .int .i64 0, .int .i64 0, .int .i64 (-1), .int .i64 0, .int .i64 1, .int .i64 (-1), .int .i64 0, .int .i64 (-1), .int .i64 0, .int .i64 0, .int .i64 1, .int .i64 0, .int .i64 (-1), .int .i64 (-1), .int .i64 0, .int .i64 1, .int .i64 0, .int .i64 0, .int .i64 (-1), .int .i64 0, .int .i64 1, .int .i64 1, .int .i64 0] : Array Value).toList[j]? = some v → (w.alloc o).cell? ⟨0, j, none⟩ = some v := fun o => turns_list (turns_below hU ((Below.refl _ _).alloc (Nat.le_refl _) o))
  go_enter Tryz.func57, Tryz.ntmps57
  go_wp2_with (refine wpList_load_cells rfl 96 _ rfl 0 rfl #[.int .i64 1, .int .i64 0, .int .i64 0, .int .i64 1, .int .i64 0, .int .i64 (-1), .int .i64 1, .int .i64 0, .int .i64 (-1), .int .i64 0, .int .i64 0, .int .i64 (-1), .int .i64 0, .int .i64 1, .int .i64 (-1), .int .i64 0, .int .i64 (-1), .int .i64 0, .int .i64 0, .int .i64 1, .int .i64 0, .int .i64 (-1), .int .i64 (-1), .int .i64 0, .int .i64 1, .int .i64 0, .int .i64 0, .int .i64 (-1), .int .i64 0, .int .i64 1, .int .i64 1, .int .i64 0] _ (hg1 _) Tryz.underlying96 rfl (by kernel_rfl) ?_)
  clear hg1
  go_loopw [6] (fun iv wr => ∃ i : Int, iv = .int .i64 i ∧ 0 ≤ i ∧ i ≤ 6 ∧ ∃ u : Later (w.alloc (.cells #[.int .i64 1, .int .i64 0, .int .i64 0, .int .i64 (-1)] 95)), wr = on u) (fun iv _ => (6 - intOf iv).toNat)
  case atStart => exact ⟨0, rfl, by omega, by omega, ⟨_, Below.refl _ _⟩, rfl⟩
  case round =>
    obtain ⟨i, rfl, hi1, hi2, u0, rfl⟩ := hrel
    have c0 : ∀ o, ((on u0).alloc o).cell? ⟨w.heap.size, 0, none⟩ = some (.int .i64 (1)) := al1 (by simp [go_sem])
    have c1 : ∀ o, ((on u0).alloc o).cell? ⟨w.heap.size, 1, none⟩ = some (.int .i64 (0)) := al1 (by simp [go_sem])
    have c2 : ∀ o, ((on u0).alloc o).cell? ⟨w.heap.size, 2, none⟩ = some (.int .i64 (0)) := al1 (by simp [go_sem])
    have c3 : ∀ o, ((on u0).alloc o).cell? ⟨w.heap.size, 3, none⟩ = some (.int .i64 (-1)) := al1 (by simp [go_sem])
    obtain rfl | rfl | rfl | rfl | rfl | rfl | rfl : i = 0 ∨ i = 1 ∨ i = 2 ∨ i = 3 ∨ i = 4 ∨ i = 5 ∨ i = 6 := by omega
    · go_wp2
      go_roundw
      case rel => exact ⟨0 + 1, rfl, by omega, by omega, after (by repeat first | (with_reducible exact Below.refl _ _) | (with_reducible refine below_on ?_ _) | (with_reducible refine below_alloc ?_ _))⟩
      case measure => simp [intOf]
    · go_wp2
      go_roundw
      case rel => exact ⟨1 + 1, rfl, by omega, by omega, after (by repeat first | (with_reducible exact Below.refl _ _) | (with_reducible refine below_on ?_ _) | (with_reducible refine below_alloc ?_ _))⟩
      case measure => simp [intOf]
    · go_wp2
      go_roundw
      case rel => exact ⟨2 + 1, rfl, by omega, by omega, after (by repeat first | (with_reducible exact Below.refl _ _) | (with_reducible refine below_on ?_ _) | (with_reducible refine below_alloc ?_ _))⟩
      case measure => simp [intOf]
    · go_wp2
      go_roundw
      case rel => exact ⟨3 + 1, rfl, by omega, by omega, after (by repeat first | (with_reducible exact Below.refl _ _) | (with_reducible refine below_on ?_ _) | (with_reducible refine below_alloc ?_ _))⟩
      case measure => simp [intOf]
    · go_wp2
      go_roundw
      case rel => exact ⟨4 + 1, rfl, by omega, by omega, after (by repeat first | (with_reducible exact Below.refl _ _) | (with_reducible refine below_on ?_ _) | (with_reducible refine below_alloc ?_ _))⟩
      case measure => simp [intOf]
    · go_wp2
      go_roundw
      case rel => exact ⟨5 + 1, rfl, by omega, by omega, after (by repeat first | (with_reducible exact Below.refl _ _) | (with_reducible refine below_on ?_ _) | (with_reducible refine below_alloc ?_ _))⟩
      case measure => simp [intOf]
    · go_wp2
      go_ret
      exact ⟨rfl, (by repeat first | (with_reducible exact Below.refl _ _) | (with_reducible refine below_on ?_ _) | (with_reducible refine below_alloc ?_ _) | (with_reducible refine below_set ?_ (by simp; try omega) _))⟩

set_option maxRecDepth 100000 in
set_option maxHeartbeats 4000000 in
theorem turnOf_7 (w : World) (hU : Turns w) : Calls Tryz.prog 57 #[.agg #[.int .i64 0, .int .i64 1, .int .i64 1, .int .i64 0]] w fun e w' => e = .returned (.int .u8 7) ∧ Below w.heap.size w w' := by
  have hg1 : ∀ o, ∀ j v, (#[.int .i64 1, .int .i64 0, .int .i64 0, .int .i64 1, .int .i64 0, .int .i64 (-1), .int .i64 1, .int .i64 0, .int .i64 (-1), .int .i64 0, .int .i64 0, .int .i64 (-1), .int .i64 0, .int .i64 1, .int .i64 (-1), .int .i64 0, .int .i64 (-1), .int .i64 0, .int .i64 0, .int .i64 1, .int .i64 0, .int .i64 (-1), .int .i64 (-1), .int .i64 0, .int .i64 1, .int .i64 0, .int .i64 0, .int .i64 (-1), .int .i64 0, .int .i64 1, .int .i64 1, .int .i64 0] : Array Value).toList[j]? = some v → (w.alloc o).cell? ⟨0, j, none⟩ = some v := fun o => turns_list (turns_below hU ((Below.refl _ _).alloc (Nat.le_refl _) o))
  go_enter Tryz.func57, Tryz.ntmps57
  go_wp2_with (refine wpList_load_cells rfl 96 _ rfl 0 rfl #[.int .i64 1, .int .i64 0, .int .i64 0, .int .i64 1, .int .i64 0, .int .i64 (-1), .int .i64 1, .int .i64 0, .int .i64 (-1), .int .i64 0, .int .i64 0, .int .i64 (-1), .int .i64 0, .int .i64 1, .int .i64 (-1), .int .i64 0, .int .i64 (-1), .int .i64 0, .int .i64 0, .int .i64 1, .int .i64 0, .int .i64 (-1), .int .i64 (-1), .int .i64 0, .int .i64 1, .int .i64 0, .int .i64 0, .int .i64 (-1), .int .i64 0, .int .i64 1, .int .i64 1, .int .i64 0] _ (hg1 _) Tryz.underlying96 rfl (by kernel_rfl) ?_)
  clear hg1
  go_loopw [6] (fun iv wr => ∃ i : Int, iv = .int .i64 i ∧ 0 ≤ i ∧ i ≤ 7 ∧ ∃ u : Later (w.alloc (.cells #[.int .i64 0, .int .i64 1, .int .i64 1, .int .i64 0] 95)), wr = on u) (fun iv _ => (7 - intOf iv).toNat)
  case atStart => exact ⟨0, rfl, by omega, by omega, ⟨_, Below.refl _ _⟩, rfl⟩
  case round =>
    obtain ⟨i, rfl, hi1, hi2, u0, rfl⟩ := hrel
    have c0 : ∀ o, ((on u0).alloc o).cell? ⟨w.heap.size, 0, none⟩ = some (.int .i64 (0)) := al1 (by simp [go_sem])
    have c1 : ∀ o, ((on u0).alloc o).cell? ⟨w.heap.size, 1, none⟩ = some (.int .i64 (1)) := al1 (by simp [go_sem])
    have c2 : ∀ o, ((on u0).alloc o).cell? ⟨w.heap.size, 2, none⟩ = some (.int .i64 (1)) := al1 (by simp [go_sem])
    have c3 : ∀ o, ((on u0).alloc o).cell? ⟨w.heap.size, 3, none⟩ = some (.int .i64 (0)) := al1 (by simp [go_sem])
    obtain rfl | rfl | rfl | rfl | rfl | rfl | rfl | rfl : i = 0 ∨ i = 1 ∨ i = 2 ∨ i = 3 ∨ i = 4 ∨ i = 5 ∨ i = 6 ∨ i = 7 := by omega
    · go_wp2
      go_roundw
      case rel => exact ⟨0 + 1, rfl, by omega, by omega, after (by repeat first | (with_reducible exact Below.refl _ _) | (with_reducible refine below_on ?_ _) | (with_reducible refine below_alloc ?_ _))⟩
      case measure => simp [intOf]
    · go_wp2
      go_roundw
      case rel => exact ⟨1 + 1, rfl, by omega, by omega, after (by repeat first | (with_reducible exact Below.refl _ _) | (with_reducible refine below_on ?_ _) | (with_reducible refine below_alloc ?_ _))⟩
      case measure => simp [intOf]
    · go_wp2
      go_roundw
      case rel => exact ⟨2 + 1, rfl, by omega, by omega, after (by repeat first | (with_reducible exact Below.refl _ _) | (with_reducible refine below_on ?_ _) | (with_reducible refine below_alloc ?_ _))⟩
      case measure => simp [intOf]
    · go_wp2
      go_roundw
      case rel => exact ⟨3 + 1, rfl, by omega, by omega, after (by repeat first | (with_reducible exact Below.refl _ _) | (with_reducible refine below_on ?_ _) | (with_reducible refine below_alloc ?_ _))⟩
      case measure => simp [intOf]
    · go_wp2
      go_roundw
      case rel => exact ⟨4 + 1, rfl, by omega, by omega, after (by repeat first | (with_reducible exact Below.refl _ _) | (with_reducible refine below_on ?_ _) | (with_reducible refine below_alloc ?_ _))⟩
      case measure => simp [intOf]
    · go_wp2
      go_roundw
      case rel => exact ⟨5 + 1, rfl, by omega, by omega, after (by repeat first | (with_reducible exact Below.refl _ _) | (with_reducible refine below_on ?_ _) | (with_reducible refine below_alloc ?_ _))⟩
      case measure => simp [intOf]
    · go_wp2
      go_roundw
      case rel => exact ⟨6 + 1, rfl, by omega, by omega, after (by repeat first | (with_reducible exact Below.refl _ _) | (with_reducible refine below_on ?_ _) | (with_reducible refine below_alloc ?_ _))⟩
      case measure => simp [intOf]
    · go_wp2
      go_ret
      exact ⟨rfl, (by repeat first | (with_reducible exact Below.refl _ _) | (with_reducible refine below_on ?_ _) | (with_reducible refine below_alloc ?_ _) | (with_reducible refine below_set ?_ (by simp; try omega) _))⟩

/-- The turn whose factors these are. -/
theorem turnOf_any (r : Int) (w : World) (hU : Turns w) (a1 : 0 ≤ r) (a2 : r ≤ 7) : Calls Tryz.prog 57 #[.agg #[.int .i64 (mvx r 1 0), .int .i64 (mvx r 0 1), .int .i64 (mvy r 1 0), .int .i64 (mvy r 0 1)]] w fun e w' => e = .returned (.int .u8 r) ∧ Below w.heap.size w w' := by
  obtain rfl | rfl | rfl | rfl | rfl | rfl | rfl | rfl : r = 0 ∨ r = 1 ∨ r = 2 ∨ r = 3 ∨ r = 4 ∨ r = 5 ∨ r = 6 ∨ r = 7 := by omega
  · exact turnOf_0 w hU
  · exact turnOf_1 w hU
  · exact turnOf_2 w hU
  · exact turnOf_3 w hU
  · exact turnOf_4 w hU
  · exact turnOf_5 w hU
  · exact turnOf_6 w hU
  · exact turnOf_7 w hU

end Go.Proofs.YtppjogagimflpaaGreatDoor
