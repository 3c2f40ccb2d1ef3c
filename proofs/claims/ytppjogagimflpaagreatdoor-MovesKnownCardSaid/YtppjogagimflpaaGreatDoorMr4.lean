/-
  Says: what Text of the reference gives, and that Parse takes a move's text back.
-/
import Derived.Test.YtppjogagimflpaaGreatDoorMpu
import Derived.Test.YtppjogagimflpaaGreatDoorMv10
import Derived.Test.YtppjogagimflpaaGreatDoorRfD
import Derived.Test.YtppjogagimflpaaGreatDoorMvz
import Derived.Deep.RegionHeld3
import Derived.RowKit3
set_option linter.unusedVariables false
set_option linter.unusedSimpArgs false
namespace Go.Proofs.YtppjogagimflpaaGreatDoor
open Go Go.RowKit

attribute [local go_sem] World.cell?_alloc_some frozen?_alloc_cells fz0 fz1 fz2 fz3 fz4 fz5

set_option maxRecDepth 100000 in
set_option maxHeartbeats 2000000 in
theorem rtext2_ok (t X Y : Int) (w : World) (a1 : 0 ≤ t) (a2 : t ≤ 7) (a3 : -16384 ≤ X) (a4 : X ≤ 16384) (a5 : -16384 ≤ Y) (a6 : Y ≤ 16384) (a7 : (X + Y) % 2 = 0) : Calls Tryz.prog 34 #[mv t X Y] w fun e w' => e = .returned (.string ⟨(textM t X Y).toArray⟩) ∧ Below w.heap.size w w' := by
  have HA : Hid ((X + Y) % 2 = 0) := a7
  clear a7
  have l1 := itoa_len t (by omega) (by omega)
  have l2 := itoa_len X (by omega) (by omega)
  have l3 := itoa_len Y (by omega) (by omega)
  have hA : ∀ w, (Op.stringOp .add ⟨(Lib.itoa t).toArray⟩ ⟨#[32]⟩).run Tryz.prog w = .ok (.string ⟨(Lib.itoa t ++ [32]).toArray⟩) w := fun w => run_string_add_lists w (Lib.itoa t) [32] (by omega) (by simp)
  have hB : ∀ w, (Op.stringOp .add ⟨(Lib.itoa t ++ [32]).toArray⟩ ⟨(Lib.itoa X).toArray⟩).run Tryz.prog w = .ok (.string ⟨(Lib.itoa t ++ [32] ++ Lib.itoa X).toArray⟩) w := fun w => run_string_add_lists w _ _ (by simp; omega) (by omega)
  have hC : ∀ w, (Op.stringOp .add ⟨(Lib.itoa t ++ [32] ++ Lib.itoa X).toArray⟩ ⟨#[32]⟩).run Tryz.prog w = .ok (.string ⟨(Lib.itoa t ++ [32] ++ Lib.itoa X ++ [32]).toArray⟩) w := fun w => run_string_add_lists w _ [32] (by simp; omega) (by simp)
  have hD : ∀ w, (Op.stringOp .add ⟨(Lib.itoa t ++ [32] ++ Lib.itoa X ++ [32]).toArray⟩ ⟨(Lib.itoa Y).toArray⟩).run Tryz.prog w = .ok (.string ⟨(textM t X Y).toArray⟩) w := fun w => run_string_add_lists w _ _ (by simp; omega) (by omega)
  clear l1 l2 l3
  generalize hE : Lib.itoa t ++ [32] ++ Lib.itoa X ++ [32] = E at *
  generalize hF : Lib.itoa t ++ [32] ++ Lib.itoa X = F at *
  generalize hG : Lib.itoa t ++ [32] = G at *
  clear hE hF hG
  go_enter Tryz.func34, Tryz.ntmps34
  go_wp2_with fail
  refine region_later (by kernel_rfl) (by kernel_rfl) ?_
  repeat (go_big_quiet_step ((first | (go_at_call 54; with_reducible exact Calls.later (dec_any t _ (by omega) (by omega))) | (go_at_call 54; with_reducible exact Calls.later (dec_any X _ (by omega) (by omega))) | (go_at_call 54; with_reducible exact Calls.later (dec_any Y _ (by omega) (by omega))))))
  refine wpQuiet_nil ?_
  rintro _ ⟨u3, rfl⟩
  go_wp2
  go_ret
  exact ⟨rfl, (by repeat first | (with_reducible exact Below.refl _ _) | (with_reducible refine below_on ?_ _) | (with_reducible refine below_alloc ?_ _) | (with_reducible refine below_set ?_ (by simp; try omega) _))⟩
theorem text_toList (l : List UInt8) : (ByteArray.mk l.toArray).toList = l := by simp
theorem mparse_text (t X Y : Int) (w : World) (hS : Std w) (a1 : 0 ≤ t) (a2 : t ≤ 7) (a3 : -16384 ≤ X) (a4 : X ≤ 16384) (a5 : -16384 ≤ Y) (a6 : Y ≤ 16384) (a7 : (X + Y) % 2 = 0) : Calls Tryz.prog 35 #[.string ⟨(textM t X Y).toArray⟩] w fun e w' => e = .returned (.tuple #[mv t X Y, .int .i64 0]) ∧ Below w.heap.size w w' := by
  have l1 := itoa_len t (by omega) (by omega)
  have l2 := itoa_len X (by omega) (by omega)
  have l3 := itoa_len Y (by omega) (by omega)
  have hz : (ByteArray.mk (textM t X Y).toArray).size = (Lib.itoa t).length + 1 + (Lib.itoa X).length + 1 + (Lib.itoa Y).length := by
    show (textM t X Y).toArray.size = _
    unfold textM; simp; omega
  refine mparse_ok _ t X Y w hS (fun w hS => ?_) a1 a2 a3 a4 a5 a6 a7 (by rw [text_toList]; simp)
  have := read_3 ⟨(textM t X Y).toArray⟩ ⟨(Lib.itoa t).toArray⟩ ⟨(Lib.itoa X).toArray⟩ ⟨(Lib.itoa Y).toArray⟩ w hS (by omega) (by
    rw [show min 3 ((ByteArray.mk (textM t X Y).toArray).size + 1) - 1 = 2 by omega]
    exact split_text _ _ _ (itoa_no32 t) (itoa_no32 X)) (by show (Lib.itoa t).toArray.size ≤ _; simp; omega) (by show (Lib.itoa X).toArray.size ≤ _; simp; omega) (by show (Lib.itoa Y).toArray.size ≤ _; simp; omega)
  rwa [show atv (ByteArray.mk (Lib.itoa t).toArray).data.toList = t from atv_itoa t (by omega) (by omega), show atv (ByteArray.mk (Lib.itoa X).toArray).data.toList = X from atv_itoa X (by omega) (by omega), show atv (ByteArray.mk (Lib.itoa Y).toArray).data.toList = Y from atv_itoa Y (by omega) (by omega), show t % 256 = t by omega] at this
theorem mparse_split (s : ByteArray) (hl : s.size < 4294967281) : (∃ t X Y : Int, 0 ≤ t ∧ t ≤ 7 ∧ -16384 ≤ X ∧ X ≤ 16384 ∧ -16384 ≤ Y ∧ Y ≤ 16384 ∧ (X + Y) % 2 = 0 ∧ s = ⟨(textM t X Y).toArray⟩ ∧ ∀ w, Std w → Calls Tryz.prog 35 #[.string s] w fun e w' => e = .returned (.tuple #[mv t X Y, .int .i64 0]) ∧ Below w.heap.size w w') ∨
    (∀ w, Std w → Calls Tryz.prog 35 #[.string s] w fun e w' => e = .returned (.tuple #[mv 0 0 0, .int .i64 4]) ∧ Below w.heap.size w w') := by
  obtain ⟨a, b, c, h1, h2, RD⟩ := read_ex s hl
  by_cases h : a ≤ 7 ∧ -16384 ≤ b ∧ b ≤ 16384 ∧ -16384 ≤ c ∧ c ≤ 16384 ∧ (b + c) % 2 = 0
  · obtain ⟨k1, k2, k3, k4, k5, k6⟩ := h
    cases ht : textM a b c == s.toList with
    | true =>
      have e : s = ⟨(textM a b c).toArray⟩ := by
        have e1 := eq_of_beq ht
        cases s with
        | mk d =>
          congr 1
          have e2 : (ByteArray.mk d).toList = d.toList := by have := text_toList d.toList; rwa [Array.toArray_toList] at this
          rw [e1, e2]
      exact .inl ⟨a, b, c, h1, k1, k2, k3, k4, k5, k6, e, fun w hS => mparse_ok s a b c w hS RD h1 k1 k2 k3 k4 k5 k6 ht⟩
    | false => exact .inr fun w hS => mparse_other s a b c w hS RD h1 k1 k2 k3 k4 k5 k6 ht
  · exact .inr fun w hS => mparse_bad s a b c w hS RD (by omega)

end Go.Proofs.YtppjogagimflpaaGreatDoor
