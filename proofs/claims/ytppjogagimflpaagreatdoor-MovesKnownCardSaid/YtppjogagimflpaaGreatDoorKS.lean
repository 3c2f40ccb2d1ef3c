/-
  Says: what the string functions answer, is so.
-/
import Derived.Test.YtppjogagimflpaaGreatDoorKs
import Derived.Test.YtppjogagimflpaaGreatDoorMr4
import Derived.Test.YtppjogagimflpaaGreatDoorMl0
import Derived.KernelRfl
set_option maxRecDepth 1000000
set_option linter.unusedVariables false
set_option linter.unusedSimpArgs false
namespace Go.Proofs.YtppjogagimflpaaGreatDoor
open Go Go.Vx
open Go.RowKit
theorem sq_0 (w : World) (hS : Std w) : Calls Tryz.prog 35 #[.string ⟨⟨[48, 32, 48, 32, 48]⟩⟩] w fun e w' => e = .returned (vp [va [vu 0, vi 0, vi 0], vi 0]) ∧ Below w.heap.size w w' := by
  have h := mparse_text 0 0 0 w hS (by omega) (by omega) (by omega) (by omega) (by omega) (by omega) (by decide)
  rw [show textM 0 0 0 = [48, 32, 48, 32, 48] by decide +kernel] at h
  exact h
theorem sq_1 (w : World) (hS : Std w) : Calls Tryz.prog 35 #[.string ⟨⟨[48, 32, 49, 32, 48]⟩⟩] w fun e w' => e = .returned (vp [va [vu 0, vi 0, vi 0], vi 4]) ∧ Below w.heap.size w w' :=
  mparse_bad _ 0 1 0 w hS (fun w hS => by
    have := read_3 ⟨⟨[48, 32, 49, 32, 48]⟩⟩ ⟨#[48]⟩ ⟨#[49]⟩ ⟨#[48]⟩ w hS (by decide) (by decide +kernel) (by decide) (by decide) (by decide)
    rw [show atv (ByteArray.mk #[48]).data.toList = 0 by decide +kernel, show atv (ByteArray.mk #[49]).data.toList = 1 by decide +kernel] at this
    exact this) (by omega)
theorem sq_2 (w : World) (hS : Std w) : Calls Tryz.prog 35 #[.string ⟨⟨[48, 32, 49, 54, 51, 56, 52, 32, 49, 54, 51, 56, 52]⟩⟩] w fun e w' => e = .returned (vp [va [vu 0, vi 16384, vi 16384], vi 0]) ∧ Below w.heap.size w w' := by
  have h := mparse_text 0 16384 16384 w hS (by omega) (by omega) (by omega) (by omega) (by omega) (by omega) (by decide)
  rw [show textM 0 16384 16384 = [48, 32, 49, 54, 51, 56, 52, 32, 49, 54, 51, 56, 52] by decide +kernel] at h
  exact h
theorem sq_3 (w : World) (hS : Std w) : Calls Tryz.prog 35 #[.string ⟨⟨[48, 32, 49, 54, 51, 56, 54, 32, 48]⟩⟩] w fun e w' => e = .returned (vp [va [vu 0, vi 0, vi 0], vi 4]) ∧ Below w.heap.size w w' :=
  mparse_bad _ 0 16386 0 w hS (fun w hS => by
    have := read_3 ⟨⟨[48, 32, 49, 54, 51, 56, 54, 32, 48]⟩⟩ ⟨#[48]⟩ ⟨#[49, 54, 51, 56, 54]⟩ ⟨#[48]⟩ w hS (by decide) (by decide +kernel) (by decide) (by decide) (by decide)
    rw [show atv (ByteArray.mk #[48]).data.toList = 0 by decide +kernel, show atv (ByteArray.mk #[49, 54, 51, 56, 54]).data.toList = 16386 by decide +kernel] at this
    exact this) (by omega)
theorem sq_4 (w : World) (hS : Std w) : Calls Tryz.prog 35 #[.string ⟨⟨[48, 49, 32, 50, 32, 52]⟩⟩] w fun e w' => e = .returned (vp [va [vu 0, vi 0, vi 0], vi 4]) ∧ Below w.heap.size w w' :=
  mparse_other _ 1 2 4 w hS (fun w hS => by
    have := read_3 ⟨⟨[48, 49, 32, 50, 32, 52]⟩⟩ ⟨#[48, 49]⟩ ⟨#[50]⟩ ⟨#[52]⟩ w hS (by decide) (by decide +kernel) (by decide) (by decide) (by decide)
    rw [show atv (ByteArray.mk #[48, 49]).data.toList = 1 by decide +kernel, show atv (ByteArray.mk #[50]).data.toList = 2 by decide +kernel, show atv (ByteArray.mk #[52]).data.toList = 4 by decide +kernel] at this
    exact this) (by omega) (by omega) (by omega) (by omega) (by omega) (by omega) (by decide) (by decide +kernel)
theorem sq_5 (w : World) (hS : Std w) : Calls Tryz.prog 35 #[.string ⟨⟨[49, 32, 32, 50, 32, 52]⟩⟩] w fun e w' => e = .returned (vp [va [vu 0, vi 0, vi 0], vi 4]) ∧ Below w.heap.size w w' :=
  mparse_other _ 1 0 0 w hS (fun w hS => by
    have := read_3 ⟨⟨[49, 32, 32, 50, 32, 52]⟩⟩ ⟨#[49]⟩ ⟨#[]⟩ ⟨#[50, 32, 52]⟩ w hS (by decide) (by decide +kernel) (by decide) (by decide) (by decide)
    rw [show atv (ByteArray.mk #[49]).data.toList = 1 by decide +kernel, show atv (ByteArray.mk #[]).data.toList = 0 by decide +kernel, show atv (ByteArray.mk #[50, 32, 52]).data.toList = 0 by decide +kernel] at this
    exact this) (by omega) (by omega) (by omega) (by omega) (by omega) (by omega) (by decide) (by decide +kernel)
theorem sq_6 (w : World) (hS : Std w) : Calls Tryz.prog 35 #[.string ⟨⟨[49, 32, 43, 50, 32, 52]⟩⟩] w fun e w' => e = .returned (vp [va [vu 0, vi 0, vi 0], vi 4]) ∧ Below w.heap.size w w' :=
  mparse_other _ 1 2 4 w hS (fun w hS => by
    have := read_3 ⟨⟨[49, 32, 43, 50, 32, 52]⟩⟩ ⟨#[49]⟩ ⟨#[43, 50]⟩ ⟨#[52]⟩ w hS (by decide) (by decide +kernel) (by decide) (by decide) (by decide)
    rw [show atv (ByteArray.mk #[49]).data.toList = 1 by decide +kernel, show atv (ByteArray.mk #[43, 50]).data.toList = 2 by decide +kernel, show atv (ByteArray.mk #[52]).data.toList = 4 by decide +kernel] at this
    exact this) (by omega) (by omega) (by omega) (by omega) (by omega) (by omega) (by decide) (by decide +kernel)
theorem sq_7 (w : World) (hS : Std w) : Calls Tryz.prog 35 #[.string ⟨⟨[49, 32, 45, 48, 32, 48]⟩⟩] w fun e w' => e = .returned (vp [va [vu 0, vi 0, vi 0], vi 4]) ∧ Below w.heap.size w w' :=
  mparse_other _ 1 0 0 w hS (fun w hS => by
    have := read_3 ⟨⟨[49, 32, 45, 48, 32, 48]⟩⟩ ⟨#[49]⟩ ⟨#[45, 48]⟩ ⟨#[48]⟩ w hS (by decide) (by decide +kernel) (by decide) (by decide) (by decide)
    rw [show atv (ByteArray.mk #[49]).data.toList = 1 by decide +kernel, show atv (ByteArray.mk #[45, 48]).data.toList = 0 by decide +kernel, show atv (ByteArray.mk #[48]).data.toList = 0 by decide +kernel] at this
    exact this) (by omega) (by omega) (by omega) (by omega) (by omega) (by omega) (by decide) (by decide +kernel)
theorem sq_8 (w : World) (hS : Std w) : Calls Tryz.prog 35 #[.string ⟨⟨[49, 32, 50, 32, 52, 32]⟩⟩] w fun e w' => e = .returned (vp [va [vu 0, vi 0, vi 0], vi 4]) ∧ Below w.heap.size w w' :=
  mparse_other _ 1 2 0 w hS (fun w hS => by
    have := read_3 ⟨⟨[49, 32, 50, 32, 52, 32]⟩⟩ ⟨#[49]⟩ ⟨#[50]⟩ ⟨#[52, 32]⟩ w hS (by decide) (by decide +kernel) (by decide) (by decide) (by decide)
    rw [show atv (ByteArray.mk #[49]).data.toList = 1 by decide +kernel, show atv (ByteArray.mk #[50]).data.toList = 2 by decide +kernel, show atv (ByteArray.mk #[52, 32]).data.toList = 0 by decide +kernel] at this
    exact this) (by omega) (by omega) (by omega) (by omega) (by omega) (by omega) (by decide) (by decide +kernel)
theorem sq_9 (w : World) (hS : Std w) : Calls Tryz.prog 35 #[.string ⟨⟨[49, 32, 50]⟩⟩] w fun e w' => e = .returned (vp [va [vu 0, vi 0, vi 0], vi 4]) ∧ Below w.heap.size w w' :=
  mparse_other _ 1 2 0 w hS (fun w hS => by
    have := read_2 ⟨⟨[49, 32, 50]⟩⟩ ⟨#[49]⟩ ⟨#[50]⟩ w hS (by decide) (by decide +kernel) (by decide) (by decide)
    rw [show atv (ByteArray.mk #[49]).data.toList = 1 by decide +kernel, show atv (ByteArray.mk #[50]).data.toList = 2 by decide +kernel] at this
    exact this) (by omega) (by omega) (by omega) (by omega) (by omega) (by omega) (by decide) (by decide +kernel)
theorem sq_10 (w : World) (hS : Std w) : Calls Tryz.prog 35 #[.string ⟨⟨[50, 53, 54, 32, 48, 32, 48]⟩⟩] w fun e w' => e = .returned (vp [va [vu 0, vi 0, vi 0], vi 4]) ∧ Below w.heap.size w w' :=
  mparse_other _ 0 0 0 w hS (fun w hS => by
    have := read_3 ⟨⟨[50, 53, 54, 32, 48, 32, 48]⟩⟩ ⟨#[50, 53, 54]⟩ ⟨#[48]⟩ ⟨#[48]⟩ w hS (by decide) (by decide +kernel) (by decide) (by decide) (by decide)
    rw [show atv (ByteArray.mk #[50, 53, 54]).data.toList = 256 by decide +kernel, show atv (ByteArray.mk #[48]).data.toList = 0 by decide +kernel] at this
    exact this) (by omega) (by omega) (by omega) (by omega) (by omega) (by omega) (by decide) (by decide +kernel)
theorem sq_11 (w : World) (hS : Std w) : Calls Tryz.prog 35 #[.string ⟨⟨[54, 32, 49, 54, 51, 56, 52, 32, 54]⟩⟩] w fun e w' => e = .returned (vp [va [vu 6, vi 16384, vi 6], vi 0]) ∧ Below w.heap.size w w' := by
  have h := mparse_text 6 16384 6 w hS (by omega) (by omega) (by omega) (by omega) (by omega) (by omega) (by decide)
  rw [show textM 6 16384 6 = [54, 32, 49, 54, 51, 56, 52, 32, 54] by decide +kernel] at h
  exact h
theorem sq_12 (w : World) (hS : Std w) : Calls Tryz.prog 35 #[.string ⟨⟨[55, 32, 45, 51, 32, 51]⟩⟩] w fun e w' => e = .returned (vp [va [vu 7, vn 2, vi 3], vi 0]) ∧ Below w.heap.size w w' := by
  have h := mparse_text 7 (-3) 3 w hS (by omega) (by omega) (by omega) (by omega) (by omega) (by omega) (by decide)
  rw [show textM 7 (-3) 3 = [55, 32, 45, 51, 32, 51] by decide +kernel] at h
  exact h
theorem sq_13 (w : World) (hS : Std w) : Calls Tryz.prog 35 #[.string ⟨⟨[55, 32, 49, 54, 51, 56, 51, 32, 55]⟩⟩] w fun e w' => e = .returned (vp [va [vu 7, vi 16383, vi 7], vi 0]) ∧ Below w.heap.size w w' := by
  have h := mparse_text 7 16383 7 w hS (by omega) (by omega) (by omega) (by omega) (by omega) (by omega) (by decide)
  rw [show textM 7 16383 7 = [55, 32, 49, 54, 51, 56, 51, 32, 55] by decide +kernel] at h
  exact h
theorem sq_14 (w : World) (hS : Std w) : Calls Tryz.prog 35 #[.string ⟨⟨[56, 32, 48, 32, 48]⟩⟩] w fun e w' => e = .returned (vp [va [vu 0, vi 0, vi 0], vi 4]) ∧ Below w.heap.size w w' :=
  mparse_bad _ 8 0 0 w hS (fun w hS => by
    have := read_3 ⟨⟨[56, 32, 48, 32, 48]⟩⟩ ⟨#[56]⟩ ⟨#[48]⟩ ⟨#[48]⟩ w hS (by decide) (by decide +kernel) (by decide) (by decide) (by decide)
    rw [show atv (ByteArray.mk #[56]).data.toList = 8 by decide +kernel, show atv (ByteArray.mk #[48]).data.toList = 0 by decide +kernel] at this
    exact this) (by omega)
theorem sq_15 (w : World) (hS : Std w) : Calls Tryz.prog 35 #[.string ⟨⟨[]⟩⟩] w fun e w' => e = .returned (vp [va [vu 0, vi 0, vi 0], vi 4]) ∧ Below w.heap.size w w' :=
  mparse_other _ 0 0 0 w hS (fun w hS => by
    have := read_1 ⟨⟨[]⟩⟩ ⟨#[]⟩ w hS (by decide) (by decide +kernel) (by decide)
    rw [show atv (ByteArray.mk #[]).data.toList = 0 by decide +kernel] at this
    exact this) (by omega) (by omega) (by omega) (by omega) (by omega) (by omega) (by decide) (by decide +kernel)
theorem sq_16 (w : World) (hS : Std w) : Calls Tryz.prog 36 #[va [vu 0, vi 16390, vi 0]] w fun e w' => e = .returned (vs []) ∧ Below w.heap.size w w' := mtext_bad 0 16390 0 w (by omega)
theorem sq_17 (w : World) (hS : Std w) : Calls Tryz.prog 36 #[va [vu 10, vi 16380, vi 10]] w fun e w' => e = .returned (vs []) ∧ Below w.heap.size w w' := mtext_bad 10 16380 10 w (by omega)
theorem sq_18 (w : World) (hS : Std w) : Calls Tryz.prog 36 #[va [vu 11, vi 16379, vi 11]] w fun e w' => e = .returned (vs []) ∧ Below w.heap.size w w' := mtext_bad 11 16379 11 w (by omega)
theorem sq_19 (w : World) (hS : Std w) : Calls Tryz.prog 36 #[va [vu 12, vi 16378, vi 12]] w fun e w' => e = .returned (vs []) ∧ Below w.heap.size w w' := mtext_bad 12 16378 12 w (by omega)
theorem sq_20 (w : World) (hS : Std w) : Calls Tryz.prog 36 #[va [vu 13, vi 16377, vi 13]] w fun e w' => e = .returned (vs []) ∧ Below w.heap.size w w' := mtext_bad 13 16377 13 w (by omega)
theorem sq_21 (w : World) (hS : Std w) : Calls Tryz.prog 36 #[va [vu 1, vi 16389, vi 1]] w fun e w' => e = .returned (vs []) ∧ Below w.heap.size w w' := mtext_bad 1 16389 1 w (by omega)
theorem sq_22 (w : World) (hS : Std w) : Calls Tryz.prog 36 #[va [vu 2, vi 16388, vi 2]] w fun e w' => e = .returned (vs []) ∧ Below w.heap.size w w' := mtext_bad 2 16388 2 w (by omega)
theorem sq_23 (w : World) (hS : Std w) : Calls Tryz.prog 36 #[va [vu 3, vi 16387, vi 3]] w fun e w' => e = .returned (vs []) ∧ Below w.heap.size w w' := mtext_bad 3 16387 3 w (by omega)
theorem sq_24 (w : World) (hS : Std w) : Calls Tryz.prog 36 #[va [vu 4, vi 16386, vi 4]] w fun e w' => e = .returned (vs []) ∧ Below w.heap.size w w' := mtext_bad 4 16386 4 w (by omega)
theorem sq_25 (w : World) (hS : Std w) : Calls Tryz.prog 36 #[va [vu 5, vi 16385, vi 5]] w fun e w' => e = .returned (vs []) ∧ Below w.heap.size w w' := mtext_bad 5 16385 5 w (by omega)
theorem sq_26 (w : World) (hS : Std w) : Calls Tryz.prog 36 #[va [vu 6, vi 16384, vi 6]] w fun e w' => e = .returned (vs [54, 32, 49, 54, 51, 56, 52, 32, 54]) ∧ Below w.heap.size w w' := by
  have h := mtext_ok 6 16384 6 w hS.tab (by omega) (by omega) (by omega) (by omega) (by omega) (by omega) (by decide)
  rw [show textM 6 16384 6 = [54, 32, 49, 54, 51, 56, 52, 32, 54] by decide +kernel] at h
  exact h
theorem sq_27 (w : World) (hS : Std w) : Calls Tryz.prog 36 #[va [vu 7, vi 16383, vi 7]] w fun e w' => e = .returned (vs [55, 32, 49, 54, 51, 56, 51, 32, 55]) ∧ Below w.heap.size w w' := by
  have h := mtext_ok 7 16383 7 w hS.tab (by omega) (by omega) (by omega) (by omega) (by omega) (by omega) (by decide)
  rw [show textM 7 16383 7 = [55, 32, 49, 54, 51, 56, 51, 32, 55] by decide +kernel] at h
  exact h
theorem sq_28 (w : World) (hS : Std w) : Calls Tryz.prog 36 #[va [vu 8, vi 16382, vi 8]] w fun e w' => e = .returned (vs []) ∧ Below w.heap.size w w' := mtext_bad 8 16382 8 w (by omega)
theorem sq_29 (w : World) (hS : Std w) : Calls Tryz.prog 36 #[va [vu 9, vi 16381, vi 9]] w fun e w' => e = .returned (vs []) ∧ Below w.heap.size w w' := mtext_bad 9 16381 9 w (by omega)
theorem sq_30 (w : World) (hS : Std w) : Calls Tryz.prog 34 #[va [vu 0, vi 0, vi 0]] w fun e w' => e = .returned (vs [48, 32, 48, 32, 48]) ∧ Below w.heap.size w w' := by
  have h := rtext2_ok 0 0 0 w (by omega) (by omega) (by omega) (by omega) (by omega) (by omega) (by decide)
  rw [show textM 0 0 0 = [48, 32, 48, 32, 48] by decide +kernel] at h
  exact h
theorem sq_31 (w : World) (hS : Std w) : Calls Tryz.prog 34 #[va [vu 0, vi 16384, vi 16384]] w fun e w' => e = .returned (vs [48, 32, 49, 54, 51, 56, 52, 32, 49, 54, 51, 56, 52]) ∧ Below w.heap.size w w' := by
  have h := rtext2_ok 0 16384 16384 w (by omega) (by omega) (by omega) (by omega) (by omega) (by omega) (by decide)
  rw [show textM 0 16384 16384 = [48, 32, 49, 54, 51, 56, 52, 32, 49, 54, 51, 56, 52] by decide +kernel] at h
  exact h
theorem sq_32 (w : World) (hS : Std w) : Calls Tryz.prog 34 #[va [vu 6, vi 16384, vi 6]] w fun e w' => e = .returned (vs [54, 32, 49, 54, 51, 56, 52, 32, 54]) ∧ Below w.heap.size w w' := by
  have h := rtext2_ok 6 16384 6 w (by omega) (by omega) (by omega) (by omega) (by omega) (by omega) (by decide)
  rw [show textM 6 16384 6 = [54, 32, 49, 54, 51, 56, 52, 32, 54] by decide +kernel] at h
  exact h
theorem sq_33 (w : World) (hS : Std w) : Calls Tryz.prog 34 #[va [vu 7, vn 2, vi 3]] w fun e w' => e = .returned (vs [55, 32, 45, 51, 32, 51]) ∧ Below w.heap.size w w' := by
  have h := rtext2_ok 7 (-3) 3 w (by omega) (by omega) (by omega) (by omega) (by omega) (by omega) (by decide)
  rw [show textM 7 (-3) 3 = [55, 32, 45, 51, 32, 51] by decide +kernel] at h
  exact h
theorem sq_34 (w : World) (hS : Std w) : Calls Tryz.prog 34 #[va [vu 7, vi 16383, vi 7]] w fun e w' => e = .returned (vs [55, 32, 49, 54, 51, 56, 51, 32, 55]) ∧ Below w.heap.size w w' := by
  have h := rtext2_ok 7 16383 7 w (by omega) (by omega) (by omega) (by omega) (by omega) (by omega) (by decide)
  rw [show textM 7 16383 7 = [55, 32, 49, 54, 51, 56, 51, 32, 55] by decide +kernel] at h
  exact h

/-- What holds of the other package-level variables. -/
@[reducible] def stdKeeps : Keeps := ⟨Std, fun _ _ h hb => std_below h hb⟩
attribute [local instance] anySyms stdKeeps
theorem known_calls {G : VW} {f : FuncId} {args : List Value} {v : Value} (h : ∀ w, Std w → Calls Tryz.prog f ⟨args⟩ w fun e w' => e = .returned v ∧ Below w.heap.size w w') : Known Tryz.prog G f args v := fun w hL cs => by
  obtain ⟨e, w', fr, ⟨rfl, hb⟩, h1, h2, h3⟩ := h w hL.2 cs
  exact ⟨w', fr, h1, h2, h3, hb⟩
theorem sE_ok (t : Nat → TypeId) : Ents Tryz.prog (tabG t) sE := by
  intro e he
  unfold sE at he
  simp only [List.mem_cons, List.not_mem_nil, or_false] at he
  rcases he with rfl | rfl | rfl | rfl | rfl | rfl | rfl | rfl | rfl | rfl | rfl | rfl | rfl | rfl | rfl | rfl | rfl | rfl | rfl | rfl | rfl | rfl | rfl | rfl | rfl | rfl | rfl | rfl | rfl | rfl | rfl | rfl | rfl | rfl | rfl
  · exact ⟨known_calls sq_0, rfl, rfl⟩
  · exact ⟨known_calls sq_1, rfl, rfl⟩
  · exact ⟨known_calls sq_2, rfl, rfl⟩
  · exact ⟨known_calls sq_3, rfl, rfl⟩
  · exact ⟨known_calls sq_4, rfl, rfl⟩
  · exact ⟨known_calls sq_5, rfl, rfl⟩
  · exact ⟨known_calls sq_6, rfl, rfl⟩
  · exact ⟨known_calls sq_7, rfl, rfl⟩
  · exact ⟨known_calls sq_8, rfl, rfl⟩
  · exact ⟨known_calls sq_9, rfl, rfl⟩
  · exact ⟨known_calls sq_10, rfl, rfl⟩
  · exact ⟨known_calls sq_11, rfl, rfl⟩
  · exact ⟨known_calls sq_12, rfl, rfl⟩
  · exact ⟨known_calls sq_13, rfl, rfl⟩
  · exact ⟨known_calls sq_14, rfl, rfl⟩
  · exact ⟨known_calls sq_15, rfl, rfl⟩
  · exact ⟨known_calls sq_16, rfl, rfl⟩
  · exact ⟨known_calls sq_17, rfl, rfl⟩
  · exact ⟨known_calls sq_18, rfl, rfl⟩
  · exact ⟨known_calls sq_19, rfl, rfl⟩
  · exact ⟨known_calls sq_20, rfl, rfl⟩
  · exact ⟨known_calls sq_21, rfl, rfl⟩
  · exact ⟨known_calls sq_22, rfl, rfl⟩
  · exact ⟨known_calls sq_23, rfl, rfl⟩
  · exact ⟨known_calls sq_24, rfl, rfl⟩
  · exact ⟨known_calls sq_25, rfl, rfl⟩
  · exact ⟨known_calls sq_26, rfl, rfl⟩
  · exact ⟨known_calls sq_27, rfl, rfl⟩
  · exact ⟨known_calls sq_28, rfl, rfl⟩
  · exact ⟨known_calls sq_29, rfl, rfl⟩
  · exact ⟨known_calls sq_30, rfl, rfl⟩
  · exact ⟨known_calls sq_31, rfl, rfl⟩
  · exact ⟨known_calls sq_32, rfl, rfl⟩
  · exact ⟨known_calls sq_33, rfl, rfl⟩
  · exact ⟨known_calls sq_34, rfl, rfl⟩

end Go.Proofs.YtppjogagimflpaaGreatDoor
