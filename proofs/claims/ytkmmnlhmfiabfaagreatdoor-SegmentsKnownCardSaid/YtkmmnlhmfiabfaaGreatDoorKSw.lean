/-
  Says: what the string functions answer, is so.
-/
import Derived.Test.YtkmmnlhmfiabfaaGreatDoorKr
import Derived.Test.YtkmmnlhmfiabfaaGreatDoorKS
import Derived.Test.YtkmmnlhmfiabfaaGreatDoorSg23
import Derived.KernelRfl
set_option maxRecDepth 1000000
set_option linter.unusedVariables false
set_option linter.unusedSimpArgs false
namespace Go.Proofs.YtkmmnlhmfiabfaaGreatDoor
open Go Go.Vx
open Go.RowKit
attribute [local instance] anySyms stdKeeps
theorem sq_Kw0 (w : World) (hS : Std w) : Calls Tryz.prog 28 #[.string ⟨⟨[109, 118, 32, 120, 32, 49, 32, 48, 32, 52]⟩⟩] w fun e w' => e = .returned (vp [va [vu 0, vu 0, vi 0, vi 0, vi 0], vi 4]) ∧ Below w.heap.size w w' :=
  sparse_other _ 1 1 1 0 4 w hS (fun w hS => by
    have h := read_5 ⟨⟨[109, 118, 32, 120, 32, 49, 32, 48, 32, 52]⟩⟩ [109, 118] [120] [49] [48] [52] 1 1 0 0 4 0 w hS (by decide) (by decide +kernel) (by decide) (by decide) (by omega) (by omega) (fun W hW => by
    have h := parse_text 1 1 W hW.tab (by omega) (by omega) (by omega) (by omega)
    rwa [show textL 1 1 = [120, 32, 49] by decide +kernel] at h) (fun W hW => by
    have h := atoi_gen ⟨⟨[48]⟩⟩ W hW (by decide)
    unfold AtE at h
    rwa [show atv (ByteArray.mk ⟨[48]⟩).data.toList = 0 by decide +kernel] at h) (fun W hW => by
    have h := atoi_gen ⟨⟨[52]⟩⟩ W hW (by decide)
    unfold AtE at h
    rwa [show atv (ByteArray.mk ⟨[52]⟩).data.toList = 4 by decide +kernel] at h) (fun W hW => by
    have h := index_det [109, 118] W hW
    rwa [show Lib.index [109, 118, 97] [109, 118] = 0 by decide +kernel] at h)
    rw [show (0 + 1 : Int) = 1 by omega] at h
    exact h) (by omega) (by omega) (by omega) (by omega) (by omega) (by omega) (by omega) (by omega) (by omega) (by decide +kernel)
theorem sq_Kw1 (w : World) (hS : Std w) : Calls Tryz.prog 28 #[.string ⟨⟨[109, 32, 120, 32, 49, 32, 45, 48, 32, 52]⟩⟩] w fun e w' => e = .returned (vp [va [vu 0, vu 0, vi 0, vi 0, vi 0], vi 4]) ∧ Below w.heap.size w w' :=
  sparse_other _ 1 1 1 0 4 w hS (fun w hS => by
    have h := read_5 ⟨⟨[109, 32, 120, 32, 49, 32, 45, 48, 32, 52]⟩⟩ [109] [120] [49] [45, 48] [52] 1 1 0 0 4 0 w hS (by decide) (by decide +kernel) (by decide) (by decide) (by omega) (by omega) (fun W hW => by
    have h := parse_text 1 1 W hW.tab (by omega) (by omega) (by omega) (by omega)
    rwa [show textL 1 1 = [120, 32, 49] by decide +kernel] at h) (fun W hW => by
    have h := atoi_gen ⟨⟨[45, 48]⟩⟩ W hW (by decide)
    unfold AtE at h
    rwa [show atv (ByteArray.mk ⟨[45, 48]⟩).data.toList = 0 by decide +kernel] at h) (fun W hW => by
    have h := atoi_gen ⟨⟨[52]⟩⟩ W hW (by decide)
    unfold AtE at h
    rwa [show atv (ByteArray.mk ⟨[52]⟩).data.toList = 4 by decide +kernel] at h) (fun W hW => by
    have h := index_det [109] W hW
    rwa [show Lib.index [109, 118, 97] [109] = 0 by decide +kernel] at h)
    rw [show (0 + 1 : Int) = 1 by omega] at h
    exact h) (by omega) (by omega) (by omega) (by omega) (by omega) (by omega) (by omega) (by omega) (by omega) (by decide +kernel)
theorem sq_Kw2 (w : World) (hS : Std w) : Calls Tryz.prog 28 #[.string ⟨⟨[109, 32, 120, 32, 49, 32, 45, 50, 32, 52, 48, 57, 49]⟩⟩] w fun e w' => e = .returned (vp [va [vu 1, vu 1, vi 1, vn 1, vi 4091], vi 0]) ∧ Below w.heap.size w w' := by
  have h := sparse_text 1 1 1 (-2) 4091 w hS (by omega) (by omega) (by omega) (by omega) (by omega) (by omega) (by omega) (by omega) (by omega)
  rw [show textS 1 1 1 (-2) 4091 = [109, 32, 120, 32, 49, 32, 45, 50, 32, 52, 48, 57, 49] by decide +kernel] at h
  exact h
theorem sq_Kw3 (w : World) (hS : Std w) : Calls Tryz.prog 28 #[.string ⟨⟨[109, 32, 120, 32, 49, 32, 48, 32, 48]⟩⟩] w fun e w' => e = .returned (vp [va [vu 0, vu 0, vi 0, vi 0, vi 0], vi 4]) ∧ Below w.heap.size w w' :=
  sparse_bad _ 1 1 1 0 0 w hS (fun w hS => by
    have h := read_5 ⟨⟨[109, 32, 120, 32, 49, 32, 48, 32, 48]⟩⟩ [109] [120] [49] [48] [48] 1 1 0 0 0 0 w hS (by decide) (by decide +kernel) (by decide) (by decide) (by omega) (by omega) (fun W hW => by
    have h := parse_text 1 1 W hW.tab (by omega) (by omega) (by omega) (by omega)
    rwa [show textL 1 1 = [120, 32, 49] by decide +kernel] at h) (fun W hW => by
    have h := atoi_gen ⟨⟨[48]⟩⟩ W hW (by decide)
    unfold AtE at h
    rwa [show atv (ByteArray.mk ⟨[48]⟩).data.toList = 0 by decide +kernel] at h) (fun W hW => by
    have h := atoi_gen ⟨⟨[48]⟩⟩ W hW (by decide)
    unfold AtE at h
    rwa [show atv (ByteArray.mk ⟨[48]⟩).data.toList = 0 by decide +kernel] at h) (fun W hW => by
    have h := index_det [109] W hW
    rwa [show Lib.index [109, 118, 97] [109] = 0 by decide +kernel] at h)
    rw [show (0 + 1 : Int) = 1 by omega] at h
    exact h) (by omega)
theorem sq_Kw4 (w : World) (hS : Std w) : Calls Tryz.prog 28 #[.string ⟨⟨[109, 32, 120, 32, 49, 32, 48, 32, 52, 48, 57, 55]⟩⟩] w fun e w' => e = .returned (vp [va [vu 0, vu 0, vi 0, vi 0, vi 0], vi 4]) ∧ Below w.heap.size w w' :=
  sparse_bad _ 1 1 1 0 4097 w hS (fun w hS => by
    have h := read_5 ⟨⟨[109, 32, 120, 32, 49, 32, 48, 32, 52, 48, 57, 55]⟩⟩ [109] [120] [49] [48] [52, 48, 57, 55] 1 1 0 0 4097 0 w hS (by decide) (by decide +kernel) (by decide) (by decide) (by omega) (by omega) (fun W hW => by
    have h := parse_text 1 1 W hW.tab (by omega) (by omega) (by omega) (by omega)
    rwa [show textL 1 1 = [120, 32, 49] by decide +kernel] at h) (fun W hW => by
    have h := atoi_gen ⟨⟨[48]⟩⟩ W hW (by decide)
    unfold AtE at h
    rwa [show atv (ByteArray.mk ⟨[48]⟩).data.toList = 0 by decide +kernel] at h) (fun W hW => by
    have h := atoi_gen ⟨⟨[52, 48, 57, 55]⟩⟩ W hW (by decide)
    unfold AtE at h
    rwa [show atv (ByteArray.mk ⟨[52, 48, 57, 55]⟩).data.toList = 4097 by decide +kernel] at h) (fun W hW => by
    have h := index_det [109] W hW
    rwa [show Lib.index [109, 118, 97] [109] = 0 by decide +kernel] at h)
    rw [show (0 + 1 : Int) = 1 by omega] at h
    exact h) (by omega)
theorem sq_Kw5 (w : World) (hS : Std w) : Calls Tryz.prog 28 #[.string ⟨⟨[109, 32, 120, 32, 49, 32, 48, 32, 52]⟩⟩] w fun e w' => e = .returned (vp [va [vu 1, vu 1, vi 1, vi 0, vi 4], vi 0]) ∧ Below w.heap.size w w' := by
  have h := sparse_text 1 1 1 0 4 w hS (by omega) (by omega) (by omega) (by omega) (by omega) (by omega) (by omega) (by omega) (by omega)
  rw [show textS 1 1 1 0 4 = [109, 32, 120, 32, 49, 32, 48, 32, 52] by decide +kernel] at h
  exact h
theorem sq_Kw6 (w : World) (hS : Std w) : Calls Tryz.prog 28 #[.string ⟨⟨[109, 32, 120, 32, 49, 32, 48, 48, 32, 52]⟩⟩] w fun e w' => e = .returned (vp [va [vu 0, vu 0, vi 0, vi 0, vi 0], vi 4]) ∧ Below w.heap.size w w' :=
  sparse_other _ 1 1 1 0 4 w hS (fun w hS => by
    have h := read_5 ⟨⟨[109, 32, 120, 32, 49, 32, 48, 48, 32, 52]⟩⟩ [109] [120] [49] [48, 48] [52] 1 1 0 0 4 0 w hS (by decide) (by decide +kernel) (by decide) (by decide) (by omega) (by omega) (fun W hW => by
    have h := parse_text 1 1 W hW.tab (by omega) (by omega) (by omega) (by omega)
    rwa [show textL 1 1 = [120, 32, 49] by decide +kernel] at h) (fun W hW => by
    have h := atoi_gen ⟨⟨[48, 48]⟩⟩ W hW (by decide)
    unfold AtE at h
    rwa [show atv (ByteArray.mk ⟨[48, 48]⟩).data.toList = 0 by decide +kernel] at h) (fun W hW => by
    have h := atoi_gen ⟨⟨[52]⟩⟩ W hW (by decide)
    unfold AtE at h
    rwa [show atv (ByteArray.mk ⟨[52]⟩).data.toList = 4 by decide +kernel] at h) (fun W hW => by
    have h := index_det [109] W hW
    rwa [show Lib.index [109, 118, 97] [109] = 0 by decide +kernel] at h)
    rw [show (0 + 1 : Int) = 1 by omega] at h
    exact h) (by omega) (by omega) (by omega) (by omega) (by omega) (by omega) (by omega) (by omega) (by omega) (by decide +kernel)
theorem sq_Kw7 (w : World) (hS : Std w) : Calls Tryz.prog 28 #[.string ⟨⟨[109, 32, 120, 32, 49, 32, 48]⟩⟩] w fun e w' => e = .returned (vp [va [vu 0, vu 0, vi 0, vi 0, vi 0], vi 4]) ∧ Below w.heap.size w w' :=
  sparse_bad _ 0 0 0 0 0 w hS (fun w hS => read_4 ⟨⟨[109, 32, 120, 32, 49, 32, 48]⟩⟩ ⟨⟨[109]⟩⟩ ⟨⟨[120]⟩⟩ ⟨⟨[49]⟩⟩ ⟨⟨[48]⟩⟩ w hS (by decide) (by decide +kernel)) (by omega)
theorem sq_Kw8 (w : World) (hS : Std w) : Calls Tryz.prog 28 #[.string ⟨⟨[109, 32, 120, 32, 49, 32, 52, 32, 48]⟩⟩] w fun e w' => e = .returned (vp [va [vu 0, vu 0, vi 0, vi 0, vi 0], vi 4]) ∧ Below w.heap.size w w' :=
  sparse_bad _ 1 1 1 4 0 w hS (fun w hS => by
    have h := read_5 ⟨⟨[109, 32, 120, 32, 49, 32, 52, 32, 48]⟩⟩ [109] [120] [49] [52] [48] 1 1 0 4 0 0 w hS (by decide) (by decide +kernel) (by decide) (by decide) (by omega) (by omega) (fun W hW => by
    have h := parse_text 1 1 W hW.tab (by omega) (by omega) (by omega) (by omega)
    rwa [show textL 1 1 = [120, 32, 49] by decide +kernel] at h) (fun W hW => by
    have h := atoi_gen ⟨⟨[52]⟩⟩ W hW (by decide)
    unfold AtE at h
    rwa [show atv (ByteArray.mk ⟨[52]⟩).data.toList = 4 by decide +kernel] at h) (fun W hW => by
    have h := atoi_gen ⟨⟨[48]⟩⟩ W hW (by decide)
    unfold AtE at h
    rwa [show atv (ByteArray.mk ⟨[48]⟩).data.toList = 0 by decide +kernel] at h) (fun W hW => by
    have h := index_det [109] W hW
    rwa [show Lib.index [109, 118, 97] [109] = 0 by decide +kernel] at h)
    rw [show (0 + 1 : Int) = 1 by omega] at h
    exact h) (by omega)
theorem sq_Kw9 (w : World) (hS : Std w) : Calls Tryz.prog 28 #[.string ⟨⟨[109, 32, 32, 120, 32, 49, 32, 48, 32, 52]⟩⟩] w fun e w' => e = .returned (vp [va [vu 0, vu 0, vi 0, vi 0, vi 0], vi 4]) ∧ Below w.heap.size w w' :=
  sparse_bad _ 1 0 0 1 0 w hS (fun w hS => by
    have h := read_5 ⟨⟨[109, 32, 32, 120, 32, 49, 32, 48, 32, 52]⟩⟩ [109] [] [120] [49] [48, 32, 52] 0 0 4 1 0 0 w hS (by decide) (by decide +kernel) (by decide) (by decide) (by omega) (by omega) (fun W hW => parse_bad _ 0 0 W hW.tab (by omega) (by unfold maxLen; decide) (by decide +kernel) (by decide +kernel)) (fun W hW => by
    have h := atoi_gen ⟨⟨[49]⟩⟩ W hW (by decide)
    unfold AtE at h
    rwa [show atv (ByteArray.mk ⟨[49]⟩).data.toList = 1 by decide +kernel] at h) (fun W hW => by
    have h := atoi_gen ⟨⟨[48, 32, 52]⟩⟩ W hW (by decide)
    unfold AtE at h
    rwa [show atv (ByteArray.mk ⟨[48, 32, 52]⟩).data.toList = 0 by decide +kernel] at h) (fun W hW => by
    have h := index_det [109] W hW
    rwa [show Lib.index [109, 118, 97] [109] = 0 by decide +kernel] at h)
    rw [show (0 + 1 : Int) = 1 by omega] at h
    exact h) (by omega)
theorem sq_Kw10 (w : World) (hS : Std w) : Calls Tryz.prog 28 #[.string ⟨⟨[113, 32, 120, 32, 49, 32, 48, 32, 52]⟩⟩] w fun e w' => e = .returned (vp [va [vu 0, vu 0, vi 0, vi 0, vi 0], vi 4]) ∧ Below w.heap.size w w' :=
  sparse_bad _ 0 1 1 0 4 w hS (fun w hS => by
    have h := read_5 ⟨⟨[113, 32, 120, 32, 49, 32, 48, 32, 52]⟩⟩ [113] [120] [49] [48] [52] 1 1 0 0 4 (-1) w hS (by decide) (by decide +kernel) (by decide) (by decide) (by omega) (by omega) (fun W hW => by
    have h := parse_text 1 1 W hW.tab (by omega) (by omega) (by omega) (by omega)
    rwa [show textL 1 1 = [120, 32, 49] by decide +kernel] at h) (fun W hW => by
    have h := atoi_gen ⟨⟨[48]⟩⟩ W hW (by decide)
    unfold AtE at h
    rwa [show atv (ByteArray.mk ⟨[48]⟩).data.toList = 0 by decide +kernel] at h) (fun W hW => by
    have h := atoi_gen ⟨⟨[52]⟩⟩ W hW (by decide)
    unfold AtE at h
    rwa [show atv (ByteArray.mk ⟨[52]⟩).data.toList = 4 by decide +kernel] at h) (fun W hW => by
    have h := index_det [113] W hW
    rwa [show Lib.index [109, 118, 97] [113] = (-1) by decide +kernel] at h)
    rw [show ((-1) + 1 : Int) = 0 by omega] at h
    exact h) (by omega)
theorem sq_Kw11 (w : World) (hS : Std w) : Calls Tryz.prog 28 #[.string ⟨⟨[118, 32, 117, 32, 45, 50, 32, 45, 52, 48, 57, 54, 32, 52, 48, 57, 54]⟩⟩] w fun e w' => e = .returned (vp [va [vu 2, vu 3, vn 1, vn 4095, vi 4096], vi 0]) ∧ Below w.heap.size w w' := by
  have h := sparse_text 2 3 (-2) (-4096) 4096 w hS (by omega) (by omega) (by omega) (by omega) (by omega) (by omega) (by omega) (by omega) (by omega)
  rw [show textS 2 3 (-2) (-4096) 4096 = [118, 32, 117, 32, 45, 50, 32, 45, 52, 48, 57, 54, 32, 52, 48, 57, 54] by decide +kernel] at h
  exact h
theorem sq_Kw12 (w : World) (hS : Std w) : Calls Tryz.prog 28 #[.string ⟨⟨[118, 32, 121, 32, 50, 32, 45, 49, 32, 52, 48, 57, 50]⟩⟩] w fun e w' => e = .returned (vp [va [vu 2, vu 2, vi 2, vn 0, vi 4092], vi 0]) ∧ Below w.heap.size w w' := by
  have h := sparse_text 2 2 2 (-1) 4092 w hS (by omega) (by omega) (by omega) (by omega) (by omega) (by omega) (by omega) (by omega) (by omega)
  rw [show textS 2 2 2 (-1) 4092 = [118, 32, 121, 32, 50, 32, 45, 49, 32, 52, 48, 57, 50] by decide +kernel] at h
  exact h
theorem sq_Kw13 (w : World) (hS : Std w) : Calls Tryz.prog 28 #[.string ⟨⟨[32, 120, 32, 49, 32, 48, 32, 52]⟩⟩] w fun e w' => e = .returned (vp [va [vu 0, vu 0, vi 0, vi 0, vi 0], vi 4]) ∧ Below w.heap.size w w' :=
  sparse_other _ 1 1 1 0 4 w hS (fun w hS => by
    have h := read_5 ⟨⟨[32, 120, 32, 49, 32, 48, 32, 52]⟩⟩ [] [120] [49] [48] [52] 1 1 0 0 4 0 w hS (by decide) (by decide +kernel) (by decide) (by decide) (by omega) (by omega) (fun W hW => by
    have h := parse_text 1 1 W hW.tab (by omega) (by omega) (by omega) (by omega)
    rwa [show textL 1 1 = [120, 32, 49] by decide +kernel] at h) (fun W hW => by
    have h := atoi_gen ⟨⟨[48]⟩⟩ W hW (by decide)
    unfold AtE at h
    rwa [show atv (ByteArray.mk ⟨[48]⟩).data.toList = 0 by decide +kernel] at h) (fun W hW => by
    have h := atoi_gen ⟨⟨[52]⟩⟩ W hW (by decide)
    unfold AtE at h
    rwa [show atv (ByteArray.mk ⟨[52]⟩).data.toList = 4 by decide +kernel] at h) (fun W hW => by
    have h := index_det [] W hW
    rwa [show Lib.index [109, 118, 97] [] = 0 by decide +kernel] at h)
    rw [show (0 + 1 : Int) = 1 by omega] at h
    exact h) (by omega) (by omega) (by omega) (by omega) (by omega) (by omega) (by omega) (by omega) (by omega) (by decide +kernel)
theorem sq_Kw14 (w : World) (hS : Std w) : Calls Tryz.prog 28 #[.string ⟨⟨[97, 32, 100, 32, 48, 32, 49, 32, 50]⟩⟩] w fun e w' => e = .returned (vp [va [vu 3, vu 4, vi 0, vi 1, vi 2], vi 0]) ∧ Below w.heap.size w w' := by
  have h := sparse_text 3 4 0 1 2 w hS (by omega) (by omega) (by omega) (by omega) (by omega) (by omega) (by omega) (by omega) (by omega)
  rw [show textS 3 4 0 1 2 = [97, 32, 100, 32, 48, 32, 49, 32, 50] by decide +kernel] at h
  exact h
theorem sq_Kw15 (w : World) (hS : Std w) : Calls Tryz.prog 28 #[.string ⟨⟨[97, 32, 117, 32, 51, 32, 48, 32, 52, 48, 57, 51]⟩⟩] w fun e w' => e = .returned (vp [va [vu 3, vu 3, vi 3, vi 0, vi 4093], vi 0]) ∧ Below w.heap.size w w' := by
  have h := sparse_text 3 3 3 0 4093 w hS (by omega) (by omega) (by omega) (by omega) (by omega) (by omega) (by omega) (by omega) (by omega)
  rw [show textS 3 3 3 0 4093 = [97, 32, 117, 32, 51, 32, 48, 32, 52, 48, 57, 51] by decide +kernel] at h
  exact h
theorem sq_Kw16 (w : World) (hS : Std w) : Calls Tryz.prog 28 #[.string ⟨⟨[]⟩⟩] w fun e w' => e = .returned (vp [va [vu 0, vu 0, vi 0, vi 0, vi 0], vi 4]) ∧ Below w.heap.size w w' :=
  sparse_bad _ 0 0 0 0 0 w hS (fun w hS => read_1 ⟨⟨[]⟩⟩ ⟨⟨[]⟩⟩ w hS (by decide) (by decide +kernel)) (by omega)
theorem sq_Kw17 (w : World) (hS : Std w) : Calls Tryz.prog 29 #[va [vu 0, vu 0, vi 0, vn 2, vi 4090]] w fun e w' => e = .returned (vs []) ∧ Below w.heap.size w w' := by
  have h := stext_bad 0 0 0 (-3) 4090 w (by omega)
  exact h
theorem sq_Kw18 (w : World) (hS : Std w) : Calls Tryz.prog 29 #[va [vu 0, vu 4, vi 10, vi 7, vi 4100]] w fun e w' => e = .returned (vs []) ∧ Below w.heap.size w w' := by
  have h := stext_bad 0 4 10 7 4100 w (by omega)
  exact h
theorem sq_Kw19 (w : World) (hS : Std w) : Calls Tryz.prog 29 #[va [vu 0, vu 5, vi 5, vi 2, vi 4095]] w fun e w' => e = .returned (vs []) ∧ Below w.heap.size w w' := by
  have h := stext_bad 0 5 5 2 4095 w (by omega)
  exact h
theorem sq_Kw20 (w : World) (hS : Std w) : Calls Tryz.prog 29 #[va [vu 1, vu 0, vi 6, vi 3, vi 4096]] w fun e w' => e = .returned (vs []) ∧ Below w.heap.size w w' := by
  have h := stext_bad 1 0 6 3 4096 w (by omega)
  exact h
theorem sq_Kw21 (w : World) (hS : Std w) : Calls Tryz.prog 29 #[va [vu 1, vu 1, vi 1, vn 1, vi 4091]] w fun e w' => e = .returned (vs [109, 32, 120, 32, 49, 32, 45, 50, 32, 52, 48, 57, 49]) ∧ Below w.heap.size w w' := by
  have h := stext_ok 1 1 1 (-2) 4091 w hS.tab (by omega) (by omega) (by omega) (by omega) (by omega) (by omega) (by omega) (by omega) (by omega)
  rw [show textS 1 1 1 (-2) 4091 = [109, 32, 120, 32, 49, 32, 45, 50, 32, 52, 48, 57, 49] by decide +kernel] at h
  exact h
theorem sq_Kw22 (w : World) (hS : Std w) : Calls Tryz.prog 29 #[va [vu 1, vu 5, vi 11, vi 8, vi 4101]] w fun e w' => e = .returned (vs []) ∧ Below w.heap.size w w' := by
  have h := stext_bad 1 5 11 8 4101 w (by omega)
  exact h
theorem sq_Kw23 (w : World) (hS : Std w) : Calls Tryz.prog 29 #[va [vu 2, vu 1, vi 7, vi 4, vi 4097]] w fun e w' => e = .returned (vs []) ∧ Below w.heap.size w w' := by
  have h := stext_bad 2 1 7 4 4097 w (by omega)
  exact h
theorem sq_Kw24 (w : World) (hS : Std w) : Calls Tryz.prog 29 #[va [vu 2, vu 2, vi 2, vn 0, vi 4092]] w fun e w' => e = .returned (vs [118, 32, 121, 32, 50, 32, 45, 49, 32, 52, 48, 57, 50]) ∧ Below w.heap.size w w' := by
  have h := stext_ok 2 2 2 (-1) 4092 w hS.tab (by omega) (by omega) (by omega) (by omega) (by omega) (by omega) (by omega) (by omega) (by omega)
  rw [show textS 2 2 2 (-1) 4092 = [118, 32, 121, 32, 50, 32, 45, 49, 32, 52, 48, 57, 50] by decide +kernel] at h
  exact h
theorem sq_Kw25 (w : World) (hS : Std w) : Calls Tryz.prog 29 #[va [vu 3, vu 2, vi 8, vi 5, vi 4098]] w fun e w' => e = .returned (vs []) ∧ Below w.heap.size w w' := by
  have h := stext_bad 3 2 8 5 4098 w (by omega)
  exact h
theorem sq_Kw26 (w : World) (hS : Std w) : Calls Tryz.prog 29 #[va [vu 3, vu 3, vi 3, vi 0, vi 4093]] w fun e w' => e = .returned (vs [97, 32, 117, 32, 51, 32, 48, 32, 52, 48, 57, 51]) ∧ Below w.heap.size w w' := by
  have h := stext_ok 3 3 3 0 4093 w hS.tab (by omega) (by omega) (by omega) (by omega) (by omega) (by omega) (by omega) (by omega) (by omega)
  rw [show textS 3 3 3 0 4093 = [97, 32, 117, 32, 51, 32, 48, 32, 52, 48, 57, 51] by decide +kernel] at h
  exact h
theorem sq_Kw27 (w : World) (hS : Std w) : Calls Tryz.prog 29 #[va [vu 4, vu 3, vi 9, vi 6, vi 4099]] w fun e w' => e = .returned (vs []) ∧ Below w.heap.size w w' := by
  have h := stext_bad 4 3 9 6 4099 w (by omega)
  exact h
theorem sq_Kw28 (w : World) (hS : Std w) : Calls Tryz.prog 29 #[va [vu 4, vu 4, vi 4, vi 1, vi 4094]] w fun e w' => e = .returned (vs []) ∧ Below w.heap.size w w' := by
  have h := stext_bad 4 4 4 1 4094 w (by omega)
  exact h
theorem sq_Kw29 (w : World) (hS : Std w) : Calls Tryz.prog 27 #[va [vu 1, vu 1, vi 1, vn 1, vi 4091]] w fun e w' => e = .returned (vs [109, 32, 120, 32, 49, 32, 45, 50, 32, 52, 48, 57, 49]) ∧ Below w.heap.size w w' := by
  have h := rt7_1 1 1 (-2) 4091 w (by omega) (by omega) (by omega) (by omega) (by omega) (by omega) (by omega)
  rw [show textS 1 1 1 (-2) 4091 = [109, 32, 120, 32, 49, 32, 45, 50, 32, 52, 48, 57, 49] by decide +kernel] at h
  exact h
theorem sq_Kw30 (w : World) (hS : Std w) : Calls Tryz.prog 27 #[va [vu 1, vu 1, vi 1, vi 0, vi 4]] w fun e w' => e = .returned (vs [109, 32, 120, 32, 49, 32, 48, 32, 52]) ∧ Below w.heap.size w w' := by
  have h := rt7_1 1 1 0 4 w (by omega) (by omega) (by omega) (by omega) (by omega) (by omega) (by omega)
  rw [show textS 1 1 1 0 4 = [109, 32, 120, 32, 49, 32, 48, 32, 52] by decide +kernel] at h
  exact h
theorem sq_Kw31 (w : World) (hS : Std w) : Calls Tryz.prog 27 #[va [vu 2, vu 2, vi 2, vn 0, vi 4092]] w fun e w' => e = .returned (vs [118, 32, 121, 32, 50, 32, 45, 49, 32, 52, 48, 57, 50]) ∧ Below w.heap.size w w' := by
  have h := rt7_2 2 2 (-1) 4092 w (by omega) (by omega) (by omega) (by omega) (by omega) (by omega) (by omega)
  rw [show textS 2 2 2 (-1) 4092 = [118, 32, 121, 32, 50, 32, 45, 49, 32, 52, 48, 57, 50] by decide +kernel] at h
  exact h
theorem sq_Kw32 (w : World) (hS : Std w) : Calls Tryz.prog 27 #[va [vu 2, vu 3, vn 1, vn 4095, vi 4096]] w fun e w' => e = .returned (vs [118, 32, 117, 32, 45, 50, 32, 45, 52, 48, 57, 54, 32, 52, 48, 57, 54]) ∧ Below w.heap.size w w' := by
  have h := rt7_2 3 (-2) (-4096) 4096 w (by omega) (by omega) (by omega) (by omega) (by omega) (by omega) (by omega)
  rw [show textS 2 3 (-2) (-4096) 4096 = [118, 32, 117, 32, 45, 50, 32, 45, 52, 48, 57, 54, 32, 52, 48, 57, 54] by decide +kernel] at h
  exact h
theorem sq_Kw33 (w : World) (hS : Std w) : Calls Tryz.prog 27 #[va [vu 3, vu 3, vi 3, vi 0, vi 4093]] w fun e w' => e = .returned (vs [97, 32, 117, 32, 51, 32, 48, 32, 52, 48, 57, 51]) ∧ Below w.heap.size w w' := by
  have h := rt7_3 3 3 0 4093 w (by omega) (by omega) (by omega) (by omega) (by omega) (by omega) (by omega)
  rw [show textS 3 3 3 0 4093 = [97, 32, 117, 32, 51, 32, 48, 32, 52, 48, 57, 51] by decide +kernel] at h
  exact h
theorem sq_Kw34 (w : World) (hS : Std w) : Calls Tryz.prog 27 #[va [vu 3, vu 4, vi 0, vi 1, vi 2]] w fun e w' => e = .returned (vs [97, 32, 100, 32, 48, 32, 49, 32, 50]) ∧ Below w.heap.size w w' := by
  have h := rt7_3 4 0 1 2 w (by omega) (by omega) (by omega) (by omega) (by omega) (by omega) (by omega)
  rw [show textS 3 4 0 1 2 = [97, 32, 100, 32, 48, 32, 49, 32, 50] by decide +kernel] at h
  exact h
theorem sKw_ok (t : Nat → TypeId) : Ents Tryz.prog (tabG t) sKw := by
  intro e he
  unfold sKw at he
  simp only [List.mem_cons, List.not_mem_nil, or_false] at he
  rcases he with rfl | rfl | rfl | rfl | rfl | rfl | rfl | rfl | rfl | rfl | rfl | rfl | rfl | rfl | rfl | rfl | rfl | rfl | rfl | rfl | rfl | rfl | rfl | rfl | rfl | rfl | rfl | rfl | rfl | rfl | rfl | rfl | rfl | rfl | rfl
  · exact ⟨known_calls sq_Kw0, rfl, rfl⟩
  · exact ⟨known_calls sq_Kw1, rfl, rfl⟩
  · exact ⟨known_calls sq_Kw2, rfl, rfl⟩
  · exact ⟨known_calls sq_Kw3, rfl, rfl⟩
  · exact ⟨known_calls sq_Kw4, rfl, rfl⟩
  · exact ⟨known_calls sq_Kw5, rfl, rfl⟩
  · exact ⟨known_calls sq_Kw6, rfl, rfl⟩
  · exact ⟨known_calls sq_Kw7, rfl, rfl⟩
  · exact ⟨known_calls sq_Kw8, rfl, rfl⟩
  · exact ⟨known_calls sq_Kw9, rfl, rfl⟩
  · exact ⟨known_calls sq_Kw10, rfl, rfl⟩
  · exact ⟨known_calls sq_Kw11, rfl, rfl⟩
  · exact ⟨known_calls sq_Kw12, rfl, rfl⟩
  · exact ⟨known_calls sq_Kw13, rfl, rfl⟩
  · exact ⟨known_calls sq_Kw14, rfl, rfl⟩
  · exact ⟨known_calls sq_Kw15, rfl, rfl⟩
  · exact ⟨known_calls sq_Kw16, rfl, rfl⟩
  · exact ⟨known_calls sq_Kw17, rfl, rfl⟩
  · exact ⟨known_calls sq_Kw18, rfl, rfl⟩
  · exact ⟨known_calls sq_Kw19, rfl, rfl⟩
  · exact ⟨known_calls sq_Kw20, rfl, rfl⟩
  · exact ⟨known_calls sq_Kw21, rfl, rfl⟩
  · exact ⟨known_calls sq_Kw22, rfl, rfl⟩
  · exact ⟨known_calls sq_Kw23, rfl, rfl⟩
  · exact ⟨known_calls sq_Kw24, rfl, rfl⟩
  · exact ⟨known_calls sq_Kw25, rfl, rfl⟩
  · exact ⟨known_calls sq_Kw26, rfl, rfl⟩
  · exact ⟨known_calls sq_Kw27, rfl, rfl⟩
  · exact ⟨known_calls sq_Kw28, rfl, rfl⟩
  · exact ⟨known_calls sq_Kw29, rfl, rfl⟩
  · exact ⟨known_calls sq_Kw30, rfl, rfl⟩
  · exact ⟨known_calls sq_Kw31, rfl, rfl⟩
  · exact ⟨known_calls sq_Kw32, rfl, rfl⟩
  · exact ⟨known_calls sq_Kw33, rfl, rfl⟩
  · exact ⟨known_calls sq_Kw34, rfl, rfl⟩

end Go.Proofs.YtkmmnlhmfiabfaaGreatDoor
