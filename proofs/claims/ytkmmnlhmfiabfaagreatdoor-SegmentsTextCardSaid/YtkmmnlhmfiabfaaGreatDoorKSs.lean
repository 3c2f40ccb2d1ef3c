/-
  Says: what the string functions answer, is so.
-/
import Derived.Test.YtkmmnlhmfiabfaaGreatDoorKs
import Derived.Test.YtkmmnlhmfiabfaaGreatDoorKS
import Derived.KernelRfl
set_option maxRecDepth 1000000
set_option linter.unusedVariables false
set_option linter.unusedSimpArgs false
namespace Go.Proofs.YtkmmnlhmfiabfaaGreatDoor
open Go Go.Vx
open Go.RowKit
attribute [local instance] anySyms stdKeeps
theorem sq_Ks0 (w : World) (hS : Std w) : Calls Tryz.prog 28 #[.string ⟨⟨[109, 32, 120, 32, 49, 32, 48, 32, 52]⟩⟩] w fun e w' => e = .returned (vp [va [vu 1, vu 1, vi 1, vi 0, vi 4], vi 0]) ∧ Below w.heap.size w w' := by
  have h := sparse_text 1 1 1 0 4 w hS (by omega) (by omega) (by omega) (by omega) (by omega) (by omega) (by omega) (by omega) (by omega)
  rw [show textS 1 1 1 0 4 = [109, 32, 120, 32, 49, 32, 48, 32, 52] by decide +kernel] at h
  exact h
theorem sq_Ks1 (w : World) (hS : Std w) : Calls Tryz.prog 28 #[.string ⟨⟨[109, 32, 120, 32, 49, 32, 52, 32, 48]⟩⟩] w fun e w' => e = .returned (vp [va [vu 0, vu 0, vi 0, vi 0, vi 0], vi 4]) ∧ Below w.heap.size w w' :=
  sparse_bad _ 1 1 1 4 0 w hS (fun w hS => by
    have h := read_5 ⟨⟨[109, 32, 120, 32, 49, 32, 52, 32, 48]⟩⟩ [109] [120] [49] [52] [48] 1 1 0 4 0 0 w hS (by decide) (by decide +kernel) (by decide) (by decide) (by omega) (by omega) (fun W hW => by
    have h := parse_text 1 1 W hW.tab (by omega) (by omega) (by omega) (by omega)
    rwa [show textL 1 1 = [120, 32, 49] by decide +kernel] at h) (fun W hW => by
    have h := atoi_gen ⟨⟨[52]⟩⟩ W hW (by decide)
    unfold AtE at h
    rwa [show atv (ByteArray.mk ⟨[52]⟩).data.toList = 4 by decide +kernel] at h) (fun W hW => by
    have h := atoi_gen ⟨⟨[48]⟩⟩ W hW (by decide)
    unfold AtE at h
    rwa [show atv (ByteArray.mk ⟨[48]⟩).data.toList = 0 by decide +kernel] at h) (fun W hW => by
    have h := index_det [109] W hW
    rwa [show Lib.index [109, 118, 97] [109] = 0 by decide +kernel] at h)
    rw [show (0 + 1 : Int) = 1 by omega] at h
    exact h) (by omega)
theorem sq_Ks2 (w : World) (hS : Std w) : Calls Tryz.prog 28 #[.string ⟨⟨[113, 32, 120, 32, 49, 32, 48, 32, 52]⟩⟩] w fun e w' => e = .returned (vp [va [vu 0, vu 0, vi 0, vi 0, vi 0], vi 4]) ∧ Below w.heap.size w w' :=
  sparse_bad _ 0 1 1 0 4 w hS (fun w hS => by
    have h := read_5 ⟨⟨[113, 32, 120, 32, 49, 32, 48, 32, 52]⟩⟩ [113] [120] [49] [48] [52] 1 1 0 0 4 (-1) w hS (by decide) (by decide +kernel) (by decide) (by decide) (by omega) (by omega) (fun W hW => by
    have h := parse_text 1 1 W hW.tab (by omega) (by omega) (by omega) (by omega)
    rwa [show textL 1 1 = [120, 32, 49] by decide +kernel] at h) (fun W hW => by
    have h := atoi_gen ⟨⟨[48]⟩⟩ W hW (by decide)
    unfold AtE at h
    rwa [show atv (ByteArray.mk ⟨[48]⟩).data.toList = 0 by decide +kernel] at h) (fun W hW => by
    have h := atoi_gen ⟨⟨[52]⟩⟩ W hW (by decide)
    unfold AtE at h
    rwa [show atv (ByteArray.mk ⟨[52]⟩).data.toList = 4 by decide +kernel] at h) (fun W hW => by
    have h := index_det [113] W hW
    rwa [show Lib.index [109, 118, 97] [113] = (-1) by decide +kernel] at h)
    rw [show ((-1) + 1 : Int) = 0 by omega] at h
    exact h) (by omega)
theorem sKs_ok (t : Nat → TypeId) : Ents Tryz.prog (tabG t) sKs := by
  intro e he
  unfold sKs at he
  simp only [List.mem_cons, List.not_mem_nil, or_false] at he
  rcases he with rfl | rfl | rfl
  · exact ⟨known_calls sq_Ks0, rfl, rfl⟩
  · exact ⟨known_calls sq_Ks1, rfl, rfl⟩
  · exact ⟨known_calls sq_Ks2, rfl, rfl⟩

end Go.Proofs.YtkmmnlhmfiabfaaGreatDoor
