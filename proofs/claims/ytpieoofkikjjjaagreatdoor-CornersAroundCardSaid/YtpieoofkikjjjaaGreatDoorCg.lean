/-
  Says: CornersAround at a sheet, from its runs.
-/
import Derived.Test.YtpieoofkikjjjaaGreatDoorKl
import Derived.Test.YtpieoofkikjjjaaGreatDoorVx24
import Derived.KernelRfl
set_option maxRecDepth 1000000
set_option linter.unusedVariables false
set_option linter.unusedSimpArgs false
namespace Go.Proofs.YtpieoofkikjjjaaGreatDoor
open Go Go.Vx
attribute [local instance] anyKeeps
open Go.RowKit
theorem all_of {α : Type} {f : α → Bool} {l : List α} (h : allL f l = true) : ∀ x ∈ l, f x = true := by
  rw [allL_eq] at h
  exact List.all_eq_true.1 h
theorem all_app {α : Type} {f : α → Bool} {l m : List α} (h : allL f l = true) (k : allL f m = true) : allL f (l ++ m) = true := by
  rw [allL_eq] at h k ⊢
  rw [List.all_append, h, k]
  rfl
variable {t : Nat → TypeId} {Q : Orc} {w h n : Nat}
/-- The law at a sheet and a corner. -/
noncomputable def rK (t : Nat → TypeId) (Q : Orc) (w h n c : Nat) : Bool := isVal vt (@run (tabPrims [(4, vy 0, vu 5, vu (w - 1)), (4, vy 1, vu 5, vu (h - 1)), (4, vy 3, vi n, vi c)] [(3, vy 2, vy 3)]) Tryz.prog (orElse (valOrc (fun _ => false) (tabG t) (ansT [])) Q) 1000000 (.call 5 [va [vy 0, vy 1], vy 2] (tabG t)))
theorem law_sheet (hQ : ∀ [Syms], OrcOk Tryz.prog (tabG t) Q) {L : List Nat} (hn : 0 < n) (h1 : allL (rK t Q w h n) L = true) (hm : ∀ c < n, c ∈ L) (a b z : Int) (h_a : 0 ≤ a ∧ a ≤ 255) (h_b : 0 ≤ b ∧ b ≤ 255) (h_z : 0 ≤ z ∧ z ≤ 255) (hw : a % 5 = ((w - 1 : Nat) : Int)) (hh : b % 5 = ((h - 1 : Nat) : Int)) : Known Tryz.prog (tabG t) 5 [.agg ⟨[.int .u8 a, .int .u8 b]⟩, .int .u8 z] (.bool true) := by
  have q1 := Int.emod_nonneg z (b := (n : Int)) (by omega)
  have q2 := Int.emod_lt_of_pos z (b := (n : Int)) (by omega)
  obtain ⟨c, hc⟩ : ∃ c : Nat, z % (n : Int) = (c : Int) := ⟨(z % (n : Int)).toNat, by omega⟩
  have h4 := all_of h1 c (hm c (by omega))
  exact path_more (ρ := ofInts [(.u8, a), (.u8, b), (.u8, z), (.i64, z)]) (tabs_G t) (size_V t) (floor_V t) (ofInts_plain _) (bt := [(4, vy 0, vu 5, vu (w - 1)), (4, vy 1, vu 5, vu (h - 1)), (4, vy 3, vi n, vi c)]) (ct := [(3, vy 2, vy 3)])
    ⟨bw_rem (a := a) (b := 5) (c := ((w - 1 : Nat) : Int)) rfl rfl rfl rfl rfl (by omega) (by omega) rfl (by omega), bw_rem (a := b) (b := 5) (c := ((h - 1 : Nat) : Int)) rfl rfl rfl rfl rfl (by omega) (by omega) rfl (by omega), bw_rem (a := z) (b := (n : Int)) (c := (c : Int)) rfl rfl rfl rfl rfl (by omega) (by omega) rfl hc.symm, trivial⟩
    ⟨b6_conv (a := z) (c := z) rfl rfl rfl rfl rfl rfl (by omega) (by omega), trivial⟩ (el := []) trivial (Q2 := Q) (hQ2 := hQ) (args := [va [vy 0, vy 1], vy 2]) (v := vt) rfl rfl (by kernel_rfl) h4
theorem mem_lt {L : List Nat} {n : Nat} (h : ∀ c < n, (L.contains c) = true) : ∀ c < n, c ∈ L := fun c hc => by simpa using h c hc

end Go.Proofs.YtpieoofkikjjjaaGreatDoor
