/-
  Says: SheetsNeighbour answers true at every input.
-/
import Derived.Test.YtaacmbmnlhoghaaDoorKM1
import Derived.Test.YtaacmbmnlhoghaaDoorKM2
import Derived.Test.YtaacmbmnlhoghaaDoorKM3
import Derived.Test.YtaacmbmnlhoghaaDoorKM4
import Derived.Test.YtaacmbmnlhoghaaDoorKM5
import Derived.Test.YtaacmbmnlhoghaaDoorKU1
import Derived.Test.YtaacmbmnlhoghaaDoorKU2
import Derived.Test.YtaacmbmnlhoghaaDoorKU3
import Derived.KernelRfl
set_option maxRecDepth 1000000
set_option linter.unusedVariables false
set_option linter.unusedSimpArgs false
namespace Go.Proofs.YtaacmbmnlhoghaaDoor
open Go Go.Vx

open Go.RowKit
theorem lw_in (t : Nat → TypeId) (a b : Int) {W H : Nat} (hA : allN (lawAt t W H) (12 * W * H) 0 = true) (h_a : 0 ≤ a ∧ a ≤ 255) (h_b : 0 ≤ b ∧ b ≤ 255) (hw : 1 + a % 5 = W) (hh : 1 + b % 5 = H) (id e : Nat) (h1 : id < 4 * (W * H)) (h2 : e < 3) : Known Tryd.prog (tabG t) 4 [.agg ⟨[.int .u8 a, .int .u8 b]⟩, .int .i64 (id : Int), .int .u8 (e : Int)] (.bool true) := by
  have hj : 3 * id + e < 0 + 12 * W * H := by
    rw [show 12 * W * H = 12 * (W * H) from Nat.mul_assoc _ _ _]
    omega
  have h := (haveI := anySyms; allN_get hA (3 * id + e) (Nat.zero_le _) hj)
  have d1 : Nat.div (3 * id + e) 3 = id := by show (3 * id + e) / 3 = id; omega
  have d2 : Nat.mod (3 * id + e) 3 = e := by show (3 * id + e) % 3 = e; omega
  unfold lawAt at h
  rw [d1, d2] at h
  exact path_more (ρ := ofInts [(.u8, a), (.u8, b)]) (tabs_G t) (size_V t) (floor_V t) (ofInts_plain _) (bt := []) (ct := []) trivial trivial (el := [(8, [va [vy 0, vy 1]], va [vi W, vi H])]) ⟨⟨rfl, rfl, of_cls t a b W H h_a h_b hw hh⟩, trivial⟩ (Q2 := QL t) (hQ2 := QL_ok t) (args := [va [vy 0, vy 1], vi id, vu e]) (v := vt) rfl rfl (by kernel_rfl) h
theorem lw_cls (t : Nat → TypeId) (a b i e : Int) {W H : Nat} (hA : allN (lawAt t W H) (12 * W * H) 0 = true) (h_a : 0 ≤ a ∧ a ≤ 255) (h_b : 0 ≤ b ∧ b ≤ 255) (h_i : -9223372036854775808 ≤ i ∧ i ≤ 9223372036854775807) (h_e : 0 ≤ e ∧ e ≤ 255) (hw : 1 + a % 5 = W) (hh : 1 + b % 5 = H)
    (o0 : i ≤ -1 → Known Tryd.prog (tabG t) 4 [.agg ⟨[.int .u8 a, .int .u8 b]⟩, .int .i64 i, .int .u8 e] (.bool true))
    (o1 : ((4 * (W * H) : Nat) : Int) ≤ i → Known Tryd.prog (tabG t) 4 [.agg ⟨[.int .u8 a, .int .u8 b]⟩, .int .i64 i, .int .u8 e] (.bool true))
    (o2 : 0 ≤ i → i < ((4 * (W * H) : Nat) : Int) → 3 ≤ e → Known Tryd.prog (tabG t) 4 [.agg ⟨[.int .u8 a, .int .u8 b]⟩, .int .i64 i, .int .u8 e] (.bool true)) :
    Known Tryd.prog (tabG t) 4 [.agg ⟨[.int .u8 a, .int .u8 b]⟩, .int .i64 i, .int .u8 e] (.bool true) := by
  rcases Int.lt_or_le i 0 with h | h
  · exact o0 (by omega)
  · rcases Int.lt_or_le i ((4 * (W * H) : Nat) : Int) with h' | h'
    · rcases Int.lt_or_le e 3 with h3 | h3
      · obtain ⟨id, rfl⟩ := Int.eq_ofNat_of_zero_le h
        obtain ⟨en, rfl⟩ := Int.eq_ofNat_of_zero_le h_e.1
        exact lw_in t a b hA h_a h_b hw hh id en (by omega) (by omega)
      · exact o2 h h' h3
    · exact o1 h'
theorem lw_all (t : Nat → TypeId) (a b i e : Int) (h_a : 0 ≤ a ∧ a ≤ 255) (h_b : 0 ≤ b ∧ b ≤ 255) (h_i : -9223372036854775808 ≤ i ∧ i ≤ 9223372036854775807) (h_e : 0 ≤ e ∧ e ≤ 255) : Known Tryd.prog (tabG t) 4 [.agg ⟨[.int .u8 a, .int .u8 b]⟩, .int .i64 i, .int .u8 e] (.bool true) := by
  have ca : a % 5 = 0 ∨ a % 5 = 1 ∨ a % 5 = 2 ∨ a % 5 = 3 ∨ a % 5 = 4 := by omega
  have cb : b % 5 = 0 ∨ b % 5 = 1 ∨ b % 5 = 2 ∨ b % 5 = 3 ∨ b % 5 = 4 := by omega
  rcases ca with ca | ca | ca | ca | ca
  · rcases cb with cb | cb | cb | cb | cb
    · exact lw_cls t a b i e (W := 1) (H := 1) (lw_1_1 t) h_a h_b h_i h_e (by omega) (by omega) (fun h => o4_1_1_0 t a b i e h_a h_b ⟨h_i.1, h⟩ h_e (by omega) (by omega)) (fun h => o4_1_1_1 t a b i e h_a h_b ⟨by omega, h_i.2⟩ h_e (by omega) (by omega)) (fun h1 h2 h3 => o4_1_1_2 t a b i e h_a h_b ⟨h1, by omega⟩ ⟨h3, h_e.2⟩ (by omega) (by omega))
    · exact lw_cls t a b i e (W := 1) (H := 2) (lw_1_2 t) h_a h_b h_i h_e (by omega) (by omega) (fun h => o4_1_2_0 t a b i e h_a h_b ⟨h_i.1, h⟩ h_e (by omega) (by omega)) (fun h => o4_1_2_1 t a b i e h_a h_b ⟨by omega, h_i.2⟩ h_e (by omega) (by omega)) (fun h1 h2 h3 => o4_1_2_2 t a b i e h_a h_b ⟨h1, by omega⟩ ⟨h3, h_e.2⟩ (by omega) (by omega))
    · exact lw_cls t a b i e (W := 1) (H := 3) (lw_1_3 t) h_a h_b h_i h_e (by omega) (by omega) (fun h => o4_1_3_0 t a b i e h_a h_b ⟨h_i.1, h⟩ h_e (by omega) (by omega)) (fun h => o4_1_3_1 t a b i e h_a h_b ⟨by omega, h_i.2⟩ h_e (by omega) (by omega)) (fun h1 h2 h3 => o4_1_3_2 t a b i e h_a h_b ⟨h1, by omega⟩ ⟨h3, h_e.2⟩ (by omega) (by omega))
    · exact lw_cls t a b i e (W := 1) (H := 4) (lw_1_4 t) h_a h_b h_i h_e (by omega) (by omega) (fun h => o4_1_4_0 t a b i e h_a h_b ⟨h_i.1, h⟩ h_e (by omega) (by omega)) (fun h => o4_1_4_1 t a b i e h_a h_b ⟨by omega, h_i.2⟩ h_e (by omega) (by omega)) (fun h1 h2 h3 => o4_1_4_2 t a b i e h_a h_b ⟨h1, by omega⟩ ⟨h3, h_e.2⟩ (by omega) (by omega))
    · exact lw_cls t a b i e (W := 1) (H := 5) (lw_1_5 t) h_a h_b h_i h_e (by omega) (by omega) (fun h => o4_1_5_0 t a b i e h_a h_b ⟨h_i.1, h⟩ h_e (by omega) (by omega)) (fun h => o4_1_5_1 t a b i e h_a h_b ⟨by omega, h_i.2⟩ h_e (by omega) (by omega)) (fun h1 h2 h3 => o4_1_5_2 t a b i e h_a h_b ⟨h1, by omega⟩ ⟨h3, h_e.2⟩ (by omega) (by omega))
  · rcases cb with cb | cb | cb | cb | cb
    · exact lw_cls t a b i e (W := 2) (H := 1) (lw_2_1 t) h_a h_b h_i h_e (by omega) (by omega) (fun h => o4_2_1_0 t a b i e h_a h_b ⟨h_i.1, h⟩ h_e (by omega) (by omega)) (fun h => o4_2_1_1 t a b i e h_a h_b ⟨by omega, h_i.2⟩ h_e (by omega) (by omega)) (fun h1 h2 h3 => o4_2_1_2 t a b i e h_a h_b ⟨h1, by omega⟩ ⟨h3, h_e.2⟩ (by omega) (by omega))
    · exact lw_cls t a b i e (W := 2) (H := 2) (lw_2_2 t) h_a h_b h_i h_e (by omega) (by omega) (fun h => o4_2_2_0 t a b i e h_a h_b ⟨h_i.1, h⟩ h_e (by omega) (by omega)) (fun h => o4_2_2_1 t a b i e h_a h_b ⟨by omega, h_i.2⟩ h_e (by omega) (by omega)) (fun h1 h2 h3 => o4_2_2_2 t a b i e h_a h_b ⟨h1, by omega⟩ ⟨h3, h_e.2⟩ (by omega) (by omega))
    · exact lw_cls t a b i e (W := 2) (H := 3) (lw_2_3 t) h_a h_b h_i h_e (by omega) (by omega) (fun h => o4_2_3_0 t a b i e h_a h_b ⟨h_i.1, h⟩ h_e (by omega) (by omega)) (fun h => o4_2_3_1 t a b i e h_a h_b ⟨by omega, h_i.2⟩ h_e (by omega) (by omega)) (fun h1 h2 h3 => o4_2_3_2 t a b i e h_a h_b ⟨h1, by omega⟩ ⟨h3, h_e.2⟩ (by omega) (by omega))
    · exact lw_cls t a b i e (W := 2) (H := 4) (lw_2_4 t) h_a h_b h_i h_e (by omega) (by omega) (fun h => o4_2_4_0 t a b i e h_a h_b ⟨h_i.1, h⟩ h_e (by omega) (by omega)) (fun h => o4_2_4_1 t a b i e h_a h_b ⟨by omega, h_i.2⟩ h_e (by omega) (by omega)) (fun h1 h2 h3 => o4_2_4_2 t a b i e h_a h_b ⟨h1, by omega⟩ ⟨h3, h_e.2⟩ (by omega) (by omega))
    · exact lw_cls t a b i e (W := 2) (H := 5) (lw_2_5 t) h_a h_b h_i h_e (by omega) (by omega) (fun h => o4_2_5_0 t a b i e h_a h_b ⟨h_i.1, h⟩ h_e (by omega) (by omega)) (fun h => o4_2_5_1 t a b i e h_a h_b ⟨by omega, h_i.2⟩ h_e (by omega) (by omega)) (fun h1 h2 h3 => o4_2_5_2 t a b i e h_a h_b ⟨h1, by omega⟩ ⟨h3, h_e.2⟩ (by omega) (by omega))
  · rcases cb with cb | cb | cb | cb | cb
    · exact lw_cls t a b i e (W := 3) (H := 1) (lw_3_1 t) h_a h_b h_i h_e (by omega) (by omega) (fun h => o4_3_1_0 t a b i e h_a h_b ⟨h_i.1, h⟩ h_e (by omega) (by omega)) (fun h => o4_3_1_1 t a b i e h_a h_b ⟨by omega, h_i.2⟩ h_e (by omega) (by omega)) (fun h1 h2 h3 => o4_3_1_2 t a b i e h_a h_b ⟨h1, by omega⟩ ⟨h3, h_e.2⟩ (by omega) (by omega))
    · exact lw_cls t a b i e (W := 3) (H := 2) (lw_3_2 t) h_a h_b h_i h_e (by omega) (by omega) (fun h => o4_3_2_0 t a b i e h_a h_b ⟨h_i.1, h⟩ h_e (by omega) (by omega)) (fun h => o4_3_2_1 t a b i e h_a h_b ⟨by omega, h_i.2⟩ h_e (by omega) (by omega)) (fun h1 h2 h3 => o4_3_2_2 t a b i e h_a h_b ⟨h1, by omega⟩ ⟨h3, h_e.2⟩ (by omega) (by omega))
    · exact lw_cls t a b i e (W := 3) (H := 3) (lw_3_3 t) h_a h_b h_i h_e (by omega) (by omega) (fun h => o4_3_3_0 t a b i e h_a h_b ⟨h_i.1, h⟩ h_e (by omega) (by omega)) (fun h => o4_3_3_1 t a b i e h_a h_b ⟨by omega, h_i.2⟩ h_e (by omega) (by omega)) (fun h1 h2 h3 => o4_3_3_2 t a b i e h_a h_b ⟨h1, by omega⟩ ⟨h3, h_e.2⟩ (by omega) (by omega))
    · exact lw_cls t a b i e (W := 3) (H := 4) (lw_3_4 t) h_a h_b h_i h_e (by omega) (by omega) (fun h => o4_3_4_0 t a b i e h_a h_b ⟨h_i.1, h⟩ h_e (by omega) (by omega)) (fun h => o4_3_4_1 t a b i e h_a h_b ⟨by omega, h_i.2⟩ h_e (by omega) (by omega)) (fun h1 h2 h3 => o4_3_4_2 t a b i e h_a h_b ⟨h1, by omega⟩ ⟨h3, h_e.2⟩ (by omega) (by omega))
    · exact lw_cls t a b i e (W := 3) (H := 5) (lw_3_5 t) h_a h_b h_i h_e (by omega) (by omega) (fun h => o4_3_5_0 t a b i e h_a h_b ⟨h_i.1, h⟩ h_e (by omega) (by omega)) (fun h => o4_3_5_1 t a b i e h_a h_b ⟨by omega, h_i.2⟩ h_e (by omega) (by omega)) (fun h1 h2 h3 => o4_3_5_2 t a b i e h_a h_b ⟨h1, by omega⟩ ⟨h3, h_e.2⟩ (by omega) (by omega))
  · rcases cb with cb | cb | cb | cb | cb
    · exact lw_cls t a b i e (W := 4) (H := 1) (lw_4_1 t) h_a h_b h_i h_e (by omega) (by omega) (fun h => o4_4_1_0 t a b i e h_a h_b ⟨h_i.1, h⟩ h_e (by omega) (by omega)) (fun h => o4_4_1_1 t a b i e h_a h_b ⟨by omega, h_i.2⟩ h_e (by omega) (by omega)) (fun h1 h2 h3 => o4_4_1_2 t a b i e h_a h_b ⟨h1, by omega⟩ ⟨h3, h_e.2⟩ (by omega) (by omega))
    · exact lw_cls t a b i e (W := 4) (H := 2) (lw_4_2 t) h_a h_b h_i h_e (by omega) (by omega) (fun h => o4_4_2_0 t a b i e h_a h_b ⟨h_i.1, h⟩ h_e (by omega) (by omega)) (fun h => o4_4_2_1 t a b i e h_a h_b ⟨by omega, h_i.2⟩ h_e (by omega) (by omega)) (fun h1 h2 h3 => o4_4_2_2 t a b i e h_a h_b ⟨h1, by omega⟩ ⟨h3, h_e.2⟩ (by omega) (by omega))
    · exact lw_cls t a b i e (W := 4) (H := 3) (lw_4_3 t) h_a h_b h_i h_e (by omega) (by omega) (fun h => o4_4_3_0 t a b i e h_a h_b ⟨h_i.1, h⟩ h_e (by omega) (by omega)) (fun h => o4_4_3_1 t a b i e h_a h_b ⟨by omega, h_i.2⟩ h_e (by omega) (by omega)) (fun h1 h2 h3 => o4_4_3_2 t a b i e h_a h_b ⟨h1, by omega⟩ ⟨h3, h_e.2⟩ (by omega) (by omega))
    · exact lw_cls t a b i e (W := 4) (H := 4) (lw_4_4 t) h_a h_b h_i h_e (by omega) (by omega) (fun h => o4_4_4_0 t a b i e h_a h_b ⟨h_i.1, h⟩ h_e (by omega) (by omega)) (fun h => o4_4_4_1 t a b i e h_a h_b ⟨by omega, h_i.2⟩ h_e (by omega) (by omega)) (fun h1 h2 h3 => o4_4_4_2 t a b i e h_a h_b ⟨h1, by omega⟩ ⟨h3, h_e.2⟩ (by omega) (by omega))
    · exact lw_cls t a b i e (W := 4) (H := 5) (lw_4_5 t) h_a h_b h_i h_e (by omega) (by omega) (fun h => o4_4_5_0 t a b i e h_a h_b ⟨h_i.1, h⟩ h_e (by omega) (by omega)) (fun h => o4_4_5_1 t a b i e h_a h_b ⟨by omega, h_i.2⟩ h_e (by omega) (by omega)) (fun h1 h2 h3 => o4_4_5_2 t a b i e h_a h_b ⟨h1, by omega⟩ ⟨h3, h_e.2⟩ (by omega) (by omega))
  · rcases cb with cb | cb | cb | cb | cb
    · exact lw_cls t a b i e (W := 5) (H := 1) (lw_5_1 t) h_a h_b h_i h_e (by omega) (by omega) (fun h => o4_5_1_0 t a b i e h_a h_b ⟨h_i.1, h⟩ h_e (by omega) (by omega)) (fun h => o4_5_1_1 t a b i e h_a h_b ⟨by omega, h_i.2⟩ h_e (by omega) (by omega)) (fun h1 h2 h3 => o4_5_1_2 t a b i e h_a h_b ⟨h1, by omega⟩ ⟨h3, h_e.2⟩ (by omega) (by omega))
    · exact lw_cls t a b i e (W := 5) (H := 2) (lw_5_2 t) h_a h_b h_i h_e (by omega) (by omega) (fun h => o4_5_2_0 t a b i e h_a h_b ⟨h_i.1, h⟩ h_e (by omega) (by omega)) (fun h => o4_5_2_1 t a b i e h_a h_b ⟨by omega, h_i.2⟩ h_e (by omega) (by omega)) (fun h1 h2 h3 => o4_5_2_2 t a b i e h_a h_b ⟨h1, by omega⟩ ⟨h3, h_e.2⟩ (by omega) (by omega))
    · exact lw_cls t a b i e (W := 5) (H := 3) (lw_5_3 t) h_a h_b h_i h_e (by omega) (by omega) (fun h => o4_5_3_0 t a b i e h_a h_b ⟨h_i.1, h⟩ h_e (by omega) (by omega)) (fun h => o4_5_3_1 t a b i e h_a h_b ⟨by omega, h_i.2⟩ h_e (by omega) (by omega)) (fun h1 h2 h3 => o4_5_3_2 t a b i e h_a h_b ⟨h1, by omega⟩ ⟨h3, h_e.2⟩ (by omega) (by omega))
    · exact lw_cls t a b i e (W := 5) (H := 4) (lw_5_4 t) h_a h_b h_i h_e (by omega) (by omega) (fun h => o4_5_4_0 t a b i e h_a h_b ⟨h_i.1, h⟩ h_e (by omega) (by omega)) (fun h => o4_5_4_1 t a b i e h_a h_b ⟨by omega, h_i.2⟩ h_e (by omega) (by omega)) (fun h1 h2 h3 => o4_5_4_2 t a b i e h_a h_b ⟨h1, by omega⟩ ⟨h3, h_e.2⟩ (by omega) (by omega))
    · exact lw_cls t a b i e (W := 5) (H := 5) (lw_5_5 t) h_a h_b h_i h_e (by omega) (by omega) (fun h => o4_5_5_0 t a b i e h_a h_b ⟨h_i.1, h⟩ h_e (by omega) (by omega)) (fun h => o4_5_5_1 t a b i e h_a h_b ⟨by omega, h_i.2⟩ h_e (by omega) (by omega)) (fun h1 h2 h3 => o4_5_5_2 t a b i e h_a h_b ⟨h1, by omega⟩ ⟨h3, h_e.2⟩ (by omega) (by omega))
theorem sheetsneighbour_law (a b i e : Int) (w : World) (hL : Lay w) (a0 : 0 ≤ a) (a1 : a ≤ 255) (b0 : 0 ≤ b) (b1 : b ≤ 255) (i0 : -9223372036854775808 ≤ i) (i1 : i ≤ 9223372036854775807) (e0 : 0 ≤ e) (e1 : e ≤ 255) : Calls Tryd.prog 4 #[.agg #[.int .u8 a, .int .u8 b], .int .i64 i, .int .u8 e] w fun r w' => r = .returned (.bool true) ∧ Below w.heap.size w w' := by
  haveI := anySyms
  exact (lw_all (typ w) a b i e ⟨a0, a1⟩ ⟨b0, b1⟩ ⟨i0, i1⟩ ⟨e0, e1⟩).calls (lies_G hL)

end Go.Proofs.YtaacmbmnlhoghaaDoor
