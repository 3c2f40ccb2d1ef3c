/-
  Says: SheetsNone answers true at every input.
-/
import Derived.Test.YtaacmbmnlhoghaaDoorKZ1
import Derived.Test.YtaacmbmnlhoghaaDoorKZ2
import Derived.Test.YtaacmbmnlhoghaaDoorKZ3
import Derived.Test.YtaacmbmnlhoghaaDoorKZ4
import Derived.KernelRfl
set_option maxRecDepth 1000000
set_option linter.unusedVariables false
set_option linter.unusedSimpArgs false
namespace Go.Proofs.YtaacmbmnlhoghaaDoor
open Go Go.Vx

open Go.RowKit
theorem allN_app {p : Nat → Bool} : ∀ {m lo n : Nat}, allN p m lo = true → allN p n (lo + m) = true → allN p (m + n) lo = true := by
  haveI := anySyms
  intro m
  induction m with
  | zero => intro lo n _ h; rw [Nat.zero_add]; exact h
  | succ m ih =>
    intro lo n h k
    change Bool.rec (motive := fun _ => Bool) false (allN p m (Nat.succ lo)) (p lo) = true at h
    rw [Nat.succ_add]
    show Bool.rec (motive := fun _ => Bool) false (allN p (m + n) (Nat.succ lo)) (p lo) = true
    cases hp : p lo with
    | false => rw [hp] at h; cases h
    | true =>
      rw [hp] at h
      exact ih h (by rw [show Nat.succ lo + m = lo + (m + 1) by omega]; exact k)
theorem na_1_1 (t : Nat → TypeId) : allN (nnA t 1 1 rw_1_1) (12 * 1 * 1) 0 = true := na_1_1_0 t
theorem nb_1_1 (t : Nat → TypeId) : allN (nnB t 1 1 rw_1_1) (4 * 1 * 1) 0 = true := nb_1_1_0 t
theorem na_1_2 (t : Nat → TypeId) : allN (nnA t 1 2 rw_1_2) (12 * 1 * 2) 0 = true := na_1_2_0 t
theorem nb_1_2 (t : Nat → TypeId) : allN (nnB t 1 2 rw_1_2) (4 * 1 * 2) 0 = true := nb_1_2_0 t
theorem na_1_3 (t : Nat → TypeId) : allN (nnA t 1 3 rw_1_3) (12 * 1 * 3) 0 = true := na_1_3_0 t
theorem nb_1_3 (t : Nat → TypeId) : allN (nnB t 1 3 rw_1_3) (4 * 1 * 3) 0 = true := nb_1_3_0 t
theorem na_1_4 (t : Nat → TypeId) : allN (nnA t 1 4 rw_1_4) (12 * 1 * 4) 0 = true := na_1_4_0 t
theorem nb_1_4 (t : Nat → TypeId) : allN (nnB t 1 4 rw_1_4) (4 * 1 * 4) 0 = true := nb_1_4_0 t
theorem na_1_5 (t : Nat → TypeId) : allN (nnA t 1 5 rw_1_5) (12 * 1 * 5) 0 = true := na_1_5_0 t
theorem nb_1_5 (t : Nat → TypeId) : allN (nnB t 1 5 rw_1_5) (4 * 1 * 5) 0 = true := nb_1_5_0 t
theorem na_2_1 (t : Nat → TypeId) : allN (nnA t 2 1 rw_2_1) (12 * 2 * 1) 0 = true := na_2_1_0 t
theorem nb_2_1 (t : Nat → TypeId) : allN (nnB t 2 1 rw_2_1) (4 * 2 * 1) 0 = true := nb_2_1_0 t
theorem na_2_2 (t : Nat → TypeId) : allN (nnA t 2 2 rw_2_2) (12 * 2 * 2) 0 = true := na_2_2_0 t
theorem nb_2_2 (t : Nat → TypeId) : allN (nnB t 2 2 rw_2_2) (4 * 2 * 2) 0 = true := nb_2_2_0 t
theorem na_2_3 (t : Nat → TypeId) : allN (nnA t 2 3 rw_2_3) (12 * 2 * 3) 0 = true := na_2_3_0 t
theorem nb_2_3 (t : Nat → TypeId) : allN (nnB t 2 3 rw_2_3) (4 * 2 * 3) 0 = true := nb_2_3_0 t
theorem na_2_4 (t : Nat → TypeId) : allN (nnA t 2 4 rw_2_4) (12 * 2 * 4) 0 = true := na_2_4_0 t
theorem nb_2_4 (t : Nat → TypeId) : allN (nnB t 2 4 rw_2_4) (4 * 2 * 4) 0 = true := nb_2_4_0 t
theorem na_2_5 (t : Nat → TypeId) : allN (nnA t 2 5 rw_2_5) (12 * 2 * 5) 0 = true := na_2_5_0 t
theorem nb_2_5 (t : Nat → TypeId) : allN (nnB t 2 5 rw_2_5) (4 * 2 * 5) 0 = true := nb_2_5_0 t
theorem na_3_1 (t : Nat → TypeId) : allN (nnA t 3 1 rw_3_1) (12 * 3 * 1) 0 = true := na_3_1_0 t
theorem nb_3_1 (t : Nat → TypeId) : allN (nnB t 3 1 rw_3_1) (4 * 3 * 1) 0 = true := nb_3_1_0 t
theorem na_3_2 (t : Nat → TypeId) : allN (nnA t 3 2 rw_3_2) (12 * 3 * 2) 0 = true := na_3_2_0 t
theorem nb_3_2 (t : Nat → TypeId) : allN (nnB t 3 2 rw_3_2) (4 * 3 * 2) 0 = true := nb_3_2_0 t
theorem na_3_3 (t : Nat → TypeId) : allN (nnA t 3 3 rw_3_3) (12 * 3 * 3) 0 = true := na_3_3_0 t
theorem nb_3_3 (t : Nat → TypeId) : allN (nnB t 3 3 rw_3_3) (4 * 3 * 3) 0 = true := nb_3_3_0 t
theorem na_3_4 (t : Nat → TypeId) : allN (nnA t 3 4 rw_3_4) (12 * 3 * 4) 0 = true := allN_app (m := 72) (lo := 0) (n := 72) (na_3_4_0 t) (na_3_4_1 t)
theorem nb_3_4 (t : Nat → TypeId) : allN (nnB t 3 4 rw_3_4) (4 * 3 * 4) 0 = true := allN_app (m := 24) (lo := 0) (n := 24) (nb_3_4_0 t) (nb_3_4_1 t)
theorem na_3_5 (t : Nat → TypeId) : allN (nnA t 3 5 rw_3_5) (12 * 3 * 5) 0 = true := allN_app (m := 60) (lo := 0) (n := 120) (na_3_5_0 t) (allN_app (m := 60) (lo := 60) (n := 60) (na_3_5_1 t) (na_3_5_2 t))
theorem nb_3_5 (t : Nat → TypeId) : allN (nnB t 3 5 rw_3_5) (4 * 3 * 5) 0 = true := allN_app (m := 30) (lo := 0) (n := 30) (nb_3_5_0 t) (nb_3_5_1 t)
theorem na_4_1 (t : Nat → TypeId) : allN (nnA t 4 1 rw_4_1) (12 * 4 * 1) 0 = true := na_4_1_0 t
theorem nb_4_1 (t : Nat → TypeId) : allN (nnB t 4 1 rw_4_1) (4 * 4 * 1) 0 = true := nb_4_1_0 t
theorem na_4_2 (t : Nat → TypeId) : allN (nnA t 4 2 rw_4_2) (12 * 4 * 2) 0 = true := na_4_2_0 t
theorem nb_4_2 (t : Nat → TypeId) : allN (nnB t 4 2 rw_4_2) (4 * 4 * 2) 0 = true := nb_4_2_0 t
theorem na_4_3 (t : Nat → TypeId) : allN (nnA t 4 3 rw_4_3) (12 * 4 * 3) 0 = true := allN_app (m := 72) (lo := 0) (n := 72) (na_4_3_0 t) (na_4_3_1 t)
theorem nb_4_3 (t : Nat → TypeId) : allN (nnB t 4 3 rw_4_3) (4 * 4 * 3) 0 = true := allN_app (m := 24) (lo := 0) (n := 24) (nb_4_3_0 t) (nb_4_3_1 t)
theorem na_4_4 (t : Nat → TypeId) : allN (nnA t 4 4 rw_4_4) (12 * 4 * 4) 0 = true := allN_app (m := 64) (lo := 0) (n := 128) (na_4_4_0 t) (allN_app (m := 64) (lo := 64) (n := 64) (na_4_4_1 t) (na_4_4_2 t))
theorem nb_4_4 (t : Nat → TypeId) : allN (nnB t 4 4 rw_4_4) (4 * 4 * 4) 0 = true := allN_app (m := 21) (lo := 0) (n := 43) (nb_4_4_0 t) (allN_app (m := 21) (lo := 21) (n := 22) (nb_4_4_1 t) (nb_4_4_2 t))
theorem na_4_5 (t : Nat → TypeId) : allN (nnA t 4 5 rw_4_5) (12 * 4 * 5) 0 = true := allN_app (m := 60) (lo := 0) (n := 180) (na_4_5_0 t) (allN_app (m := 60) (lo := 60) (n := 120) (na_4_5_1 t) (allN_app (m := 60) (lo := 120) (n := 60) (na_4_5_2 t) (na_4_5_3 t)))
theorem nb_4_5 (t : Nat → TypeId) : allN (nnB t 4 5 rw_4_5) (4 * 4 * 5) 0 = true := allN_app (m := 20) (lo := 0) (n := 60) (nb_4_5_0 t) (allN_app (m := 20) (lo := 20) (n := 40) (nb_4_5_1 t) (allN_app (m := 20) (lo := 40) (n := 20) (nb_4_5_2 t) (nb_4_5_3 t)))
theorem na_5_1 (t : Nat → TypeId) : allN (nnA t 5 1 rw_5_1) (12 * 5 * 1) 0 = true := na_5_1_0 t
theorem nb_5_1 (t : Nat → TypeId) : allN (nnB t 5 1 rw_5_1) (4 * 5 * 1) 0 = true := nb_5_1_0 t
theorem na_5_2 (t : Nat → TypeId) : allN (nnA t 5 2 rw_5_2) (12 * 5 * 2) 0 = true := na_5_2_0 t
theorem nb_5_2 (t : Nat → TypeId) : allN (nnB t 5 2 rw_5_2) (4 * 5 * 2) 0 = true := nb_5_2_0 t
theorem na_5_3 (t : Nat → TypeId) : allN (nnA t 5 3 rw_5_3) (12 * 5 * 3) 0 = true := allN_app (m := 60) (lo := 0) (n := 120) (na_5_3_0 t) (allN_app (m := 60) (lo := 60) (n := 60) (na_5_3_1 t) (na_5_3_2 t))
theorem nb_5_3 (t : Nat → TypeId) : allN (nnB t 5 3 rw_5_3) (4 * 5 * 3) 0 = true := allN_app (m := 30) (lo := 0) (n := 30) (nb_5_3_0 t) (nb_5_3_1 t)
theorem na_5_4 (t : Nat → TypeId) : allN (nnA t 5 4 rw_5_4) (12 * 5 * 4) 0 = true := allN_app (m := 60) (lo := 0) (n := 180) (na_5_4_0 t) (allN_app (m := 60) (lo := 60) (n := 120) (na_5_4_1 t) (allN_app (m := 60) (lo := 120) (n := 60) (na_5_4_2 t) (na_5_4_3 t)))
theorem nb_5_4 (t : Nat → TypeId) : allN (nnB t 5 4 rw_5_4) (4 * 5 * 4) 0 = true := allN_app (m := 20) (lo := 0) (n := 60) (nb_5_4_0 t) (allN_app (m := 20) (lo := 20) (n := 40) (nb_5_4_1 t) (allN_app (m := 20) (lo := 40) (n := 20) (nb_5_4_2 t) (nb_5_4_3 t)))
theorem na_5_5 (t : Nat → TypeId) : allN (nnA t 5 5 rw_5_5) (12 * 5 * 5) 0 = true := allN_app (m := 42) (lo := 0) (n := 258) (na_5_5_0 t) (allN_app (m := 43) (lo := 42) (n := 215) (na_5_5_1 t) (allN_app (m := 43) (lo := 85) (n := 172) (na_5_5_2 t) (allN_app (m := 43) (lo := 128) (n := 129) (na_5_5_3 t) (allN_app (m := 43) (lo := 171) (n := 86) (na_5_5_4 t) (allN_app (m := 43) (lo := 214) (n := 43) (na_5_5_5 t) (na_5_5_6 t))))))
theorem nb_5_5 (t : Nat → TypeId) : allN (nnB t 5 5 rw_5_5) (4 * 5 * 5) 0 = true := allN_app (m := 16) (lo := 0) (n := 84) (nb_5_5_0 t) (allN_app (m := 17) (lo := 16) (n := 67) (nb_5_5_1 t) (allN_app (m := 17) (lo := 33) (n := 50) (nb_5_5_2 t) (allN_app (m := 16) (lo := 50) (n := 34) (nb_5_5_3 t) (allN_app (m := 17) (lo := 66) (n := 17) (nb_5_5_4 t) (nb_5_5_5 t)))))
theorem nn_all (t : Nat → TypeId) (a b i e : Int) (h_a : 0 ≤ a ∧ a ≤ 255) (h_b : 0 ≤ b ∧ b ≤ 255) (h_i : -9223372036854775808 ≤ i ∧ i ≤ 9223372036854775807) (h_e : 0 ≤ e ∧ e ≤ 255) : Known Tryd.prog (tabG t) 6 [.agg ⟨[.int .u8 a, .int .u8 b]⟩, .agg ⟨[.int .i64 i, .int .u8 e]⟩] (.bool true) := by
  have ca : a % 5 = 0 ∨ a % 5 = 1 ∨ a % 5 = 2 ∨ a % 5 = 3 ∨ a % 5 = 4 := by omega
  have cb : b % 5 = 0 ∨ b % 5 = 1 ∨ b % 5 = 2 ∨ b % 5 = 3 ∨ b % 5 = 4 := by omega
  rcases ca with ca | ca | ca | ca | ca
  · rcases cb with cb | cb | cb | cb | cb
    · exact nn_cls t a b i e (W := 1) (H := 1) (rk_1_1 t) (nu_1_1 t) (ne_1_1 t) (na_1_1 t) (nb_1_1 t) (nc_1_1 t) (fun hi => ca_1_1 i hi) h_a h_b h_i h_e (by omega) (by omega)
    · exact nn_cls t a b i e (W := 1) (H := 2) (rk_1_2 t) (nu_1_2 t) (ne_1_2 t) (na_1_2 t) (nb_1_2 t) (nc_1_2 t) (fun hi => ca_1_2 i hi) h_a h_b h_i h_e (by omega) (by omega)
    · exact nn_cls t a b i e (W := 1) (H := 3) (rk_1_3 t) (nu_1_3 t) (ne_1_3 t) (na_1_3 t) (nb_1_3 t) (nc_1_3 t) (fun hi => ca_1_3 i hi) h_a h_b h_i h_e (by omega) (by omega)
    · exact nn_cls t a b i e (W := 1) (H := 4) (rk_1_4 t) (nu_1_4 t) (ne_1_4 t) (na_1_4 t) (nb_1_4 t) (nc_1_4 t) (fun hi => ca_1_4 i hi) h_a h_b h_i h_e (by omega) (by omega)
    · exact nn_cls t a b i e (W := 1) (H := 5) (rk_1_5 t) (nu_1_5 t) (ne_1_5 t) (na_1_5 t) (nb_1_5 t) (nc_1_5 t) (fun hi => ca_1_5 i hi) h_a h_b h_i h_e (by omega) (by omega)
  · rcases cb with cb | cb | cb | cb | cb
    · exact nn_cls t a b i e (W := 2) (H := 1) (rk_2_1 t) (nu_2_1 t) (ne_2_1 t) (na_2_1 t) (nb_2_1 t) (nc_2_1 t) (fun hi => ca_2_1 i hi) h_a h_b h_i h_e (by omega) (by omega)
    · exact nn_cls t a b i e (W := 2) (H := 2) (rk_2_2 t) (nu_2_2 t) (ne_2_2 t) (na_2_2 t) (nb_2_2 t) (nc_2_2 t) (fun hi => ca_2_2 i hi) h_a h_b h_i h_e (by omega) (by omega)
    · exact nn_cls t a b i e (W := 2) (H := 3) (rk_2_3 t) (nu_2_3 t) (ne_2_3 t) (na_2_3 t) (nb_2_3 t) (nc_2_3 t) (fun hi => ca_2_3 i hi) h_a h_b h_i h_e (by omega) (by omega)
    · exact nn_cls t a b i e (W := 2) (H := 4) (rk_2_4 t) (nu_2_4 t) (ne_2_4 t) (na_2_4 t) (nb_2_4 t) (nc_2_4 t) (fun hi => ca_2_4 i hi) h_a h_b h_i h_e (by omega) (by omega)
    · exact nn_cls t a b i e (W := 2) (H := 5) (rk_2_5 t) (nu_2_5 t) (ne_2_5 t) (na_2_5 t) (nb_2_5 t) (nc_2_5 t) (fun hi => ca_2_5 i hi) h_a h_b h_i h_e (by omega) (by omega)
  · rcases cb with cb | cb | cb | cb | cb
    · exact nn_cls t a b i e (W := 3) (H := 1) (rk_3_1 t) (nu_3_1 t) (ne_3_1 t) (na_3_1 t) (nb_3_1 t) (nc_3_1 t) (fun hi => ca_3_1 i hi) h_a h_b h_i h_e (by omega) (by omega)
    · exact nn_cls t a b i e (W := 3) (H := 2) (rk_3_2 t) (nu_3_2 t) (ne_3_2 t) (na_3_2 t) (nb_3_2 t) (nc_3_2 t) (fun hi => ca_3_2 i hi) h_a h_b h_i h_e (by omega) (by omega)
    · exact nn_cls t a b i e (W := 3) (H := 3) (rk_3_3 t) (nu_3_3 t) (ne_3_3 t) (na_3_3 t) (nb_3_3 t) (nc_3_3 t) (fun hi => ca_3_3 i hi) h_a h_b h_i h_e (by omega) (by omega)
    · exact nn_cls t a b i e (W := 3) (H := 4) (rk_3_4 t) (nu_3_4 t) (ne_3_4 t) (na_3_4 t) (nb_3_4 t) (nc_3_4 t) (fun hi => ca_3_4 i hi) h_a h_b h_i h_e (by omega) (by omega)
    · exact nn_cls t a b i e (W := 3) (H := 5) (rk_3_5 t) (nu_3_5 t) (ne_3_5 t) (na_3_5 t) (nb_3_5 t) (nc_3_5 t) (fun hi => ca_3_5 i hi) h_a h_b h_i h_e (by omega) (by omega)
  · rcases cb with cb | cb | cb | cb | cb
    · exact nn_cls t a b i e (W := 4) (H := 1) (rk_4_1 t) (nu_4_1 t) (ne_4_1 t) (na_4_1 t) (nb_4_1 t) (nc_4_1 t) (fun hi => ca_4_1 i hi) h_a h_b h_i h_e (by omega) (by omega)
    · exact nn_cls t a b i e (W := 4) (H := 2) (rk_4_2 t) (nu_4_2 t) (ne_4_2 t) (na_4_2 t) (nb_4_2 t) (nc_4_2 t) (fun hi => ca_4_2 i hi) h_a h_b h_i h_e (by omega) (by omega)
    · exact nn_cls t a b i e (W := 4) (H := 3) (rk_4_3 t) (nu_4_3 t) (ne_4_3 t) (na_4_3 t) (nb_4_3 t) (nc_4_3 t) (fun hi => ca_4_3 i hi) h_a h_b h_i h_e (by omega) (by omega)
    · exact nn_cls t a b i e (W := 4) (H := 4) (rk_4_4 t) (nu_4_4 t) (ne_4_4 t) (na_4_4 t) (nb_4_4 t) (nc_4_4 t) (fun hi => ca_4_4 i hi) h_a h_b h_i h_e (by omega) (by omega)
    · exact nn_cls t a b i e (W := 4) (H := 5) (rk_4_5 t) (nu_4_5 t) (ne_4_5 t) (na_4_5 t) (nb_4_5 t) (nc_4_5 t) (fun hi => ca_4_5 i hi) h_a h_b h_i h_e (by omega) (by omega)
  · rcases cb with cb | cb | cb | cb | cb
    · exact nn_cls t a b i e (W := 5) (H := 1) (rk_5_1 t) (nu_5_1 t) (ne_5_1 t) (na_5_1 t) (nb_5_1 t) (nc_5_1 t) (fun hi => ca_5_1 i hi) h_a h_b h_i h_e (by omega) (by omega)
    · exact nn_cls t a b i e (W := 5) (H := 2) (rk_5_2 t) (nu_5_2 t) (ne_5_2 t) (na_5_2 t) (nb_5_2 t) (nc_5_2 t) (fun hi => ca_5_2 i hi) h_a h_b h_i h_e (by omega) (by omega)
    · exact nn_cls t a b i e (W := 5) (H := 3) (rk_5_3 t) (nu_5_3 t) (ne_5_3 t) (na_5_3 t) (nb_5_3 t) (nc_5_3 t) (fun hi => ca_5_3 i hi) h_a h_b h_i h_e (by omega) (by omega)
    · exact nn_cls t a b i e (W := 5) (H := 4) (rk_5_4 t) (nu_5_4 t) (ne_5_4 t) (na_5_4 t) (nb_5_4 t) (nc_5_4 t) (fun hi => ca_5_4 i hi) h_a h_b h_i h_e (by omega) (by omega)
    · exact nn_cls t a b i e (W := 5) (H := 5) (rk_5_5 t) (nu_5_5 t) (ne_5_5 t) (na_5_5 t) (nb_5_5 t) (nc_5_5 t) (fun hi => ca_5_5 i hi) h_a h_b h_i h_e (by omega) (by omega)
theorem sheetsnone_law (a b i e : Int) (w : World) (hL : Lay w) (a0 : 0 ≤ a) (a1 : a ≤ 255) (b0 : 0 ≤ b) (b1 : b ≤ 255) (i0 : -9223372036854775808 ≤ i) (i1 : i ≤ 9223372036854775807) (e0 : 0 ≤ e) (e1 : e ≤ 255) : Calls Tryd.prog 6 #[.agg #[.int .u8 a, .int .u8 b], .agg #[.int .i64 i, .int .u8 e]] w fun r w' => r = .returned (.bool true) ∧ Below w.heap.size w w' := by
  haveI := anySyms
  exact (nn_all (typ w) a b i e ⟨a0, a1⟩ ⟨b0, b1⟩ ⟨i0, i1⟩ ⟨e0, e1⟩).calls (lies_G hL)

end Go.Proofs.YtaacmbmnlhoghaaDoor
