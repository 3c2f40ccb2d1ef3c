/-
  Says: CellsNeighbour answers true at every cell, every edge and every other cell, where the tables stand as they were laid.
-/
import Derived.Test.YtgkiliijefkcaaaDoorLwNei0
import Derived.Test.YtgkiliijefkcaaaDoorLwNei1
import Derived.Test.YtgkiliijefkcaaaDoorLwNei2
import Derived.Test.YtgkiliijefkcaaaDoorLwNei3
import Derived.Test.YtgkiliijefkcaaaDoorLwNei4
import Derived.Test.YtgkiliijefkcaaaDoorLwNei5
import Derived.Test.YtgkiliijefkcaaaDoorLwTnb
import Derived.Test.YtgkiliijefkcaaaDoorCf3
set_option linter.unusedVariables false
set_option linter.unusedSimpArgs false
namespace Go.Proofs.YtgkiliijefkcaaaDoor
open Go Go.RowKit

attribute [local go_sem] World.cell?_alloc_some frozen?_alloc_cells fz0 fz1 fz2 fz3 fz4 fz5

theorem neA {a b c x y q : Int} (h : ¬ (a = x ∧ b = y ∧ c = q)) : ∀ (α : Type) (R1 R2 : α), (if a = x then if b = y then if c = q then R1 else R2 else R2 else R2) = R2 := fun _ _ _ => by
  repeat' split
  all_goals first | rfl | (exact absurd ⟨‹_›, ‹_›, ‹_›⟩ h)

theorem eqA {a b c x y q : Int} (h : a = x ∧ b = y ∧ c = q) : ∀ (α : Type) (R1 R2 : α), (if a = x then if b = y then if c = q then R1 else R2 else R2 else R2) = R1 := fun _ _ _ => by
  rw [if_pos h.1, if_pos h.2.1, if_pos h.2.2]

theorem cneiL_k0 (x y q e l m n : Int) (w : World) (hL : Lay w) (c1 : -4096 ≤ x) (c2 : x ≤ 4096) (c3 : -4096 ≤ y) (c4 : y ≤ 4096) (c5 : 0 ≤ q) (c6 : q ≤ 3) (e1 : 0 ≤ e) (e2 : e ≤ 2) (d1 : -4096 ≤ l) (d2 : l ≤ 4096) (d3 : -4096 ≤ m) (d4 : m ≤ 4096) (d5 : 0 ≤ n) (d6 : n ≤ 3) (lm : nbX q 0 x = l ∧ nbY q 0 y = m ∧ nbQ q 0 = n) : Calls Tryd.prog 4 #[cl x y q, .int .u8 e, cl l m n] w fun r w' => r = .returned (.bool true) ∧ Below w.heap.size w w' := by
  have nr := nbQ_range q e
  have nb1 : x - 1 ≤ nbX q e x ∧ nbX q e x ≤ x + 1 := by unfold nbX; (repeat' split) <;> omega
  have nb2 : y - 1 ≤ nbY q e y ∧ nbY q e y ≤ y + 1 := by unfold nbY; (repeat' split) <;> omega
  have kr := lnK_range q e
  have RE := fun W => rnei_any x y q e W (by omega) (by omega) (by omega) (by omega) c5 c6 e1 e2
  by_cases hn : -4096 ≤ nbX q e x ∧ nbX q e x ≤ 4096 ∧ -4096 ≤ nbY q e y ∧ nbY q e y ≤ 4096
  · obtain ⟨n1, n2, n3, n4⟩ := hn
    have nn := nb_nb x y q e c5 c6 e1 e2
    have VE := fun W => rvalid_yes (nbX q e x) (nbY q e y) (nbQ q e) W n1 n2 n3 n4 nr.1 nr.2
    have N1 := fun W (h : Lay W) => cnei_ok x y q e W h c1 c2 c3 c4 c5 c6 e1 e2 n1 n2 n3 n4
    have N2 := fun W (h : Lay W) => cnei_ok (nbX q e x) (nbY q e y) (nbQ q e) e W h n1 n2 n3 n4 nr.1 nr.2 e1 e2 (by rw [nn.1]; exact c1) (by rw [nn.1]; exact c2) (by rw [nn.2.1]; exact c3) (by rw [nn.2.1]; exact c4)
    rw [nn.1, nn.2.1, nn.2.2] at N2
    have T2 := fun W (h : Lay W) => ctouch_nb x y q e W h c1 c2 c3 c4 c5 c6 n1 n2 n3 n4 nr.1 nr.2 e1 e2
    have LI := fun W => rlin_any x y q e W (by omega) (by omega) (by omega) (by omega) c5 c6 e1 e2
    by_cases hl : -4096 ≤ lnC q e x y ∧ lnC q e x y ≤ 4096
    · have S1 := fun W (h : Lay W) => cown_any x y q e W h c1 c2 c3 c4 c5 c6 e1 e2 hl.1 hl.2
      have nl := nb_line x y q e c5 c6 e1 e2
      have S2 := fun W (h : Lay W) => cown_any (nbX q e x) (nbY q e y) (nbQ q e) e W h n1 n2 n3 n4 nr.1 nr.2 e1 e2 (by rw [nl.2]; exact hl.1) (by rw [nl.2]; exact hl.2)
      rw [nl.1, nl.2] at S2
      have os : 0 ≤ ownS q e ∧ ownS q e ≤ 1 := by unfold ownS; (repeat' split) <;> omega
      exact cneiL_0ok x y q e l m n _ _ _ _ _ _ _ _ _ _ _ _ _ _ _ _ w hL c1 c2 c3 c4 c5 c6 e1 e2 (fun W h => ctouch_t0 x y q l m n W h c1 c2 c3 c4 c5 c6 d1 d2 d3 d4 d5 d6  (eqR lm)) (fun W => rvalid_yes l m n W d1 d2 d3 d4 d5 d6) (fun W => rnei_any x y q 0 W (by omega) (by omega) (by omega) (by omega) c5 c6 (by omega) (by omega)) (eqA lm) (fun W => rnei_any x y q 1 W (by omega) (by omega) (by omega) (by omega) c5 c6 (by omega) (by omega)) (neA (fun h => by obtain ⟨_, _, h2⟩ := lm; have h3 := h.2.2; unfold nbQ at h2 h3; simp at h2 h3; omega)) (fun W => rnei_any x y q 2 W (by omega) (by omega) (by omega) (by omega) c5 c6 (by omega) (by omega)) (neA (fun h => by obtain ⟨_, _, h2⟩ := lm; have h3 := h.2.2; unfold nbQ at h2 h3; simp at h2 h3; omega)) RE VE N1 N2 T2 LI (fun W => valid_yes _ _ W kr.1 kr.2 hl.1 hl.2) S1 S2 os.1 os.2 (ownS_two q e c5 c6 e1 e2)
    · exact cneiL_0none x y q e l m n _ _ _ _ _ _ _ _ _ _ _ _ _ _ w hL c1 c2 c3 c4 c5 c6 e1 e2 (fun W h => ctouch_t0 x y q l m n W h c1 c2 c3 c4 c5 c6 d1 d2 d3 d4 d5 d6  (eqR lm)) (fun W => rvalid_yes l m n W d1 d2 d3 d4 d5 d6) (fun W => rnei_any x y q 0 W (by omega) (by omega) (by omega) (by omega) c5 c6 (by omega) (by omega)) (eqA lm) (fun W => rnei_any x y q 1 W (by omega) (by omega) (by omega) (by omega) c5 c6 (by omega) (by omega)) (neA (fun h => by obtain ⟨_, _, h2⟩ := lm; have h3 := h.2.2; unfold nbQ at h2 h3; simp at h2 h3; omega)) (fun W => rnei_any x y q 2 W (by omega) (by omega) (by omega) (by omega) c5 c6 (by omega) (by omega)) (neA (fun h => by obtain ⟨_, _, h2⟩ := lm; have h3 := h.2.2; unfold nbQ at h2 h3; simp at h2 h3; omega)) RE VE N1 N2 T2 LI (fun W => valid_no _ _ W (by omega))
  · exact cneiL_0far x y q e l m n _ _ _ _ _ _ _ _ _ _ _ _ w hL c1 c2 c3 c4 c5 c6 e1 e2 (fun W h => ctouch_t0 x y q l m n W h c1 c2 c3 c4 c5 c6 d1 d2 d3 d4 d5 d6  (eqR lm)) (fun W => rvalid_yes l m n W d1 d2 d3 d4 d5 d6) (fun W => rnei_any x y q 0 W (by omega) (by omega) (by omega) (by omega) c5 c6 (by omega) (by omega)) (eqA lm) (fun W => rnei_any x y q 1 W (by omega) (by omega) (by omega) (by omega) c5 c6 (by omega) (by omega)) (neA (fun h => by obtain ⟨_, _, h2⟩ := lm; have h3 := h.2.2; unfold nbQ at h2 h3; simp at h2 h3; omega)) (fun W => rnei_any x y q 2 W (by omega) (by omega) (by omega) (by omega) c5 c6 (by omega) (by omega)) (neA (fun h => by obtain ⟨_, _, h2⟩ := lm; have h3 := h.2.2; unfold nbQ at h2 h3; simp at h2 h3; omega)) RE (fun W => rvalid_no _ _ _ W (by omega)) (fun W h => cnei_far x y q e W h c1 c2 c3 c4 c5 c6 e1 e2 (by omega))

theorem cneiL_k1 (x y q e l m n : Int) (w : World) (hL : Lay w) (c1 : -4096 ≤ x) (c2 : x ≤ 4096) (c3 : -4096 ≤ y) (c4 : y ≤ 4096) (c5 : 0 ≤ q) (c6 : q ≤ 3) (e1 : 0 ≤ e) (e2 : e ≤ 2) (d1 : -4096 ≤ l) (d2 : l ≤ 4096) (d3 : -4096 ≤ m) (d4 : m ≤ 4096) (d5 : 0 ≤ n) (d6 : n ≤ 3) (lm : nbX q 1 x = l ∧ nbY q 1 y = m ∧ nbQ q 1 = n) : Calls Tryd.prog 4 #[cl x y q, .int .u8 e, cl l m n] w fun r w' => r = .returned (.bool true) ∧ Below w.heap.size w w' := by
  have nr := nbQ_range q e
  have nb1 : x - 1 ≤ nbX q e x ∧ nbX q e x ≤ x + 1 := by unfold nbX; (repeat' split) <;> omega
  have nb2 : y - 1 ≤ nbY q e y ∧ nbY q e y ≤ y + 1 := by unfold nbY; (repeat' split) <;> omega
  have kr := lnK_range q e
  have RE := fun W => rnei_any x y q e W (by omega) (by omega) (by omega) (by omega) c5 c6 e1 e2
  by_cases hn : -4096 ≤ nbX q e x ∧ nbX q e x ≤ 4096 ∧ -4096 ≤ nbY q e y ∧ nbY q e y ≤ 4096
  · obtain ⟨n1, n2, n3, n4⟩ := hn
    have nn := nb_nb x y q e c5 c6 e1 e2
    have VE := fun W => rvalid_yes (nbX q e x) (nbY q e y) (nbQ q e) W n1 n2 n3 n4 nr.1 nr.2
    have N1 := fun W (h : Lay W) => cnei_ok x y q e W h c1 c2 c3 c4 c5 c6 e1 e2 n1 n2 n3 n4
    have N2 := fun W (h : Lay W) => cnei_ok (nbX q e x) (nbY q e y) (nbQ q e) e W h n1 n2 n3 n4 nr.1 nr.2 e1 e2 (by rw [nn.1]; exact c1) (by rw [nn.1]; exact c2) (by rw [nn.2.1]; exact c3) (by rw [nn.2.1]; exact c4)
    rw [nn.1, nn.2.1, nn.2.2] at N2
    have T2 := fun W (h : Lay W) => ctouch_nb x y q e W h c1 c2 c3 c4 c5 c6 n1 n2 n3 n4 nr.1 nr.2 e1 e2
    have LI := fun W => rlin_any x y q e W (by omega) (by omega) (by omega) (by omega) c5 c6 e1 e2
    by_cases hl : -4096 ≤ lnC q e x y ∧ lnC q e x y ≤ 4096
    · have S1 := fun W (h : Lay W) => cown_any x y q e W h c1 c2 c3 c4 c5 c6 e1 e2 hl.1 hl.2
      have nl := nb_line x y q e c5 c6 e1 e2
      have S2 := fun W (h : Lay W) => cown_any (nbX q e x) (nbY q e y) (nbQ q e) e W h n1 n2 n3 n4 nr.1 nr.2 e1 e2 (by rw [nl.2]; exact hl.1) (by rw [nl.2]; exact hl.2)
      rw [nl.1, nl.2] at S2
      have os : 0 ≤ ownS q e ∧ ownS q e ≤ 1 := by unfold ownS; (repeat' split) <;> omega
      exact cneiL_1ok x y q e l m n _ _ _ _ _ _ _ _ _ _ _ _ _ _ _ _ w hL c1 c2 c3 c4 c5 c6 e1 e2 (fun W h => ctouch_t1 x y q l m n W h c1 c2 c3 c4 c5 c6 d1 d2 d3 d4 d5 d6 (neR (fun h => by obtain ⟨_, _, h2⟩ := lm; have h3 := h.2.2; unfold nbQ at h2 h3; simp at h2 h3; omega)) (eqR lm)) (fun W => rvalid_yes l m n W d1 d2 d3 d4 d5 d6) (fun W => rnei_any x y q 0 W (by omega) (by omega) (by omega) (by omega) c5 c6 (by omega) (by omega)) (neA (fun h => by obtain ⟨_, _, h2⟩ := lm; have h3 := h.2.2; unfold nbQ at h2 h3; simp at h2 h3; omega)) (fun W => rnei_any x y q 1 W (by omega) (by omega) (by omega) (by omega) c5 c6 (by omega) (by omega)) (eqA lm) (fun W => rnei_any x y q 2 W (by omega) (by omega) (by omega) (by omega) c5 c6 (by omega) (by omega)) (neA (fun h => by obtain ⟨_, _, h2⟩ := lm; have h3 := h.2.2; unfold nbQ at h2 h3; simp at h2 h3; omega)) RE VE N1 N2 T2 LI (fun W => valid_yes _ _ W kr.1 kr.2 hl.1 hl.2) S1 S2 os.1 os.2 (ownS_two q e c5 c6 e1 e2)
    · exact cneiL_1none x y q e l m n _ _ _ _ _ _ _ _ _ _ _ _ _ _ w hL c1 c2 c3 c4 c5 c6 e1 e2 (fun W h => ctouch_t1 x y q l m n W h c1 c2 c3 c4 c5 c6 d1 d2 d3 d4 d5 d6 (neR (fun h => by obtain ⟨_, _, h2⟩ := lm; have h3 := h.2.2; unfold nbQ at h2 h3; simp at h2 h3; omega)) (eqR lm)) (fun W => rvalid_yes l m n W d1 d2 d3 d4 d5 d6) (fun W => rnei_any x y q 0 W (by omega) (by omega) (by omega) (by omega) c5 c6 (by omega) (by omega)) (neA (fun h => by obtain ⟨_, _, h2⟩ := lm; have h3 := h.2.2; unfold nbQ at h2 h3; simp at h2 h3; omega)) (fun W => rnei_any x y q 1 W (by omega) (by omega) (by omega) (by omega) c5 c6 (by omega) (by omega)) (eqA lm) (fun W => rnei_any x y q 2 W (by omega) (by omega) (by omega) (by omega) c5 c6 (by omega) (by omega)) (neA (fun h => by obtain ⟨_, _, h2⟩ := lm; have h3 := h.2.2; unfold nbQ at h2 h3; simp at h2 h3; omega)) RE VE N1 N2 T2 LI (fun W => valid_no _ _ W (by omega))
  · exact cneiL_1far x y q e l m n _ _ _ _ _ _ _ _ _ _ _ _ w hL c1 c2 c3 c4 c5 c6 e1 e2 (fun W h => ctouch_t1 x y q l m n W h c1 c2 c3 c4 c5 c6 d1 d2 d3 d4 d5 d6 (neR (fun h => by obtain ⟨_, _, h2⟩ := lm; have h3 := h.2.2; unfold nbQ at h2 h3; simp at h2 h3; omega)) (eqR lm)) (fun W => rvalid_yes l m n W d1 d2 d3 d4 d5 d6) (fun W => rnei_any x y q 0 W (by omega) (by omega) (by omega) (by omega) c5 c6 (by omega) (by omega)) (neA (fun h => by obtain ⟨_, _, h2⟩ := lm; have h3 := h.2.2; unfold nbQ at h2 h3; simp at h2 h3; omega)) (fun W => rnei_any x y q 1 W (by omega) (by omega) (by omega) (by omega) c5 c6 (by omega) (by omega)) (eqA lm) (fun W => rnei_any x y q 2 W (by omega) (by omega) (by omega) (by omega) c5 c6 (by omega) (by omega)) (neA (fun h => by obtain ⟨_, _, h2⟩ := lm; have h3 := h.2.2; unfold nbQ at h2 h3; simp at h2 h3; omega)) RE (fun W => rvalid_no _ _ _ W (by omega)) (fun W h => cnei_far x y q e W h c1 c2 c3 c4 c5 c6 e1 e2 (by omega))

theorem cneiL_k2 (x y q e l m n : Int) (w : World) (hL : Lay w) (c1 : -4096 ≤ x) (c2 : x ≤ 4096) (c3 : -4096 ≤ y) (c4 : y ≤ 4096) (c5 : 0 ≤ q) (c6 : q ≤ 3) (e1 : 0 ≤ e) (e2 : e ≤ 2) (d1 : -4096 ≤ l) (d2 : l ≤ 4096) (d3 : -4096 ≤ m) (d4 : m ≤ 4096) (d5 : 0 ≤ n) (d6 : n ≤ 3) (lm : nbX q 2 x = l ∧ nbY q 2 y = m ∧ nbQ q 2 = n) : Calls Tryd.prog 4 #[cl x y q, .int .u8 e, cl l m n] w fun r w' => r = .returned (.bool true) ∧ Below w.heap.size w w' := by
  have nr := nbQ_range q e
  have nb1 : x - 1 ≤ nbX q e x ∧ nbX q e x ≤ x + 1 := by unfold nbX; (repeat' split) <;> omega
  have nb2 : y - 1 ≤ nbY q e y ∧ nbY q e y ≤ y + 1 := by unfold nbY; (repeat' split) <;> omega
  have kr := lnK_range q e
  have RE := fun W => rnei_any x y q e W (by omega) (by omega) (by omega) (by omega) c5 c6 e1 e2
  by_cases hn : -4096 ≤ nbX q e x ∧ nbX q e x ≤ 4096 ∧ -4096 ≤ nbY q e y ∧ nbY q e y ≤ 4096
  · obtain ⟨n1, n2, n3, n4⟩ := hn
    have nn := nb_nb x y q e c5 c6 e1 e2
    have VE := fun W => rvalid_yes (nbX q e x) (nbY q e y) (nbQ q e) W n1 n2 n3 n4 nr.1 nr.2
    have N1 := fun W (h : Lay W) => cnei_ok x y q e W h c1 c2 c3 c4 c5 c6 e1 e2 n1 n2 n3 n4
    have N2 := fun W (h : Lay W) => cnei_ok (nbX q e x) (nbY q e y) (nbQ q e) e W h n1 n2 n3 n4 nr.1 nr.2 e1 e2 (by rw [nn.1]; exact c1) (by rw [nn.1]; exact c2) (by rw [nn.2.1]; exact c3) (by rw [nn.2.1]; exact c4)
    rw [nn.1, nn.2.1, nn.2.2] at N2
    have T2 := fun W (h : Lay W) => ctouch_nb x y q e W h c1 c2 c3 c4 c5 c6 n1 n2 n3 n4 nr.1 nr.2 e1 e2
    have LI := fun W => rlin_any x y q e W (by omega) (by omega) (by omega) (by omega) c5 c6 e1 e2
    by_cases hl : -4096 ≤ lnC q e x y ∧ lnC q e x y ≤ 4096
    · have S1 := fun W (h : Lay W) => cown_any x y q e W h c1 c2 c3 c4 c5 c6 e1 e2 hl.1 hl.2
      have nl := nb_line x y q e c5 c6 e1 e2
      have S2 := fun W (h : Lay W) => cown_any (nbX q e x) (nbY q e y) (nbQ q e) e W h n1 n2 n3 n4 nr.1 nr.2 e1 e2 (by rw [nl.2]; exact hl.1) (by rw [nl.2]; exact hl.2)
      rw [nl.1, nl.2] at S2
      have os : 0 ≤ ownS q e ∧ ownS q e ≤ 1 := by unfold ownS; (repeat' split) <;> omega
      exact cneiL_2ok x y q e l m n _ _ _ _ _ _ _ _ _ _ _ _ _ _ _ _ w hL c1 c2 c3 c4 c5 c6 e1 e2 (fun W h => ctouch_t2 x y q l m n W h c1 c2 c3 c4 c5 c6 d1 d2 d3 d4 d5 d6 (neR (fun h => by obtain ⟨_, _, h2⟩ := lm; have h3 := h.2.2; unfold nbQ at h2 h3; simp at h2 h3; omega)) (neR (fun h => by obtain ⟨_, _, h2⟩ := lm; have h3 := h.2.2; unfold nbQ at h2 h3; simp at h2 h3; omega)) (eqR lm)) (fun W => rvalid_yes l m n W d1 d2 d3 d4 d5 d6) (fun W => rnei_any x y q 0 W (by omega) (by omega) (by omega) (by omega) c5 c6 (by omega) (by omega)) (neA (fun h => by obtain ⟨_, _, h2⟩ := lm; have h3 := h.2.2; unfold nbQ at h2 h3; simp at h2 h3; omega)) (fun W => rnei_any x y q 1 W (by omega) (by omega) (by omega) (by omega) c5 c6 (by omega) (by omega)) (neA (fun h => by obtain ⟨_, _, h2⟩ := lm; have h3 := h.2.2; unfold nbQ at h2 h3; simp at h2 h3; omega)) (fun W => rnei_any x y q 2 W (by omega) (by omega) (by omega) (by omega) c5 c6 (by omega) (by omega)) (eqA lm) RE VE N1 N2 T2 LI (fun W => valid_yes _ _ W kr.1 kr.2 hl.1 hl.2) S1 S2 os.1 os.2 (ownS_two q e c5 c6 e1 e2)
    · exact cneiL_2none x y q e l m n _ _ _ _ _ _ _ _ _ _ _ _ _ _ w hL c1 c2 c3 c4 c5 c6 e1 e2 (fun W h => ctouch_t2 x y q l m n W h c1 c2 c3 c4 c5 c6 d1 d2 d3 d4 d5 d6 (neR (fun h => by obtain ⟨_, _, h2⟩ := lm; have h3 := h.2.2; unfold nbQ at h2 h3; simp at h2 h3; omega)) (neR (fun h => by obtain ⟨_, _, h2⟩ := lm; have h3 := h.2.2; unfold nbQ at h2 h3; simp at h2 h3; omega)) (eqR lm)) (fun W => rvalid_yes l m n W d1 d2 d3 d4 d5 d6) (fun W => rnei_any x y q 0 W (by omega) (by omega) (by omega) (by omega) c5 c6 (by omega) (by omega)) (neA (fun h => by obtain ⟨_, _, h2⟩ := lm; have h3 := h.2.2; unfold nbQ at h2 h3; simp at h2 h3; omega)) (fun W => rnei_any x y q 1 W (by omega) (by omega) (by omega) (by omega) c5 c6 (by omega) (by omega)) (neA (fun h => by obtain ⟨_, _, h2⟩ := lm; have h3 := h.2.2; unfold nbQ at h2 h3; simp at h2 h3; omega)) (fun W => rnei_any x y q 2 W (by omega) (by omega) (by omega) (by omega) c5 c6 (by omega) (by omega)) (eqA lm) RE VE N1 N2 T2 LI (fun W => valid_no _ _ W (by omega))
  · exact cneiL_2far x y q e l m n _ _ _ _ _ _ _ _ _ _ _ _ w hL c1 c2 c3 c4 c5 c6 e1 e2 (fun W h => ctouch_t2 x y q l m n W h c1 c2 c3 c4 c5 c6 d1 d2 d3 d4 d5 d6 (neR (fun h => by obtain ⟨_, _, h2⟩ := lm; have h3 := h.2.2; unfold nbQ at h2 h3; simp at h2 h3; omega)) (neR (fun h => by obtain ⟨_, _, h2⟩ := lm; have h3 := h.2.2; unfold nbQ at h2 h3; simp at h2 h3; omega)) (eqR lm)) (fun W => rvalid_yes l m n W d1 d2 d3 d4 d5 d6) (fun W => rnei_any x y q 0 W (by omega) (by omega) (by omega) (by omega) c5 c6 (by omega) (by omega)) (neA (fun h => by obtain ⟨_, _, h2⟩ := lm; have h3 := h.2.2; unfold nbQ at h2 h3; simp at h2 h3; omega)) (fun W => rnei_any x y q 1 W (by omega) (by omega) (by omega) (by omega) c5 c6 (by omega) (by omega)) (neA (fun h => by obtain ⟨_, _, h2⟩ := lm; have h3 := h.2.2; unfold nbQ at h2 h3; simp at h2 h3; omega)) (fun W => rnei_any x y q 2 W (by omega) (by omega) (by omega) (by omega) c5 c6 (by omega) (by omega)) (eqA lm) RE (fun W => rvalid_no _ _ _ W (by omega)) (fun W h => cnei_far x y q e W h c1 c2 c3 c4 c5 c6 e1 e2 (by omega))

theorem cneiL_k3 (x y q e l m n : Int) (w : World) (hL : Lay w) (c1 : -4096 ≤ x) (c2 : x ≤ 4096) (c3 : -4096 ≤ y) (c4 : y ≤ 4096) (c5 : 0 ≤ q) (c6 : q ≤ 3) (e1 : 0 ≤ e) (e2 : e ≤ 2) (d1 : -4096 ≤ l) (d2 : l ≤ 4096) (d3 : -4096 ≤ m) (d4 : m ≤ 4096) (d5 : 0 ≤ n) (d6 : n ≤ 3) (lm0 : ¬ (nbX q 0 x = l ∧ nbY q 0 y = m ∧ nbQ q 0 = n)) (lm1 : ¬ (nbX q 1 x = l ∧ nbY q 1 y = m ∧ nbQ q 1 = n)) (lm2 : ¬ (nbX q 2 x = l ∧ nbY q 2 y = m ∧ nbQ q 2 = n)) : Calls Tryd.prog 4 #[cl x y q, .int .u8 e, cl l m n] w fun r w' => r = .returned (.bool true) ∧ Below w.heap.size w w' := by
  have nr := nbQ_range q e
  have nb1 : x - 1 ≤ nbX q e x ∧ nbX q e x ≤ x + 1 := by unfold nbX; (repeat' split) <;> omega
  have nb2 : y - 1 ≤ nbY q e y ∧ nbY q e y ≤ y + 1 := by unfold nbY; (repeat' split) <;> omega
  have kr := lnK_range q e
  have RE := fun W => rnei_any x y q e W (by omega) (by omega) (by omega) (by omega) c5 c6 e1 e2
  by_cases hn : -4096 ≤ nbX q e x ∧ nbX q e x ≤ 4096 ∧ -4096 ≤ nbY q e y ∧ nbY q e y ≤ 4096
  · obtain ⟨n1, n2, n3, n4⟩ := hn
    have nn := nb_nb x y q e c5 c6 e1 e2
    have VE := fun W => rvalid_yes (nbX q e x) (nbY q e y) (nbQ q e) W n1 n2 n3 n4 nr.1 nr.2
    have N1 := fun W (h : Lay W) => cnei_ok x y q e W h c1 c2 c3 c4 c5 c6 e1 e2 n1 n2 n3 n4
    have N2 := fun W (h : Lay W) => cnei_ok (nbX q e x) (nbY q e y) (nbQ q e) e W h n1 n2 n3 n4 nr.1 nr.2 e1 e2 (by rw [nn.1]; exact c1) (by rw [nn.1]; exact c2) (by rw [nn.2.1]; exact c3) (by rw [nn.2.1]; exact c4)
    rw [nn.1, nn.2.1, nn.2.2] at N2
    have T2 := fun W (h : Lay W) => ctouch_nb x y q e W h c1 c2 c3 c4 c5 c6 n1 n2 n3 n4 nr.1 nr.2 e1 e2
    have LI := fun W => rlin_any x y q e W (by omega) (by omega) (by omega) (by omega) c5 c6 e1 e2
    by_cases hl : -4096 ≤ lnC q e x y ∧ lnC q e x y ≤ 4096
    · have S1 := fun W (h : Lay W) => cown_any x y q e W h c1 c2 c3 c4 c5 c6 e1 e2 hl.1 hl.2
      have nl := nb_line x y q e c5 c6 e1 e2
      have S2 := fun W (h : Lay W) => cown_any (nbX q e x) (nbY q e y) (nbQ q e) e W h n1 n2 n3 n4 nr.1 nr.2 e1 e2 (by rw [nl.2]; exact hl.1) (by rw [nl.2]; exact hl.2)
      rw [nl.1, nl.2] at S2
      have os : 0 ≤ ownS q e ∧ ownS q e ≤ 1 := by unfold ownS; (repeat' split) <;> omega
      exact cneiL_3ok x y q e l m n _ _ _ _ _ _ _ _ _ _ _ _ _ _ _ _ w hL c1 c2 c3 c4 c5 c6 e1 e2 (fun W h => ctouch_tn x y q l m n W h c1 c2 c3 c4 c5 c6 d1 d2 d3 d4 d5 d6 (neR lm0) (neR lm1) (neR lm2)) (fun W => rvalid_yes l m n W d1 d2 d3 d4 d5 d6) (fun W => rnei_any x y q 0 W (by omega) (by omega) (by omega) (by omega) c5 c6 (by omega) (by omega)) (neA lm0) (fun W => rnei_any x y q 1 W (by omega) (by omega) (by omega) (by omega) c5 c6 (by omega) (by omega)) (neA lm1) (fun W => rnei_any x y q 2 W (by omega) (by omega) (by omega) (by omega) c5 c6 (by omega) (by omega)) (neA lm2) RE VE N1 N2 T2 LI (fun W => valid_yes _ _ W kr.1 kr.2 hl.1 hl.2) S1 S2 os.1 os.2 (ownS_two q e c5 c6 e1 e2)
    · exact cneiL_3none x y q e l m n _ _ _ _ _ _ _ _ _ _ _ _ _ _ w hL c1 c2 c3 c4 c5 c6 e1 e2 (fun W h => ctouch_tn x y q l m n W h c1 c2 c3 c4 c5 c6 d1 d2 d3 d4 d5 d6 (neR lm0) (neR lm1) (neR lm2)) (fun W => rvalid_yes l m n W d1 d2 d3 d4 d5 d6) (fun W => rnei_any x y q 0 W (by omega) (by omega) (by omega) (by omega) c5 c6 (by omega) (by omega)) (neA lm0) (fun W => rnei_any x y q 1 W (by omega) (by omega) (by omega) (by omega) c5 c6 (by omega) (by omega)) (neA lm1) (fun W => rnei_any x y q 2 W (by omega) (by omega) (by omega) (by omega) c5 c6 (by omega) (by omega)) (neA lm2) RE VE N1 N2 T2 LI (fun W => valid_no _ _ W (by omega))
  · exact cneiL_3far x y q e l m n _ _ _ _ _ _ _ _ _ _ _ _ w hL c1 c2 c3 c4 c5 c6 e1 e2 (fun W h => ctouch_tn x y q l m n W h c1 c2 c3 c4 c5 c6 d1 d2 d3 d4 d5 d6 (neR lm0) (neR lm1) (neR lm2)) (fun W => rvalid_yes l m n W d1 d2 d3 d4 d5 d6) (fun W => rnei_any x y q 0 W (by omega) (by omega) (by omega) (by omega) c5 c6 (by omega) (by omega)) (neA lm0) (fun W => rnei_any x y q 1 W (by omega) (by omega) (by omega) (by omega) c5 c6 (by omega) (by omega)) (neA lm1) (fun W => rnei_any x y q 2 W (by omega) (by omega) (by omega) (by omega) c5 c6 (by omega) (by omega)) (neA lm2) RE (fun W => rvalid_no _ _ _ W (by omega)) (fun W h => cnei_far x y q e W h c1 c2 c3 c4 c5 c6 e1 e2 (by omega))

theorem cneiL_k4 (x y q e l m n : Int) (w : World) (hL : Lay w) (c1 : -4096 ≤ x) (c2 : x ≤ 4096) (c3 : -4096 ≤ y) (c4 : y ≤ 4096) (c5 : 0 ≤ q) (c6 : q ≤ 3) (e1 : 0 ≤ e) (e2 : e ≤ 2) (lb : 3 < n ∨ l < -4096 ∨ 4096 < l ∨ m < -4096 ∨ 4096 < m) : Calls Tryd.prog 4 #[cl x y q, .int .u8 e, cl l m n] w fun r w' => r = .returned (.bool true) ∧ Below w.heap.size w w' := by
  have nr := nbQ_range q e
  have nb1 : x - 1 ≤ nbX q e x ∧ nbX q e x ≤ x + 1 := by unfold nbX; (repeat' split) <;> omega
  have nb2 : y - 1 ≤ nbY q e y ∧ nbY q e y ≤ y + 1 := by unfold nbY; (repeat' split) <;> omega
  have kr := lnK_range q e
  have RE := fun W => rnei_any x y q e W (by omega) (by omega) (by omega) (by omega) c5 c6 e1 e2
  by_cases hn : -4096 ≤ nbX q e x ∧ nbX q e x ≤ 4096 ∧ -4096 ≤ nbY q e y ∧ nbY q e y ≤ 4096
  · obtain ⟨n1, n2, n3, n4⟩ := hn
    have nn := nb_nb x y q e c5 c6 e1 e2
    have VE := fun W => rvalid_yes (nbX q e x) (nbY q e y) (nbQ q e) W n1 n2 n3 n4 nr.1 nr.2
    have N1 := fun W (h : Lay W) => cnei_ok x y q e W h c1 c2 c3 c4 c5 c6 e1 e2 n1 n2 n3 n4
    have N2 := fun W (h : Lay W) => cnei_ok (nbX q e x) (nbY q e y) (nbQ q e) e W h n1 n2 n3 n4 nr.1 nr.2 e1 e2 (by rw [nn.1]; exact c1) (by rw [nn.1]; exact c2) (by rw [nn.2.1]; exact c3) (by rw [nn.2.1]; exact c4)
    rw [nn.1, nn.2.1, nn.2.2] at N2
    have T2 := fun W (h : Lay W) => ctouch_nb x y q e W h c1 c2 c3 c4 c5 c6 n1 n2 n3 n4 nr.1 nr.2 e1 e2
    have LI := fun W => rlin_any x y q e W (by omega) (by omega) (by omega) (by omega) c5 c6 e1 e2
    by_cases hl : -4096 ≤ lnC q e x y ∧ lnC q e x y ≤ 4096
    · have S1 := fun W (h : Lay W) => cown_any x y q e W h c1 c2 c3 c4 c5 c6 e1 e2 hl.1 hl.2
      have nl := nb_line x y q e c5 c6 e1 e2
      have S2 := fun W (h : Lay W) => cown_any (nbX q e x) (nbY q e y) (nbQ q e) e W h n1 n2 n3 n4 nr.1 nr.2 e1 e2 (by rw [nl.2]; exact hl.1) (by rw [nl.2]; exact hl.2)
      rw [nl.1, nl.2] at S2
      have os : 0 ≤ ownS q e ∧ ownS q e ≤ 1 := by unfold ownS; (repeat' split) <;> omega
      exact cneiL_4ok x y q e l m n _ _ _ _ _ _ _ w hL c1 c2 c3 c4 c5 c6 e1 e2 (fun W _ => ctouch_bad2 x y q l m n W c1 c2 c3 c4 c5 c6 lb) (fun W => rvalid_no l m n W lb)  RE VE N1 N2 T2 LI (fun W => valid_yes _ _ W kr.1 kr.2 hl.1 hl.2) S1 S2 os.1 os.2 (ownS_two q e c5 c6 e1 e2)
    · exact cneiL_4none x y q e l m n _ _ _ _ _ w hL c1 c2 c3 c4 c5 c6 e1 e2 (fun W _ => ctouch_bad2 x y q l m n W c1 c2 c3 c4 c5 c6 lb) (fun W => rvalid_no l m n W lb)  RE VE N1 N2 T2 LI (fun W => valid_no _ _ W (by omega))
  · exact cneiL_4far x y q e l m n _ _ _ w hL c1 c2 c3 c4 c5 c6 e1 e2 (fun W _ => ctouch_bad2 x y q l m n W c1 c2 c3 c4 c5 c6 lb) (fun W => rvalid_no l m n W lb)  RE (fun W => rvalid_no _ _ _ W (by omega)) (fun W h => cnei_far x y q e W h c1 c2 c3 c4 c5 c6 e1 e2 (by omega))

theorem ctouch_some (x y q l m n : Int) (c1 : -4096 ≤ x) (c2 : x ≤ 4096) (c3 : -4096 ≤ y) (c4 : y ≤ 4096) (c5 : 0 ≤ q) (c6 : q ≤ 3) (n0 : 0 ≤ n) : ∃ g v : Int, ∀ W, Lay W → Calls Tryd.prog 20 #[cl x y q, cl l m n] W fun r w' => r = .returned (.tuple #[.int .u8 g, .int .i64 v]) ∧ Below W.heap.size W w' := by
  by_cases h : -4096 ≤ l ∧ l ≤ 4096 ∧ -4096 ≤ m ∧ m ≤ 4096 ∧ n ≤ 3
  · obtain ⟨d1, d2, d3, d4, d6⟩ := h
    by_cases l0 : nbX q 0 x = l ∧ nbY q 0 y = m ∧ nbQ q 0 = n
    · exact ⟨_, _, fun W h => ctouch_t0 x y q l m n W h c1 c2 c3 c4 c5 c6 d1 d2 d3 d4 n0 d6 (eqR l0)⟩
    · by_cases l1 : nbX q 1 x = l ∧ nbY q 1 y = m ∧ nbQ q 1 = n
      · exact ⟨_, _, fun W h => ctouch_t1 x y q l m n W h c1 c2 c3 c4 c5 c6 d1 d2 d3 d4 n0 d6 (neR l0) (eqR l1)⟩
      · by_cases l2 : nbX q 2 x = l ∧ nbY q 2 y = m ∧ nbQ q 2 = n
        · exact ⟨_, _, fun W h => ctouch_t2 x y q l m n W h c1 c2 c3 c4 c5 c6 d1 d2 d3 d4 n0 d6 (neR l0) (neR l1) (eqR l2)⟩
        · exact ⟨_, _, fun W h => ctouch_tn x y q l m n W h c1 c2 c3 c4 c5 c6 d1 d2 d3 d4 n0 d6 (neR l0) (neR l1) (neR l2)⟩
  · exact ⟨_, _, fun W _ => ctouch_bad2 x y q l m n W c1 c2 c3 c4 c5 c6 (by omega)⟩
theorem cellsneighbour_law (x y q e l m n : Int) (w : World) (hL : Lay w) (q0 : 0 ≤ q) (e0 : 0 ≤ e) (n0 : 0 ≤ n) : Calls Tryd.prog 4 #[cl x y q, .int .u8 e, cl l m n] w fun r w' => r = .returned (.bool true) ∧ Below w.heap.size w w' := by
  by_cases h : -4096 ≤ x ∧ x ≤ 4096 ∧ -4096 ≤ y ∧ y ≤ 4096 ∧ q ≤ 3
  · obtain ⟨c1, c2, c3, c4, c6⟩ := h
    have c5 := q0
    by_cases e2 : e ≤ 2
    · by_cases h : -4096 ≤ l ∧ l ≤ 4096 ∧ -4096 ≤ m ∧ m ≤ 4096 ∧ n ≤ 3
      · obtain ⟨d1, d2, d3, d4, d6⟩ := h
        by_cases l0 : nbX q 0 x = l ∧ nbY q 0 y = m ∧ nbQ q 0 = n
        · exact cneiL_k0 x y q e l m n w hL c1 c2 c3 c4 c5 c6 e0 e2 d1 d2 d3 d4 n0 d6 l0
        · by_cases l1 : nbX q 1 x = l ∧ nbY q 1 y = m ∧ nbQ q 1 = n
          · exact cneiL_k1 x y q e l m n w hL c1 c2 c3 c4 c5 c6 e0 e2 d1 d2 d3 d4 n0 d6 l1
          · by_cases l2 : nbX q 2 x = l ∧ nbY q 2 y = m ∧ nbQ q 2 = n
            · exact cneiL_k2 x y q e l m n w hL c1 c2 c3 c4 c5 c6 e0 e2 d1 d2 d3 d4 n0 d6 l2
            · exact cneiL_k3 x y q e l m n w hL c1 c2 c3 c4 c5 c6 e0 e2 d1 d2 d3 d4 n0 d6 l0 l1 l2
      · exact cneiL_k4 x y q e l m n w hL c1 c2 c3 c4 c5 c6 e0 e2 (by omega)
    · obtain ⟨g, v, TO⟩ := ctouch_some x y q l m n c1 c2 c3 c4 c5 c6 n0
      exact cneiL_bad2 x y q e l m n g v w hL c1 c2 c3 c4 c5 c6 (by omega) TO
  · exact cneiL_bad1 x y q e l m n 0 0 w hL (by omega)

end Go.Proofs.YtgkiliijefkcaaaDoor
