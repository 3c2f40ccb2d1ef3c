/-
  Says: SheetsNone: what is asked at a sheet.
-/
import Derived.Test.YtaacmbmnlhoghaaDoorKT
import Derived.Test.YtaacmbmnlhoghaaDoorKC4
import Derived.KernelRfl
set_option maxRecDepth 1000000
set_option linter.unusedVariables false
set_option linter.unusedSimpArgs false
namespace Go.Proofs.YtaacmbmnlhoghaaDoor
open Go Go.Vx

section
attribute [local instance] anySyms
/-- Line and Ends, where there is no unit. -/
noncomputable def noU (t : Nat → TypeId) (W H j : Nat) : Bool := match isU W H (Nat.div j 3) (Nat.mod j 3) with
  | true => true
  | false => entryOk Tryd.prog (QA t) (tabG t) 22 ([va [vi W, vi H], va [vi (Nat.div j 3), vu (Nat.mod j 3)]], vp [va [vu 0, vi 0], vi 7]) && entryOk Tryd.prog (QA t) (tabG t) 21 ([va [vi W, vi H], va [vi (Nat.div j 3), vu (Nat.mod j 3)]], vp [va [vi 0, vi 0, vi 0, vi 0], vi 7])
end
/-- Line and Ends, at edges that cells don't have. -/
noncomputable def noE (t : Nat → TypeId) (W H c : Nat) : Bool :=
  isVal (vp [va [vu 0, vi 0], vi 7]) (@run (tabPrims [(13, vy 0, vu 3, vf)] []) Tryd.prog (orElse (valOrc (fun _ => false) (tabG t) (ansT [])) (QA t)) 1000000 (.call 22 [va [vi W, vi H], va [vi c, vy 0]] (tabG t))) &&
  isVal (vp [va [vi 0, vi 0, vi 0, vi 0], vi 7]) (@run (tabPrims [(13, vy 0, vu 3, vf)] []) Tryd.prog (orElse (valOrc (fun _ => false) (tabG t) (ansT [])) (QA t)) 1000000 (.call 21 [va [vi W, vi H], va [vi c, vy 0]] (tabG t)))
theorem noE_ok (t : Nat → TypeId) {W H c : Nat} (h : noE t W H c = true) (e : Int) (he : 3 ≤ e) :
    Known Tryd.prog (tabG t) 22 [.agg ⟨[.int .i64 W, .int .i64 H]⟩, .agg ⟨[.int .i64 c, .int .u8 e]⟩] (vp [va [vu 0, vi 0], vi 7]) ∧ Known Tryd.prog (tabG t) 21 [.agg ⟨[.int .i64 W, .int .i64 H]⟩, .agg ⟨[.int .i64 c, .int .u8 e]⟩] (vp [va [vi 0, vi 0, vi 0, vi 0], vi 7]) := by
  unfold noE at h
  simp only [Bool.and_eq_true] at h
  exact ⟨path_more (ρ := ofInts [(.u8, e)]) (tabs_G t) (size_V t) (floor_V t) (ofInts_plain _) (bt := [(13, vy 0, vu 3, vf)]) (ct := []) ⟨bh_lss rfl rfl rfl rfl (show ltI e 3 = false from lt_ff he), trivial⟩ trivial (el := []) trivial (Q2 := QA t) (hQ2 := QA_ok t) (args := [va [vi W, vi H], va [vi c, vy 0]]) (v := vp [va [vu 0, vi 0], vi 7]) rfl rfl (by kernel_rfl) h.1,
    path_more (ρ := ofInts [(.u8, e)]) (tabs_G t) (size_V t) (floor_V t) (ofInts_plain _) (bt := [(13, vy 0, vu 3, vf)]) (ct := []) ⟨bh_lss rfl rfl rfl rfl (show ltI e 3 = false from lt_ff he), trivial⟩ trivial (el := []) trivial (Q2 := QA t) (hQ2 := QA_ok t) (args := [va [vi W, vi H], va [vi c, vy 0]]) (v := vp [va [vi 0, vi 0, vi 0, vi 0], vi 7]) rfl rfl (by kernel_rfl) h.2⟩
/-- The comparisons with the units of a cell. -/
def one (b : Bool) (e : Nat) : List BinE := match b with
  | true => [(11, vu e, vy 3, vf)]
  | false => []
def btU (W H c : Nat) : List BinE := one (isU W H c 0) 0 ++ (one (isU W H c 1) 1 ++ one (isU W H c 2) 2)
theorem allB_app {ρ : Nat → Value} : ∀ {l m : List BinE}, AllB ρ l → AllB ρ m → AllB ρ (l ++ m)
  | [], _, _, h => h
  | _ :: _, _, h, k => ⟨h.1, allB_app h.2 k⟩
theorem allB_one {a b i e : Int} {g : Bool} {k : Nat} (h : g = true → e ≠ k) : AllB (ofInts [(.u8, a), (.u8, b), (.i64, i), (.u8, e)]) (one g k) := by
  cases g with
  | false => trivial
  | true => exact ⟨bh_eql (a := (k : Int)) (b := e) rfl rfl rfl rfl (eq_ff (fun hh => h rfl hh.symm)), trivial⟩
theorem allB_U {a b i e : Int} {W H c : Nat} (h : ∀ k < 3, isU W H c k = true → e ≠ (k : Nat)) : AllB (ofInts [(.u8, a), (.u8, b), (.i64, i), (.u8, e)]) (btU W H c) :=
  allB_app (allB_one fun g => h 0 (by decide) g) (allB_app (allB_one fun g => h 1 (by decide) g) (allB_one fun g => h 2 (by decide) g))
/-- The comparisons with the cells of all units. -/
def btC : Nat → List BinE
  | 0 => []
  | n + 1 => (11, vi n, vy 2, vf) :: btC n
theorem allB_C {a b i e : Int} : ∀ {n : Nat}, (∀ c < n, i ≠ (c : Nat)) → AllB (ofInts [(.u8, a), (.u8, b), (.i64, i), (.u8, e)]) (btC n)
  | 0, _ => trivial
  | n + 1, h => ⟨bh_eql (a := (n : Int)) (b := i) rfl rfl rfl rfl (eq_ff (fun hh => h n (by omega) hh.symm)), allB_C fun c hc => h c (by omega)⟩
/-- The law at a unit; at a cell of the sheet; elsewhere. -/
noncomputable def nnA (t : Nat → TypeId) (W H : Nat) (l : List RowE) (j : Nat) : Bool := match isU W H (Nat.div j 3) (Nat.mod j 3) with
  | false => true
  | true => isVal vt (@run (tabPrims [] []) Tryd.prog (orElse (valOrc (fun _ => false) (tabG t) (ansT [(8, [va [vy 0, vy 1]], va [vi W, vi H])])) (QV t l)) 1000000 (.call 6 [va [vy 0, vy 1], va [vi (Nat.div j 3), vu (Nat.mod j 3)]] (tabG t)))
noncomputable def nnB (t : Nat → TypeId) (W H : Nat) (l : List RowE) (c : Nat) : Bool := isVal vt (@run (tabPrims (btU W H c) []) Tryd.prog (orElse (valOrc (fun _ => false) (tabG t) (ansT [(8, [va [vy 0, vy 1]], va [vi W, vi H]), (22, [va [vi W, vi H], va [vi c, vy 3]], vp [va [vu 0, vi 0], vi 7]), (21, [va [vi W, vi H], va [vi c, vy 3]], vp [va [vi 0, vi 0, vi 0, vi 0], vi 7])])) (QV t l)) 1000000 (.call 6 [va [vy 0, vy 1], va [vi c, vy 3]] (tabG t)))
noncomputable def nnC (t : Nat → TypeId) (W H : Nat) (l : List RowE) : Bool := isVal vt (@run (tabPrims (btC (4 * W * H)) []) Tryd.prog (orElse (valOrc (fun _ => false) (tabG t) (ansT [(8, [va [vy 0, vy 1]], va [vi W, vi H]), (11, [va [vi W, vi H], vy 2], vp [va [vi 0, vi 0, vu 0], vi 7])])) (QV t l)) 1000000 (.call 6 [va [vy 0, vy 1], va [vy 2, vy 3]] (tabG t)))

open Go.RowKit
theorem nn_cls (t : Nat → TypeId) (a b i e : Int) {W H : Nat} {l : List RowE} (hl : RowsOk Tryd.prog (tabG t) l) (hU : allN (noU t W H) (12 * W * H) 0 = true) (hE : allN (noE t W H) (4 * W * H) 0 = true)
    (hA : allN (nnA t W H l) (12 * W * H) 0 = true) (hB : allN (nnB t W H l) (4 * W * H) 0 = true) (hC : nnC t W H l = true) (hF : i < 0 ∨ ((4 * (W * H) : Nat) : Int) ≤ i → F11 W H i = .tuple ⟨[.agg ⟨[.int .i64 0, .int .i64 0, .int .u8 0]⟩, .int .i64 7]⟩)
    (h_a : 0 ≤ a ∧ a ≤ 255) (h_b : 0 ≤ b ∧ b ≤ 255) (h_i : -9223372036854775808 ≤ i ∧ i ≤ 9223372036854775807) (h_e : 0 ≤ e ∧ e ≤ 255) (hw : 1 + a % 5 = W) (hh : 1 + b % 5 = H) : Known Tryd.prog (tabG t) 6 [.agg ⟨[.int .u8 a, .int .u8 b]⟩, .agg ⟨[.int .i64 i, .int .u8 e]⟩] (.bool true) := by
  have hof := of_cls t a b W H h_a h_b hw hh
  have m1 : 12 * W * H = 12 * (W * H) := Nat.mul_assoc _ _ _
  have m2 : 4 * W * H = 4 * (W * H) := Nat.mul_assoc _ _ _
  by_cases hi : i < 0 ∨ ((4 * (W * H) : Nat) : Int) ≤ i
  · have e1 := s11 t W H i h_i
    rw [hF hi] at e1
    exact path_more (ρ := ofInts [(.u8, a), (.u8, b), (.i64, i), (.u8, e)]) (tabs_G t) (size_V t) (floor_V t) (ofInts_plain _) (bt := btC (4 * W * H)) (ct := []) (allB_C fun c hc => by rw [m2] at hc; omega) trivial (el := [(8, [va [vy 0, vy 1]], va [vi W, vi H]), (11, [va [vi W, vi H], vy 2], vp [va [vi 0, vi 0, vu 0], vi 7])]) ⟨⟨rfl, rfl, hof⟩, ⟨rfl, rfl, e1⟩, trivial⟩ (Q2 := QV t l) (hQ2 := QV_ok t hl) (args := [va [vy 0, vy 1], va [vy 2, vy 3]]) (v := vt) rfl rfl (by kernel_rfl) hC
  · obtain ⟨c, rfl⟩ := Int.eq_ofNat_of_zero_le (show 0 ≤ i by omega)
    obtain ⟨k, rfl⟩ := Int.eq_ofNat_of_zero_le h_e.1
    have hc : c < 4 * (W * H) := by omega
    by_cases hk : k < 3 ∧ isU W H c k = true
    · obtain ⟨hk, hu⟩ := hk
      have h := (haveI := anySyms; allN_get hA (3 * c + k) (Nat.zero_le _) (by rw [m1]; omega))
      have d1 : Nat.div (3 * c + k) 3 = c := by show (3 * c + k) / 3 = c; omega
      have d2 : Nat.mod (3 * c + k) 3 = k := by show (3 * c + k) % 3 = k; omega
      unfold nnA at h
      rw [d1, d2, hu] at h
      exact path_more (ρ := ofInts [(.u8, a), (.u8, b)]) (tabs_G t) (size_V t) (floor_V t) (ofInts_plain _) (bt := []) (ct := []) trivial trivial (el := [(8, [va [vy 0, vy 1]], va [vi W, vi H])]) ⟨⟨rfl, rfl, hof⟩, trivial⟩ (Q2 := QV t l) (hQ2 := QV_ok t hl) (args := [va [vy 0, vy 1], va [vi c, vu k]]) (v := vt) rfl rfl (by kernel_rfl) h
    · have hno : ∀ j < 3, isU W H c j = true → (k : Int) ≠ (j : Nat) := fun j hj hu hh => hk ⟨by omega, by rw [show k = j by omega]; exact hu⟩
      have h := (haveI := anySyms; allN_get hB c (Nat.zero_le _) (by rw [m2]; omega))
      have hLE : Known Tryd.prog (tabG t) 22 [.agg ⟨[.int .i64 W, .int .i64 H]⟩, .agg ⟨[.int .i64 c, .int .u8 k]⟩] (vp [va [vu 0, vi 0], vi 7]) ∧ Known Tryd.prog (tabG t) 21 [.agg ⟨[.int .i64 W, .int .i64 H]⟩, .agg ⟨[.int .i64 c, .int .u8 k]⟩] (vp [va [vi 0, vi 0, vi 0, vi 0], vi 7]) := by
        by_cases h3 : k < 3
        · have hn : isU W H c k = false := by
            cases hq : isU W H c k with
            | false => rfl
            | true => exact absurd ⟨h3, hq⟩ hk
          have g := (haveI := anySyms; allN_get hU (3 * c + k) (Nat.zero_le _) (by rw [m1]; omega))
          have d1 : Nat.div (3 * c + k) 3 = c := by show (3 * c + k) / 3 = c; omega
          have d2 : Nat.mod (3 * c + k) 3 = k := by show (3 * c + k) % 3 = k; omega
          unfold noU at g
          rw [d1, d2, hn] at g
          simp only [Bool.and_eq_true] at g
          exact ⟨(@entry_of anySyms _ _ (tabs_G t) (size_V t) (floor_V t) _ (@QA_ok t anySyms) _ _ g.1).1, (@entry_of anySyms _ _ (tabs_G t) (size_V t) (floor_V t) _ (@QA_ok t anySyms) _ _ g.2).1⟩
        · exact noE_ok t (haveI := anySyms; allN_get hE c (Nat.zero_le _) (by rw [m2]; omega)) k (by omega)
      exact path_more (ρ := ofInts [(.u8, a), (.u8, b), (.i64, (c : Int)), (.u8, (k : Int))]) (tabs_G t) (size_V t) (floor_V t) (ofInts_plain _) (bt := btU W H c) (ct := []) (allB_U hno) trivial (el := [(8, [va [vy 0, vy 1]], va [vi W, vi H]), (22, [va [vi W, vi H], va [vi c, vy 3]], vp [va [vu 0, vi 0], vi 7]), (21, [va [vi W, vi H], va [vi c, vy 3]], vp [va [vi 0, vi 0, vi 0, vi 0], vi 7])]) ⟨⟨rfl, rfl, hof⟩, ⟨rfl, rfl, hLE.1⟩, ⟨rfl, rfl, hLE.2⟩, trivial⟩ (Q2 := QV t l) (hQ2 := QV_ok t hl) (args := [va [vy 0, vy 1], va [vi c, vy 3]]) (v := vt) rfl rfl (by kernel_rfl) h

end Go.Proofs.YtaacmbmnlhoghaaDoor
