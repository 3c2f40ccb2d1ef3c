/-
  Says: what Check returns; the examples of the chapter hold.
-/
import Derived.Test.YtjmeponjlnhjbaaDoorKl
import Derived.KernelRfl
set_option maxRecDepth 1000000
set_option linter.unusedVariables false
set_option linter.unusedSimpArgs false
namespace Go.Proofs.YtjmeponjlnhjbaaDoor
open Go Go.Vx

/-- What function 42 returns. -/
def F42 (a b : Int) : Value := (match ltI a 1 with | true => .int .i64 1 | false => (match ltI b 1 with | true => .int .i64 1 | false => (match ltI (256 / a) b with | true => .int .i64 1 | false => .int .i64 0)))

theorem r42_0 (t : Nat → TypeId) : isVal (vi 1) (@run (tabPrims [(13, vy 0, vi 1, vt)] []) Tryd.prog (valOrc (fun _ => false) (tabG t) (ansT [])) 1000000 (.call 42 [va [vy 0,vy 1]] (tabG t))) = true := by kernel_rfl
theorem p42_0 (t : Nat → TypeId) (a b : Int) (c0 : ltI a 1 = true) : Known Tryd.prog (tabG t) 42 [.agg ⟨[.int .i64 a,.int .i64 b]⟩] (.int .i64 1) :=
  path_calls (ρ := ofInts [(.i64, a), (.i64, b)]) (tabs_G t) (size_V t) (floor_V t) (ofInts_plain _) (bt := [(13, vy 0, vi 1, vt)]) (ct := []) ⟨bh_lss rfl rfl rfl rfl c0, trivial⟩ trivial (el := []) trivial (args := [va [vy 0,vy 1]]) (v := vi 1) rfl rfl (by kernel_rfl) (r42_0 t)

theorem r42_1 (t : Nat → TypeId) : isVal (vi 1) (@run (tabPrims [(13, vy 0, vi 1, vf), (13, vy 1, vi 1, vt)] []) Tryd.prog (valOrc (fun _ => false) (tabG t) (ansT [])) 1000000 (.call 42 [va [vy 0,vy 1]] (tabG t))) = true := by kernel_rfl
theorem p42_1 (t : Nat → TypeId) (a b : Int) (c0 : ltI a 1 = false) (c1 : ltI b 1 = true) : Known Tryd.prog (tabG t) 42 [.agg ⟨[.int .i64 a,.int .i64 b]⟩] (.int .i64 1) :=
  path_calls (ρ := ofInts [(.i64, a), (.i64, b)]) (tabs_G t) (size_V t) (floor_V t) (ofInts_plain _) (bt := [(13, vy 0, vi 1, vf), (13, vy 1, vi 1, vt)]) (ct := []) ⟨bh_lss rfl rfl rfl rfl c0, bh_lss rfl rfl rfl rfl c1, trivial⟩ trivial (el := []) trivial (args := [va [vy 0,vy 1]]) (v := vi 1) rfl rfl (by kernel_rfl) (r42_1 t)

theorem r42_2 (t : Nat → TypeId) : isVal (vi 1) (@run (tabPrims [(13, vy 0, vi 1, vf), (13, vy 1, vi 1, vf), (3, vi 256, vy 0, vy 2), (15, vy 1, vy 2, vt)] []) Tryd.prog (valOrc (fun _ => false) (tabG t) (ansT [])) 1000000 (.call 42 [va [vy 0,vy 1]] (tabG t))) = true := by kernel_rfl
theorem p42_2 (t : Nat → TypeId) (a b : Int) (c0 : ltI a 1 = false) (c1 : ltI b 1 = false) (c2 : ltI (256 / a) b = true) : Known Tryd.prog (tabG t) 42 [.agg ⟨[.int .i64 a,.int .i64 b]⟩] (.int .i64 1) :=
  path_calls (ρ := ofInts [(.i64, a), (.i64, b), (.i64, (256 / a))]) (tabs_G t) (size_V t) (floor_V t) (ofInts_plain _) (bt := [(13, vy 0, vi 1, vf), (13, vy 1, vi 1, vf), (3, vi 256, vy 0, vy 2), (15, vy 1, vy 2, vt)]) (ct := []) ⟨bh_lss rfl rfl rfl rfl c0, bh_lss rfl rfl rfl rfl c1, bh_quo rfl rfl rfl rfl rfl (by first | decide | (have d0 := lt_f c0; have d1 := lt_f c1; have d2 := lt_t c2;  omega)) (by first | decide | (have d0 := lt_f c0; have d1 := lt_f c1; have d2 := lt_t c2;  show _ < (9223372036854775808 : Int); omega)) (by first | decide | (have d0 := lt_f c0; have d1 := lt_f c1; have d2 := lt_t c2;  omega)) rfl, bh_gtr rfl rfl rfl rfl c2, trivial⟩ trivial (el := []) trivial (args := [va [vy 0,vy 1]]) (v := vi 1) rfl rfl (by kernel_rfl) (r42_2 t)

theorem r42_3 (t : Nat → TypeId) : isVal (vi 0) (@run (tabPrims [(13, vy 0, vi 1, vf), (13, vy 1, vi 1, vf), (3, vi 256, vy 0, vy 2), (15, vy 1, vy 2, vf)] []) Tryd.prog (valOrc (fun _ => false) (tabG t) (ansT [])) 1000000 (.call 42 [va [vy 0,vy 1]] (tabG t))) = true := by kernel_rfl
theorem p42_3 (t : Nat → TypeId) (a b : Int) (c0 : ltI a 1 = false) (c1 : ltI b 1 = false) (c2 : ltI (256 / a) b = false) : Known Tryd.prog (tabG t) 42 [.agg ⟨[.int .i64 a,.int .i64 b]⟩] (.int .i64 0) :=
  path_calls (ρ := ofInts [(.i64, a), (.i64, b), (.i64, (256 / a))]) (tabs_G t) (size_V t) (floor_V t) (ofInts_plain _) (bt := [(13, vy 0, vi 1, vf), (13, vy 1, vi 1, vf), (3, vi 256, vy 0, vy 2), (15, vy 1, vy 2, vf)]) (ct := []) ⟨bh_lss rfl rfl rfl rfl c0, bh_lss rfl rfl rfl rfl c1, bh_quo rfl rfl rfl rfl rfl (by first | decide | (have d0 := lt_f c0; have d1 := lt_f c1; have d2 := lt_f c2;  omega)) (by first | decide | (have d0 := lt_f c0; have d1 := lt_f c1; have d2 := lt_f c2;  show _ < (9223372036854775808 : Int); omega)) (by first | decide | (have d0 := lt_f c0; have d1 := lt_f c1; have d2 := lt_f c2;  omega)) rfl, bh_gtr rfl rfl rfl rfl c2, trivial⟩ trivial (el := []) trivial (args := [va [vy 0,vy 1]]) (v := vi 0) rfl rfl (by kernel_rfl) (r42_3 t)

theorem s42 (t : Nat → TypeId) (a b : Int) : Known Tryd.prog (tabG t) 42 [.agg ⟨[.int .i64 a,.int .i64 b]⟩] (F42 a b) := by
  unfold F42
  cases c0 : ltI a 1 with
  | true =>
    exact p42_0 t a b c0
  | false =>
    cases c1 : ltI b 1 with
    | true =>
      exact p42_1 t a b c0 c1
    | false =>
      cases c2 : ltI (256 / a) b with
      | true =>
        exact p42_2 t a b c0 c1 c2
      | false =>
        exact p42_3 t a b c0 c1 c2

attribute [local instance] anySyms
theorem lives_run (t : Nat → TypeId) : allL (entOk Tryd.prog (noOrc (tabG t)) (tabG t)) [(44, [], vt)] = true := by kernel_rfl
theorem k44 (t : Nat → TypeId) : Known Tryd.prog (tabG t) 44 [] vt := (ents_of (tabs_G t) (size_V t) (floor_V t) (nothing_known (base_G t)) (lives_run t) (44, [], vt) (List.mem_singleton.2 rfl)).1
theorem sheet_facts (a b : Int) : (256 < a → 1 ≤ b → 256 / a < b) ∧ (1 ≤ a → 256 < b → 256 / a < b) ∧ (1 ≤ a → a ≤ 256 → 1 ≤ b → b ≤ 256 → (256 < wrapF .i64 (Int.mul a b) → 256 / a < b) ∧ (wrapF .i64 (Int.mul a b) ≤ 256 → b ≤ 256 / a)) := by
  refine ⟨fun h1 h2 => ?_, fun h1 h2 => ?_, fun h1 h2 h3 h4 => ?_⟩
  · rw [Int.ediv_eq_zero_of_lt (by decide) h1]; omega
  · have := Int.ediv_le_self (a := 256) a (by decide); omega
  · have hm : 0 ≤ a * b := Int.mul_nonneg (by omega) (by omega)
    have hu : a * b ≤ 256 * 256 := Int.mul_le_mul h2 h4 (by omega) (by decide)
    have hw : wrapF .i64 (Int.mul a b) = a * b := by
      show wrapF .i64 (a * b) = a * b
      obtain ⟨m, hm'⟩ := Int.eq_ofNat_of_zero_le hm
      rw [hm']
      exact wrapF_small (show m < 9223372036854775808 by omega)
    rw [hw]
    have hq := Int.le_ediv_iff_mul_le (c := a) (a := b) (b := 256) (by omega)
    rw [Int.mul_comm] at hq
    refine ⟨fun h => ?_, fun h => hq.2 h⟩
    rcases Int.lt_or_le (256 / a) b with h' | h'
    · exact h'
    · have := hq.1 h'; omega

end Go.Proofs.YtjmeponjlnhjbaaDoor
