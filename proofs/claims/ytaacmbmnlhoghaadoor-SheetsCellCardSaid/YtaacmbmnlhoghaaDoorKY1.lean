/-
  Says: SheetsCell at a sheet, on all paths.
-/
import Derived.Test.YtaacmbmnlhoghaaDoorKC4
import Derived.Test.YtaacmbmnlhoghaaDoorKX1
import Derived.Test.YtaacmbmnlhoghaaDoorKX2
import Derived.Test.YtaacmbmnlhoghaaDoorKX3
import Derived.Test.YtaacmbmnlhoghaaDoorKX4
import Derived.Test.YtaacmbmnlhoghaaDoorKX5
import Derived.KernelRfl
set_option maxRecDepth 1000000
set_option linter.unusedVariables false
set_option linter.unusedSimpArgs false
namespace Go.Proofs.YtaacmbmnlhoghaaDoor
open Go Go.Vx

abbrev RH (a b i x y q v m n o : Int) : Nat → Value := ofInts [(.u8, a), (.u8, b), (.i64, i), (.i64, x), (.i64, y), (.u8, q), (.i64, v), (.i64, m), (.i64, n), (.u8, o)]
abbrev KN (t : Nat → TypeId) (a b i x y q : Int) : Prop := Known Tryd.prog (tabG t) 3 [.agg ⟨[.int .u8 a, .int .u8 b]⟩, .int .i64 i, .agg ⟨[.int .i64 x, .int .i64 y, .int .u8 q]⟩] (.bool true)
theorem lk_gen (t : Nat → TypeId) (a b i x y q v m n o : Int) {W H : Nat} {l : List RowE} (hl : RowsOk Tryd.prog (tabG t) l) {bt : List BinE} {d k g : Value}
    (h : isVal vt (@run (tabPrims bt []) Tryd.prog (orElse (valOrc (fun _ => false) (tabG t) (ansT [(8, [va [vy 0, vy 1]], va [vi W, vi H]), (11, [va [vi W, vi H], vy 2], d), (12, [va [vi W, vi H], va [vy 3, vy 4, vy 5]], k), (13, [va [vi W, vi H], va [vy 3, vy 4, vy 5]], g)])) (QU t l)) 1000000 (.call 3 [va [vy 0, vy 1], vy 2, va [vy 3, vy 4, vy 5]] (tabG t))) = true)
    (hb : AllB (RH a b i x y q v m n o) bt) (hof : Known Tryd.prog (tabG t) 8 [.agg ⟨[.int .u8 a, .int .u8 b]⟩] (.agg ⟨[.int .i64 W, .int .i64 H]⟩))
    (sd : simpV d = true) (sk : simpV k = true) (sg : simpV g = true) (e1 : Known Tryd.prog (tabG t) 11 [.agg ⟨[.int .i64 W, .int .i64 H]⟩, .int .i64 i] (actV (RH a b i x y q v m n o) d))
    (e2 : Known Tryd.prog (tabG t) 12 [.agg ⟨[.int .i64 W, .int .i64 H]⟩, .agg ⟨[.int .i64 x, .int .i64 y, .int .u8 q]⟩] (actV (RH a b i x y q v m n o) k)) (e3 : Known Tryd.prog (tabG t) 13 [.agg ⟨[.int .i64 W, .int .i64 H]⟩, .agg ⟨[.int .i64 x, .int .i64 y, .int .u8 q]⟩] (actV (RH a b i x y q v m n o) g)) : KN t a b i x y q :=
  path_more (ρ := RH a b i x y q v m n o) (tabs_G t) (size_V t) (floor_V t) (ofInts_plain _) (bt := bt) (ct := []) hb trivial (el := [(8, [va [vy 0, vy 1]], va [vi W, vi H]), (11, [va [vi W, vi H], vy 2], d), (12, [va [vi W, vi H], va [vy 3, vy 4, vy 5]], k), (13, [va [vi W, vi H], va [vy 3, vy 4, vy 5]], g)]) ⟨⟨rfl, rfl, hof⟩, ⟨rfl, sd, e1⟩, ⟨rfl, sk, e2⟩, ⟨rfl, sg, e3⟩, trivial⟩ (Q2 := QU t l) (hQ2 := QU_ok t hl) (args := [va [vy 0, vy 1], vy 2, va [vy 3, vy 4, vy 5]]) (v := vt) rfl rfl (by kernel_rfl) h
theorem six (i n : Int) : i < 0 ∨ (0 ≤ i ∧ n ≤ i) ∨ (0 ≤ i ∧ i < n) := by omega
theorem lk_1_1 (t : Nat → TypeId) (a b i x y q : Int) (h_a : 0 ≤ a ∧ a ≤ 255) (h_b : 0 ≤ b ∧ b ≤ 255) (h_i : -9223372036854775808 ≤ i ∧ i ≤ 9223372036854775807) (h_q : 0 ≤ q ∧ q ≤ 255) (hw : 1 + a % 5 = 1) (hh : 1 + b % 5 = 1) : KN t a b i x y q := by
  have hof := of_cls t a b 1 1 h_a h_b hw hh
  have e1 := s11 t 1 1 i h_i
  have e2 := s12 t 1 1 x y q h_q
  have e3 := s13 t 1 1 x y q h_q
  have hi := six i 4
  by_cases hc : 0 ≤ x ∧ x < 1 ∧ 0 ≤ y ∧ y < 1 ∧ q < 4
  · rw [(cd_1_1 x y q hc h_q.1).1] at e2
    rw [(cd_1_1 x y q hc h_q.1).2] at e3
    have hv : 0 ≤ (4 * (y * 1 + x) + q) := by omega
    rcases hi with hi | ⟨hi0, hi⟩ | ⟨hi0, hi⟩
    · rw [(ca_1_1 i (.inl hi))] at e1
      exact lk_gen t a b i x y q (4 * (y * 1 + x) + q) ((i / 4) % 1) ((i / 4) / 1) (wrapF .u8 (i % 4)) (rk_1_1 t) (lc_1_1_0_1 t) ⟨bh_lss rfl rfl rfl rfl (lt_tt hi), bh_lss rfl rfl rfl rfl (lt_ff hv), bh_eql rfl rfl rfl rfl (eq_tt rfl), trivial⟩ hof rfl rfl rfl e1 e2 e3
    · rw [(ca_1_1 i (.inr hi))] at e1
      exact lk_gen t a b i x y q (4 * (y * 1 + x) + q) ((i / 4) % 1) ((i / 4) / 1) (wrapF .u8 (i % 4)) (rk_1_1 t) (lc_1_1_1_1 t) ⟨bh_lss rfl rfl rfl rfl (lt_ff hi0), bh_geqT rfl rfl rfl rfl (lt_ff hi), bh_lss rfl rfl rfl rfl (lt_ff hv), bh_eql rfl rfl rfl rfl (eq_tt rfl), trivial⟩ hof rfl rfl rfl e1 e2 e3
    · rw [(cb_1_1 i hi0 hi)] at e1
      exact lk_gen t a b i x y q (4 * (y * 1 + x) + q) ((i / 4) % 1) ((i / 4) / 1) (wrapF .u8 (i % 4)) (rk_1_1 t) (lc_1_1_2_1 t) ⟨bh_lss rfl rfl rfl rfl (lt_ff hi0), bh_geqF rfl rfl rfl rfl (lt_tt hi), bh_lss rfl rfl rfl rfl (lt_ff hv), bh_eql rfl rfl rfl rfl (eq_tt rfl), trivial⟩ hof rfl rfl rfl e1 e2 e3
  · rw [(cc_1_1 x y q hc).1] at e2
    rw [(cc_1_1 x y q hc).2 h_q.1] at e3
    rcases hi with hi | ⟨hi0, hi⟩ | ⟨hi0, hi⟩
    · rw [(ca_1_1 i (.inl hi))] at e1
      exact lk_gen t a b i x y q 0 ((i / 4) % 1) ((i / 4) / 1) (wrapF .u8 (i % 4)) (rk_1_1 t) (lc_1_1_0_0 t) ⟨bh_lss rfl rfl rfl rfl (lt_tt hi), trivial⟩ hof rfl rfl rfl e1 e2 e3
    · rw [(ca_1_1 i (.inr hi))] at e1
      exact lk_gen t a b i x y q 0 ((i / 4) % 1) ((i / 4) / 1) (wrapF .u8 (i % 4)) (rk_1_1 t) (lc_1_1_1_0 t) ⟨bh_lss rfl rfl rfl rfl (lt_ff hi0), bh_geqT rfl rfl rfl rfl (lt_ff hi), trivial⟩ hof rfl rfl rfl e1 e2 e3
    · rw [(cb_1_1 i hi0 hi)] at e1
      exact lk_gen t a b i x y q 0 ((i / 4) % 1) ((i / 4) / 1) (wrapF .u8 (i % 4)) (rk_1_1 t) (lc_1_1_2_0 t) ⟨bh_lss rfl rfl rfl rfl (lt_ff hi0), bh_geqF rfl rfl rfl rfl (lt_tt hi), trivial⟩ hof rfl rfl rfl e1 e2 e3
theorem lk_1_2 (t : Nat → TypeId) (a b i x y q : Int) (h_a : 0 ≤ a ∧ a ≤ 255) (h_b : 0 ≤ b ∧ b ≤ 255) (h_i : -9223372036854775808 ≤ i ∧ i ≤ 9223372036854775807) (h_q : 0 ≤ q ∧ q ≤ 255) (hw : 1 + a % 5 = 1) (hh : 1 + b % 5 = 2) : KN t a b i x y q := by
  have hof := of_cls t a b 1 2 h_a h_b hw hh
  have e1 := s11 t 1 2 i h_i
  have e2 := s12 t 1 2 x y q h_q
  have e3 := s13 t 1 2 x y q h_q
  have hi := six i 8
  by_cases hc : 0 ≤ x ∧ x < 1 ∧ 0 ≤ y ∧ y < 2 ∧ q < 4
  · rw [(cd_1_2 x y q hc h_q.1).1] at e2
    rw [(cd_1_2 x y q hc h_q.1).2] at e3
    have hv : 0 ≤ (4 * (y * 1 + x) + q) := by omega
    rcases hi with hi | ⟨hi0, hi⟩ | ⟨hi0, hi⟩
    · rw [(ca_1_2 i (.inl hi))] at e1
      exact lk_gen t a b i x y q (4 * (y * 1 + x) + q) ((i / 4) % 1) ((i / 4) / 1) (wrapF .u8 (i % 4)) (rk_1_2 t) (lc_1_2_0_1 t) ⟨bh_lss rfl rfl rfl rfl (lt_tt hi), bh_lss rfl rfl rfl rfl (lt_ff hv), bh_eql rfl rfl rfl rfl (eq_tt rfl), trivial⟩ hof rfl rfl rfl e1 e2 e3
    · rw [(ca_1_2 i (.inr hi))] at e1
      exact lk_gen t a b i x y q (4 * (y * 1 + x) + q) ((i / 4) % 1) ((i / 4) / 1) (wrapF .u8 (i % 4)) (rk_1_2 t) (lc_1_2_1_1 t) ⟨bh_lss rfl rfl rfl rfl (lt_ff hi0), bh_geqT rfl rfl rfl rfl (lt_ff hi), bh_lss rfl rfl rfl rfl (lt_ff hv), bh_eql rfl rfl rfl rfl (eq_tt rfl), trivial⟩ hof rfl rfl rfl e1 e2 e3
    · rw [(cb_1_2 i hi0 hi)] at e1
      exact lk_gen t a b i x y q (4 * (y * 1 + x) + q) ((i / 4) % 1) ((i / 4) / 1) (wrapF .u8 (i % 4)) (rk_1_2 t) (lc_1_2_2_1 t) ⟨bh_lss rfl rfl rfl rfl (lt_ff hi0), bh_geqF rfl rfl rfl rfl (lt_tt hi), bh_lss rfl rfl rfl rfl (lt_ff hv), bh_eql rfl rfl rfl rfl (eq_tt rfl), trivial⟩ hof rfl rfl rfl e1 e2 e3
  · rw [(cc_1_2 x y q hc).1] at e2
    rw [(cc_1_2 x y q hc).2 h_q.1] at e3
    rcases hi with hi | ⟨hi0, hi⟩ | ⟨hi0, hi⟩
    · rw [(ca_1_2 i (.inl hi))] at e1
      exact lk_gen t a b i x y q 0 ((i / 4) % 1) ((i / 4) / 1) (wrapF .u8 (i % 4)) (rk_1_2 t) (lc_1_2_0_0 t) ⟨bh_lss rfl rfl rfl rfl (lt_tt hi), trivial⟩ hof rfl rfl rfl e1 e2 e3
    · rw [(ca_1_2 i (.inr hi))] at e1
      exact lk_gen t a b i x y q 0 ((i / 4) % 1) ((i / 4) / 1) (wrapF .u8 (i % 4)) (rk_1_2 t) (lc_1_2_1_0 t) ⟨bh_lss rfl rfl rfl rfl (lt_ff hi0), bh_geqT rfl rfl rfl rfl (lt_ff hi), trivial⟩ hof rfl rfl rfl e1 e2 e3
    · rw [(cb_1_2 i hi0 hi)] at e1
      exact lk_gen t a b i x y q 0 ((i / 4) % 1) ((i / 4) / 1) (wrapF .u8 (i % 4)) (rk_1_2 t) (lc_1_2_2_0 t) ⟨bh_lss rfl rfl rfl rfl (lt_ff hi0), bh_geqF rfl rfl rfl rfl (lt_tt hi), trivial⟩ hof rfl rfl rfl e1 e2 e3
theorem lk_1_3 (t : Nat → TypeId) (a b i x y q : Int) (h_a : 0 ≤ a ∧ a ≤ 255) (h_b : 0 ≤ b ∧ b ≤ 255) (h_i : -9223372036854775808 ≤ i ∧ i ≤ 9223372036854775807) (h_q : 0 ≤ q ∧ q ≤ 255) (hw : 1 + a % 5 = 1) (hh : 1 + b % 5 = 3) : KN t a b i x y q := by
  have hof := of_cls t a b 1 3 h_a h_b hw hh
  have e1 := s11 t 1 3 i h_i
  have e2 := s12 t 1 3 x y q h_q
  have e3 := s13 t 1 3 x y q h_q
  have hi := six i 12
  by_cases hc : 0 ≤ x ∧ x < 1 ∧ 0 ≤ y ∧ y < 3 ∧ q < 4
  · rw [(cd_1_3 x y q hc h_q.1).1] at e2
    rw [(cd_1_3 x y q hc h_q.1).2] at e3
    have hv : 0 ≤ (4 * (y * 1 + x) + q) := by omega
    rcases hi with hi | ⟨hi0, hi⟩ | ⟨hi0, hi⟩
    · rw [(ca_1_3 i (.inl hi))] at e1
      exact lk_gen t a b i x y q (4 * (y * 1 + x) + q) ((i / 4) % 1) ((i / 4) / 1) (wrapF .u8 (i % 4)) (rk_1_3 t) (lc_1_3_0_1 t) ⟨bh_lss rfl rfl rfl rfl (lt_tt hi), bh_lss rfl rfl rfl rfl (lt_ff hv), bh_eql rfl rfl rfl rfl (eq_tt rfl), trivial⟩ hof rfl rfl rfl e1 e2 e3
    · rw [(ca_1_3 i (.inr hi))] at e1
      exact lk_gen t a b i x y q (4 * (y * 1 + x) + q) ((i / 4) % 1) ((i / 4) / 1) (wrapF .u8 (i % 4)) (rk_1_3 t) (lc_1_3_1_1 t) ⟨bh_lss rfl rfl rfl rfl (lt_ff hi0), bh_geqT rfl rfl rfl rfl (lt_ff hi), bh_lss rfl rfl rfl rfl (lt_ff hv), bh_eql rfl rfl rfl rfl (eq_tt rfl), trivial⟩ hof rfl rfl rfl e1 e2 e3
    · rw [(cb_1_3 i hi0 hi)] at e1
      exact lk_gen t a b i x y q (4 * (y * 1 + x) + q) ((i / 4) % 1) ((i / 4) / 1) (wrapF .u8 (i % 4)) (rk_1_3 t) (lc_1_3_2_1 t) ⟨bh_lss rfl rfl rfl rfl (lt_ff hi0), bh_geqF rfl rfl rfl rfl (lt_tt hi), bh_lss rfl rfl rfl rfl (lt_ff hv), bh_eql rfl rfl rfl rfl (eq_tt rfl), trivial⟩ hof rfl rfl rfl e1 e2 e3
  · rw [(cc_1_3 x y q hc).1] at e2
    rw [(cc_1_3 x y q hc).2 h_q.1] at e3
    rcases hi with hi | ⟨hi0, hi⟩ | ⟨hi0, hi⟩
    · rw [(ca_1_3 i (.inl hi))] at e1
      exact lk_gen t a b i x y q 0 ((i / 4) % 1) ((i / 4) / 1) (wrapF .u8 (i % 4)) (rk_1_3 t) (lc_1_3_0_0 t) ⟨bh_lss rfl rfl rfl rfl (lt_tt hi), trivial⟩ hof rfl rfl rfl e1 e2 e3
    · rw [(ca_1_3 i (.inr hi))] at e1
      exact lk_gen t a b i x y q 0 ((i / 4) % 1) ((i / 4) / 1) (wrapF .u8 (i % 4)) (rk_1_3 t) (lc_1_3_1_0 t) ⟨bh_lss rfl rfl rfl rfl (lt_ff hi0), bh_geqT rfl rfl rfl rfl (lt_ff hi), trivial⟩ hof rfl rfl rfl e1 e2 e3
    · rw [(cb_1_3 i hi0 hi)] at e1
      exact lk_gen t a b i x y q 0 ((i / 4) % 1) ((i / 4) / 1) (wrapF .u8 (i % 4)) (rk_1_3 t) (lc_1_3_2_0 t) ⟨bh_lss rfl rfl rfl rfl (lt_ff hi0), bh_geqF rfl rfl rfl rfl (lt_tt hi), trivial⟩ hof rfl rfl rfl e1 e2 e3
theorem lk_1_4 (t : Nat → TypeId) (a b i x y q : Int) (h_a : 0 ≤ a ∧ a ≤ 255) (h_b : 0 ≤ b ∧ b ≤ 255) (h_i : -9223372036854775808 ≤ i ∧ i ≤ 9223372036854775807) (h_q : 0 ≤ q ∧ q ≤ 255) (hw : 1 + a % 5 = 1) (hh : 1 + b % 5 = 4) : KN t a b i x y q := by
  have hof := of_cls t a b 1 4 h_a h_b hw hh
  have e1 := s11 t 1 4 i h_i
  have e2 := s12 t 1 4 x y q h_q
  have e3 := s13 t 1 4 x y q h_q
  have hi := six i 16
  by_cases hc : 0 ≤ x ∧ x < 1 ∧ 0 ≤ y ∧ y < 4 ∧ q < 4
  · rw [(cd_1_4 x y q hc h_q.1).1] at e2
    rw [(cd_1_4 x y q hc h_q.1).2] at e3
    have hv : 0 ≤ (4 * (y * 1 + x) + q) := by omega
    rcases hi with hi | ⟨hi0, hi⟩ | ⟨hi0, hi⟩
    · rw [(ca_1_4 i (.inl hi))] at e1
      exact lk_gen t a b i x y q (4 * (y * 1 + x) + q) ((i / 4) % 1) ((i / 4) / 1) (wrapF .u8 (i % 4)) (rk_1_4 t) (lc_1_4_0_1 t) ⟨bh_lss rfl rfl rfl rfl (lt_tt hi), bh_lss rfl rfl rfl rfl (lt_ff hv), bh_eql rfl rfl rfl rfl (eq_tt rfl), trivial⟩ hof rfl rfl rfl e1 e2 e3
    · rw [(ca_1_4 i (.inr hi))] at e1
      exact lk_gen t a b i x y q (4 * (y * 1 + x) + q) ((i / 4) % 1) ((i / 4) / 1) (wrapF .u8 (i % 4)) (rk_1_4 t) (lc_1_4_1_1 t) ⟨bh_lss rfl rfl rfl rfl (lt_ff hi0), bh_geqT rfl rfl rfl rfl (lt_ff hi), bh_lss rfl rfl rfl rfl (lt_ff hv), bh_eql rfl rfl rfl rfl (eq_tt rfl), trivial⟩ hof rfl rfl rfl e1 e2 e3
    · rw [(cb_1_4 i hi0 hi)] at e1
      exact lk_gen t a b i x y q (4 * (y * 1 + x) + q) ((i / 4) % 1) ((i / 4) / 1) (wrapF .u8 (i % 4)) (rk_1_4 t) (lc_1_4_2_1 t) ⟨bh_lss rfl rfl rfl rfl (lt_ff hi0), bh_geqF rfl rfl rfl rfl (lt_tt hi), bh_lss rfl rfl rfl rfl (lt_ff hv), bh_eql rfl rfl rfl rfl (eq_tt rfl), trivial⟩ hof rfl rfl rfl e1 e2 e3
  · rw [(cc_1_4 x y q hc).1] at e2
    rw [(cc_1_4 x y q hc).2 h_q.1] at e3
    rcases hi with hi | ⟨hi0, hi⟩ | ⟨hi0, hi⟩
    · rw [(ca_1_4 i (.inl hi))] at e1
      exact lk_gen t a b i x y q 0 ((i / 4) % 1) ((i / 4) / 1) (wrapF .u8 (i % 4)) (rk_1_4 t) (lc_1_4_0_0 t) ⟨bh_lss rfl rfl rfl rfl (lt_tt hi), trivial⟩ hof rfl rfl rfl e1 e2 e3
    · rw [(ca_1_4 i (.inr hi))] at e1
      exact lk_gen t a b i x y q 0 ((i / 4) % 1) ((i / 4) / 1) (wrapF .u8 (i % 4)) (rk_1_4 t) (lc_1_4_1_0 t) ⟨bh_lss rfl rfl rfl rfl (lt_ff hi0), bh_geqT rfl rfl rfl rfl (lt_ff hi), trivial⟩ hof rfl rfl rfl e1 e2 e3
    · rw [(cb_1_4 i hi0 hi)] at e1
      exact lk_gen t a b i x y q 0 ((i / 4) % 1) ((i / 4) / 1) (wrapF .u8 (i % 4)) (rk_1_4 t) (lc_1_4_2_0 t) ⟨bh_lss rfl rfl rfl rfl (lt_ff hi0), bh_geqF rfl rfl rfl rfl (lt_tt hi), trivial⟩ hof rfl rfl rfl e1 e2 e3
theorem lk_1_5 (t : Nat → TypeId) (a b i x y q : Int) (h_a : 0 ≤ a ∧ a ≤ 255) (h_b : 0 ≤ b ∧ b ≤ 255) (h_i : -9223372036854775808 ≤ i ∧ i ≤ 9223372036854775807) (h_q : 0 ≤ q ∧ q ≤ 255) (hw : 1 + a % 5 = 1) (hh : 1 + b % 5 = 5) : KN t a b i x y q := by
  have hof := of_cls t a b 1 5 h_a h_b hw hh
  have e1 := s11 t 1 5 i h_i
  have e2 := s12 t 1 5 x y q h_q
  have e3 := s13 t 1 5 x y q h_q
  have hi := six i 20
  by_cases hc : 0 ≤ x ∧ x < 1 ∧ 0 ≤ y ∧ y < 5 ∧ q < 4
  · rw [(cd_1_5 x y q hc h_q.1).1] at e2
    rw [(cd_1_5 x y q hc h_q.1).2] at e3
    have hv : 0 ≤ (4 * (y * 1 + x) + q) := by omega
    rcases hi with hi | ⟨hi0, hi⟩ | ⟨hi0, hi⟩
    · rw [(ca_1_5 i (.inl hi))] at e1
      exact lk_gen t a b i x y q (4 * (y * 1 + x) + q) ((i / 4) % 1) ((i / 4) / 1) (wrapF .u8 (i % 4)) (rk_1_5 t) (lc_1_5_0_1 t) ⟨bh_lss rfl rfl rfl rfl (lt_tt hi), bh_lss rfl rfl rfl rfl (lt_ff hv), bh_eql rfl rfl rfl rfl (eq_tt rfl), trivial⟩ hof rfl rfl rfl e1 e2 e3
    · rw [(ca_1_5 i (.inr hi))] at e1
      exact lk_gen t a b i x y q (4 * (y * 1 + x) + q) ((i / 4) % 1) ((i / 4) / 1) (wrapF .u8 (i % 4)) (rk_1_5 t) (lc_1_5_1_1 t) ⟨bh_lss rfl rfl rfl rfl (lt_ff hi0), bh_geqT rfl rfl rfl rfl (lt_ff hi), bh_lss rfl rfl rfl rfl (lt_ff hv), bh_eql rfl rfl rfl rfl (eq_tt rfl), trivial⟩ hof rfl rfl rfl e1 e2 e3
    · rw [(cb_1_5 i hi0 hi)] at e1
      exact lk_gen t a b i x y q (4 * (y * 1 + x) + q) ((i / 4) % 1) ((i / 4) / 1) (wrapF .u8 (i % 4)) (rk_1_5 t) (lc_1_5_2_1 t) ⟨bh_lss rfl rfl rfl rfl (lt_ff hi0), bh_geqF rfl rfl rfl rfl (lt_tt hi), bh_lss rfl rfl rfl rfl (lt_ff hv), bh_eql rfl rfl rfl rfl (eq_tt rfl), trivial⟩ hof rfl rfl rfl e1 e2 e3
  · rw [(cc_1_5 x y q hc).1] at e2
    rw [(cc_1_5 x y q hc).2 h_q.1] at e3
    rcases hi with hi | ⟨hi0, hi⟩ | ⟨hi0, hi⟩
    · rw [(ca_1_5 i (.inl hi))] at e1
      exact lk_gen t a b i x y q 0 ((i / 4) % 1) ((i / 4) / 1) (wrapF .u8 (i % 4)) (rk_1_5 t) (lc_1_5_0_0 t) ⟨bh_lss rfl rfl rfl rfl (lt_tt hi), trivial⟩ hof rfl rfl rfl e1 e2 e3
    · rw [(ca_1_5 i (.inr hi))] at e1
      exact lk_gen t a b i x y q 0 ((i / 4) % 1) ((i / 4) / 1) (wrapF .u8 (i % 4)) (rk_1_5 t) (lc_1_5_1_0 t) ⟨bh_lss rfl rfl rfl rfl (lt_ff hi0), bh_geqT rfl rfl rfl rfl (lt_ff hi), trivial⟩ hof rfl rfl rfl e1 e2 e3
    · rw [(cb_1_5 i hi0 hi)] at e1
      exact lk_gen t a b i x y q 0 ((i / 4) % 1) ((i / 4) / 1) (wrapF .u8 (i % 4)) (rk_1_5 t) (lc_1_5_2_0 t) ⟨bh_lss rfl rfl rfl rfl (lt_ff hi0), bh_geqF rfl rfl rfl rfl (lt_tt hi), trivial⟩ hof rfl rfl rfl e1 e2 e3
theorem lk_2_1 (t : Nat → TypeId) (a b i x y q : Int) (h_a : 0 ≤ a ∧ a ≤ 255) (h_b : 0 ≤ b ∧ b ≤ 255) (h_i : -9223372036854775808 ≤ i ∧ i ≤ 9223372036854775807) (h_q : 0 ≤ q ∧ q ≤ 255) (hw : 1 + a % 5 = 2) (hh : 1 + b % 5 = 1) : KN t a b i x y q := by
  have hof := of_cls t a b 2 1 h_a h_b hw hh
  have e1 := s11 t 2 1 i h_i
  have e2 := s12 t 2 1 x y q h_q
  have e3 := s13 t 2 1 x y q h_q
  have hi := six i 8
  by_cases hc : 0 ≤ x ∧ x < 2 ∧ 0 ≤ y ∧ y < 1 ∧ q < 4
  · rw [(cd_2_1 x y q hc h_q.1).1] at e2
    rw [(cd_2_1 x y q hc h_q.1).2] at e3
    have hv : 0 ≤ (4 * (y * 2 + x) + q) := by omega
    rcases hi with hi | ⟨hi0, hi⟩ | ⟨hi0, hi⟩
    · rw [(ca_2_1 i (.inl hi))] at e1
      exact lk_gen t a b i x y q (4 * (y * 2 + x) + q) ((i / 4) % 2) ((i / 4) / 2) (wrapF .u8 (i % 4)) (rk_2_1 t) (lc_2_1_0_1 t) ⟨bh_lss rfl rfl rfl rfl (lt_tt hi), bh_lss rfl rfl rfl rfl (lt_ff hv), bh_eql rfl rfl rfl rfl (eq_tt rfl), trivial⟩ hof rfl rfl rfl e1 e2 e3
    · rw [(ca_2_1 i (.inr hi))] at e1
      exact lk_gen t a b i x y q (4 * (y * 2 + x) + q) ((i / 4) % 2) ((i / 4) / 2) (wrapF .u8 (i % 4)) (rk_2_1 t) (lc_2_1_1_1 t) ⟨bh_lss rfl rfl rfl rfl (lt_ff hi0), bh_geqT rfl rfl rfl rfl (lt_ff hi), bh_lss rfl rfl rfl rfl (lt_ff hv), bh_eql rfl rfl rfl rfl (eq_tt rfl), trivial⟩ hof rfl rfl rfl e1 e2 e3
    · rw [(cb_2_1 i hi0 hi)] at e1
      exact lk_gen t a b i x y q (4 * (y * 2 + x) + q) ((i / 4) % 2) ((i / 4) / 2) (wrapF .u8 (i % 4)) (rk_2_1 t) (lc_2_1_2_1 t) ⟨bh_lss rfl rfl rfl rfl (lt_ff hi0), bh_geqF rfl rfl rfl rfl (lt_tt hi), bh_lss rfl rfl rfl rfl (lt_ff hv), bh_eql rfl rfl rfl rfl (eq_tt rfl), trivial⟩ hof rfl rfl rfl e1 e2 e3
  · rw [(cc_2_1 x y q hc).1] at e2
    rw [(cc_2_1 x y q hc).2 h_q.1] at e3
    rcases hi with hi | ⟨hi0, hi⟩ | ⟨hi0, hi⟩
    · rw [(ca_2_1 i (.inl hi))] at e1
      exact lk_gen t a b i x y q 0 ((i / 4) % 2) ((i / 4) / 2) (wrapF .u8 (i % 4)) (rk_2_1 t) (lc_2_1_0_0 t) ⟨bh_lss rfl rfl rfl rfl (lt_tt hi), trivial⟩ hof rfl rfl rfl e1 e2 e3
    · rw [(ca_2_1 i (.inr hi))] at e1
      exact lk_gen t a b i x y q 0 ((i / 4) % 2) ((i / 4) / 2) (wrapF .u8 (i % 4)) (rk_2_1 t) (lc_2_1_1_0 t) ⟨bh_lss rfl rfl rfl rfl (lt_ff hi0), bh_geqT rfl rfl rfl rfl (lt_ff hi), trivial⟩ hof rfl rfl rfl e1 e2 e3
    · rw [(cb_2_1 i hi0 hi)] at e1
      exact lk_gen t a b i x y q 0 ((i / 4) % 2) ((i / 4) / 2) (wrapF .u8 (i % 4)) (rk_2_1 t) (lc_2_1_2_0 t) ⟨bh_lss rfl rfl rfl rfl (lt_ff hi0), bh_geqF rfl rfl rfl rfl (lt_tt hi), trivial⟩ hof rfl rfl rfl e1 e2 e3
theorem lk_2_2 (t : Nat → TypeId) (a b i x y q : Int) (h_a : 0 ≤ a ∧ a ≤ 255) (h_b : 0 ≤ b ∧ b ≤ 255) (h_i : -9223372036854775808 ≤ i ∧ i ≤ 9223372036854775807) (h_q : 0 ≤ q ∧ q ≤ 255) (hw : 1 + a % 5 = 2) (hh : 1 + b % 5 = 2) : KN t a b i x y q := by
  have hof := of_cls t a b 2 2 h_a h_b hw hh
  have e1 := s11 t 2 2 i h_i
  have e2 := s12 t 2 2 x y q h_q
  have e3 := s13 t 2 2 x y q h_q
  have hi := six i 16
  by_cases hc : 0 ≤ x ∧ x < 2 ∧ 0 ≤ y ∧ y < 2 ∧ q < 4
  · rw [(cd_2_2 x y q hc h_q.1).1] at e2
    rw [(cd_2_2 x y q hc h_q.1).2] at e3
    have hv : 0 ≤ (4 * (y * 2 + x) + q) := by omega
    rcases hi with hi | ⟨hi0, hi⟩ | ⟨hi0, hi⟩
    · rw [(ca_2_2 i (.inl hi))] at e1
      exact lk_gen t a b i x y q (4 * (y * 2 + x) + q) ((i / 4) % 2) ((i / 4) / 2) (wrapF .u8 (i % 4)) (rk_2_2 t) (lc_2_2_0_1 t) ⟨bh_lss rfl rfl rfl rfl (lt_tt hi), bh_lss rfl rfl rfl rfl (lt_ff hv), bh_eql rfl rfl rfl rfl (eq_tt rfl), trivial⟩ hof rfl rfl rfl e1 e2 e3
    · rw [(ca_2_2 i (.inr hi))] at e1
      exact lk_gen t a b i x y q (4 * (y * 2 + x) + q) ((i / 4) % 2) ((i / 4) / 2) (wrapF .u8 (i % 4)) (rk_2_2 t) (lc_2_2_1_1 t) ⟨bh_lss rfl rfl rfl rfl (lt_ff hi0), bh_geqT rfl rfl rfl rfl (lt_ff hi), bh_lss rfl rfl rfl rfl (lt_ff hv), bh_eql rfl rfl rfl rfl (eq_tt rfl), trivial⟩ hof rfl rfl rfl e1 e2 e3
    · rw [(cb_2_2 i hi0 hi)] at e1
      exact lk_gen t a b i x y q (4 * (y * 2 + x) + q) ((i / 4) % 2) ((i / 4) / 2) (wrapF .u8 (i % 4)) (rk_2_2 t) (lc_2_2_2_1 t) ⟨bh_lss rfl rfl rfl rfl (lt_ff hi0), bh_geqF rfl rfl rfl rfl (lt_tt hi), bh_lss rfl rfl rfl rfl (lt_ff hv), bh_eql rfl rfl rfl rfl (eq_tt rfl), trivial⟩ hof rfl rfl rfl e1 e2 e3
  · rw [(cc_2_2 x y q hc).1] at e2
    rw [(cc_2_2 x y q hc).2 h_q.1] at e3
    rcases hi with hi | ⟨hi0, hi⟩ | ⟨hi0, hi⟩
    · rw [(ca_2_2 i (.inl hi))] at e1
      exact lk_gen t a b i x y q 0 ((i / 4) % 2) ((i / 4) / 2) (wrapF .u8 (i % 4)) (rk_2_2 t) (lc_2_2_0_0 t) ⟨bh_lss rfl rfl rfl rfl (lt_tt hi), trivial⟩ hof rfl rfl rfl e1 e2 e3
    · rw [(ca_2_2 i (.inr hi))] at e1
      exact lk_gen t a b i x y q 0 ((i / 4) % 2) ((i / 4) / 2) (wrapF .u8 (i % 4)) (rk_2_2 t) (lc_2_2_1_0 t) ⟨bh_lss rfl rfl rfl rfl (lt_ff hi0), bh_geqT rfl rfl rfl rfl (lt_ff hi), trivial⟩ hof rfl rfl rfl e1 e2 e3
    · rw [(cb_2_2 i hi0 hi)] at e1
      exact lk_gen t a b i x y q 0 ((i / 4) % 2) ((i / 4) / 2) (wrapF .u8 (i % 4)) (rk_2_2 t) (lc_2_2_2_0 t) ⟨bh_lss rfl rfl rfl rfl (lt_ff hi0), bh_geqF rfl rfl rfl rfl (lt_tt hi), trivial⟩ hof rfl rfl rfl e1 e2 e3
theorem lk_2_3 (t : Nat → TypeId) (a b i x y q : Int) (h_a : 0 ≤ a ∧ a ≤ 255) (h_b : 0 ≤ b ∧ b ≤ 255) (h_i : -9223372036854775808 ≤ i ∧ i ≤ 9223372036854775807) (h_q : 0 ≤ q ∧ q ≤ 255) (hw : 1 + a % 5 = 2) (hh : 1 + b % 5 = 3) : KN t a b i x y q := by
  have hof := of_cls t a b 2 3 h_a h_b hw hh
  have e1 := s11 t 2 3 i h_i
  have e2 := s12 t 2 3 x y q h_q
  have e3 := s13 t 2 3 x y q h_q
  have hi := six i 24
  by_cases hc : 0 ≤ x ∧ x < 2 ∧ 0 ≤ y ∧ y < 3 ∧ q < 4
  · rw [(cd_2_3 x y q hc h_q.1).1] at e2
    rw [(cd_2_3 x y q hc h_q.1).2] at e3
    have hv : 0 ≤ (4 * (y * 2 + x) + q) := by omega
    rcases hi with hi | ⟨hi0, hi⟩ | ⟨hi0, hi⟩
    · rw [(ca_2_3 i (.inl hi))] at e1
      exact lk_gen t a b i x y q (4 * (y * 2 + x) + q) ((i / 4) % 2) ((i / 4) / 2) (wrapF .u8 (i % 4)) (rk_2_3 t) (lc_2_3_0_1 t) ⟨bh_lss rfl rfl rfl rfl (lt_tt hi), bh_lss rfl rfl rfl rfl (lt_ff hv), bh_eql rfl rfl rfl rfl (eq_tt rfl), trivial⟩ hof rfl rfl rfl e1 e2 e3
    · rw [(ca_2_3 i (.inr hi))] at e1
      exact lk_gen t a b i x y q (4 * (y * 2 + x) + q) ((i / 4) % 2) ((i / 4) / 2) (wrapF .u8 (i % 4)) (rk_2_3 t) (lc_2_3_1_1 t) ⟨bh_lss rfl rfl rfl rfl (lt_ff hi0), bh_geqT rfl rfl rfl rfl (lt_ff hi), bh_lss rfl rfl rfl rfl (lt_ff hv), bh_eql rfl rfl rfl rfl (eq_tt rfl), trivial⟩ hof rfl rfl rfl e1 e2 e3
    · rw [(cb_2_3 i hi0 hi)] at e1
      exact lk_gen t a b i x y q (4 * (y * 2 + x) + q) ((i / 4) % 2) ((i / 4) / 2) (wrapF .u8 (i % 4)) (rk_2_3 t) (lc_2_3_2_1 t) ⟨bh_lss rfl rfl rfl rfl (lt_ff hi0), bh_geqF rfl rfl rfl rfl (lt_tt hi), bh_lss rfl rfl rfl rfl (lt_ff hv), bh_eql rfl rfl rfl rfl (eq_tt rfl), trivial⟩ hof rfl rfl rfl e1 e2 e3
  · rw [(cc_2_3 x y q hc).1] at e2
    rw [(cc_2_3 x y q hc).2 h_q.1] at e3
    rcases hi with hi | ⟨hi0, hi⟩ | ⟨hi0, hi⟩
    · rw [(ca_2_3 i (.inl hi))] at e1
      exact lk_gen t a b i x y q 0 ((i / 4) % 2) ((i / 4) / 2) (wrapF .u8 (i % 4)) (rk_2_3 t) (lc_2_3_0_0 t) ⟨bh_lss rfl rfl rfl rfl (lt_tt hi), trivial⟩ hof rfl rfl rfl e1 e2 e3
    · rw [(ca_2_3 i (.inr hi))] at e1
      exact lk_gen t a b i x y q 0 ((i / 4) % 2) ((i / 4) / 2) (wrapF .u8 (i % 4)) (rk_2_3 t) (lc_2_3_1_0 t) ⟨bh_lss rfl rfl rfl rfl (lt_ff hi0), bh_geqT rfl rfl rfl rfl (lt_ff hi), trivial⟩ hof rfl rfl rfl e1 e2 e3
    · rw [(cb_2_3 i hi0 hi)] at e1
      exact lk_gen t a b i x y q 0 ((i / 4) % 2) ((i / 4) / 2) (wrapF .u8 (i % 4)) (rk_2_3 t) (lc_2_3_2_0 t) ⟨bh_lss rfl rfl rfl rfl (lt_ff hi0), bh_geqF rfl rfl rfl rfl (lt_tt hi), trivial⟩ hof rfl rfl rfl e1 e2 e3
theorem lk_2_4 (t : Nat → TypeId) (a b i x y q : Int) (h_a : 0 ≤ a ∧ a ≤ 255) (h_b : 0 ≤ b ∧ b ≤ 255) (h_i : -9223372036854775808 ≤ i ∧ i ≤ 9223372036854775807) (h_q : 0 ≤ q ∧ q ≤ 255) (hw : 1 + a % 5 = 2) (hh : 1 + b % 5 = 4) : KN t a b i x y q := by
  have hof := of_cls t a b 2 4 h_a h_b hw hh
  have e1 := s11 t 2 4 i h_i
  have e2 := s12 t 2 4 x y q h_q
  have e3 := s13 t 2 4 x y q h_q
  have hi := six i 32
  by_cases hc : 0 ≤ x ∧ x < 2 ∧ 0 ≤ y ∧ y < 4 ∧ q < 4
  · rw [(cd_2_4 x y q hc h_q.1).1] at e2
    rw [(cd_2_4 x y q hc h_q.1).2] at e3
    have hv : 0 ≤ (4 * (y * 2 + x) + q) := by omega
    rcases hi with hi | ⟨hi0, hi⟩ | ⟨hi0, hi⟩
    · rw [(ca_2_4 i (.inl hi))] at e1
      exact lk_gen t a b i x y q (4 * (y * 2 + x) + q) ((i / 4) % 2) ((i / 4) / 2) (wrapF .u8 (i % 4)) (rk_2_4 t) (lc_2_4_0_1 t) ⟨bh_lss rfl rfl rfl rfl (lt_tt hi), bh_lss rfl rfl rfl rfl (lt_ff hv), bh_eql rfl rfl rfl rfl (eq_tt rfl), trivial⟩ hof rfl rfl rfl e1 e2 e3
    · rw [(ca_2_4 i (.inr hi))] at e1
      exact lk_gen t a b i x y q (4 * (y * 2 + x) + q) ((i / 4) % 2) ((i / 4) / 2) (wrapF .u8 (i % 4)) (rk_2_4 t) (lc_2_4_1_1 t) ⟨bh_lss rfl rfl rfl rfl (lt_ff hi0), bh_geqT rfl rfl rfl rfl (lt_ff hi), bh_lss rfl rfl rfl rfl (lt_ff hv), bh_eql rfl rfl rfl rfl (eq_tt rfl), trivial⟩ hof rfl rfl rfl e1 e2 e3
    · rw [(cb_2_4 i hi0 hi)] at e1
      exact lk_gen t a b i x y q (4 * (y * 2 + x) + q) ((i / 4) % 2) ((i / 4) / 2) (wrapF .u8 (i % 4)) (rk_2_4 t) (lc_2_4_2_1 t) ⟨bh_lss rfl rfl rfl rfl (lt_ff hi0), bh_geqF rfl rfl rfl rfl (lt_tt hi), bh_lss rfl rfl rfl rfl (lt_ff hv), bh_eql rfl rfl rfl rfl (eq_tt rfl), trivial⟩ hof rfl rfl rfl e1 e2 e3
  · rw [(cc_2_4 x y q hc).1] at e2
    rw [(cc_2_4 x y q hc).2 h_q.1] at e3
    rcases hi with hi | ⟨hi0, hi⟩ | ⟨hi0, hi⟩
    · rw [(ca_2_4 i (.inl hi))] at e1
      exact lk_gen t a b i x y q 0 ((i / 4) % 2) ((i / 4) / 2) (wrapF .u8 (i % 4)) (rk_2_4 t) (lc_2_4_0_0 t) ⟨bh_lss rfl rfl rfl rfl (lt_tt hi), trivial⟩ hof rfl rfl rfl e1 e2 e3
    · rw [(ca_2_4 i (.inr hi))] at e1
      exact lk_gen t a b i x y q 0 ((i / 4) % 2) ((i / 4) / 2) (wrapF .u8 (i % 4)) (rk_2_4 t) (lc_2_4_1_0 t) ⟨bh_lss rfl rfl rfl rfl (lt_ff hi0), bh_geqT rfl rfl rfl rfl (lt_ff hi), trivial⟩ hof rfl rfl rfl e1 e2 e3
    · rw [(cb_2_4 i hi0 hi)] at e1
      exact lk_gen t a b i x y q 0 ((i / 4) % 2) ((i / 4) / 2) (wrapF .u8 (i % 4)) (rk_2_4 t) (lc_2_4_2_0 t) ⟨bh_lss rfl rfl rfl rfl (lt_ff hi0), bh_geqF rfl rfl rfl rfl (lt_tt hi), trivial⟩ hof rfl rfl rfl e1 e2 e3
theorem lk_2_5 (t : Nat → TypeId) (a b i x y q : Int) (h_a : 0 ≤ a ∧ a ≤ 255) (h_b : 0 ≤ b ∧ b ≤ 255) (h_i : -9223372036854775808 ≤ i ∧ i ≤ 9223372036854775807) (h_q : 0 ≤ q ∧ q ≤ 255) (hw : 1 + a % 5 = 2) (hh : 1 + b % 5 = 5) : KN t a b i x y q := by
  have hof := of_cls t a b 2 5 h_a h_b hw hh
  have e1 := s11 t 2 5 i h_i
  have e2 := s12 t 2 5 x y q h_q
  have e3 := s13 t 2 5 x y q h_q
  have hi := six i 40
  by_cases hc : 0 ≤ x ∧ x < 2 ∧ 0 ≤ y ∧ y < 5 ∧ q < 4
  · rw [(cd_2_5 x y q hc h_q.1).1] at e2
    rw [(cd_2_5 x y q hc h_q.1).2] at e3
    have hv : 0 ≤ (4 * (y * 2 + x) + q) := by omega
    rcases hi with hi | ⟨hi0, hi⟩ | ⟨hi0, hi⟩
    · rw [(ca_2_5 i (.inl hi))] at e1
      exact lk_gen t a b i x y q (4 * (y * 2 + x) + q) ((i / 4) % 2) ((i / 4) / 2) (wrapF .u8 (i % 4)) (rk_2_5 t) (lc_2_5_0_1 t) ⟨bh_lss rfl rfl rfl rfl (lt_tt hi), bh_lss rfl rfl rfl rfl (lt_ff hv), bh_eql rfl rfl rfl rfl (eq_tt rfl), trivial⟩ hof rfl rfl rfl e1 e2 e3
    · rw [(ca_2_5 i (.inr hi))] at e1
      exact lk_gen t a b i x y q (4 * (y * 2 + x) + q) ((i / 4) % 2) ((i / 4) / 2) (wrapF .u8 (i % 4)) (rk_2_5 t) (lc_2_5_1_1 t) ⟨bh_lss rfl rfl rfl rfl (lt_ff hi0), bh_geqT rfl rfl rfl rfl (lt_ff hi), bh_lss rfl rfl rfl rfl (lt_ff hv), bh_eql rfl rfl rfl rfl (eq_tt rfl), trivial⟩ hof rfl rfl rfl e1 e2 e3
    · rw [(cb_2_5 i hi0 hi)] at e1
      exact lk_gen t a b i x y q (4 * (y * 2 + x) + q) ((i / 4) % 2) ((i / 4) / 2) (wrapF .u8 (i % 4)) (rk_2_5 t) (lc_2_5_2_1 t) ⟨bh_lss rfl rfl rfl rfl (lt_ff hi0), bh_geqF rfl rfl rfl rfl (lt_tt hi), bh_lss rfl rfl rfl rfl (lt_ff hv), bh_eql rfl rfl rfl rfl (eq_tt rfl), trivial⟩ hof rfl rfl rfl e1 e2 e3
  · rw [(cc_2_5 x y q hc).1] at e2
    rw [(cc_2_5 x y q hc).2 h_q.1] at e3
    rcases hi with hi | ⟨hi0, hi⟩ | ⟨hi0, hi⟩
    · rw [(ca_2_5 i (.inl hi))] at e1
      exact lk_gen t a b i x y q 0 ((i / 4) % 2) ((i / 4) / 2) (wrapF .u8 (i % 4)) (rk_2_5 t) (lc_2_5_0_0 t) ⟨bh_lss rfl rfl rfl rfl (lt_tt hi), trivial⟩ hof rfl rfl rfl e1 e2 e3
    · rw [(ca_2_5 i (.inr hi))] at e1
      exact lk_gen t a b i x y q 0 ((i / 4) % 2) ((i / 4) / 2) (wrapF .u8 (i % 4)) (rk_2_5 t) (lc_2_5_1_0 t) ⟨bh_lss rfl rfl rfl rfl (lt_ff hi0), bh_geqT rfl rfl rfl rfl (lt_ff hi), trivial⟩ hof rfl rfl rfl e1 e2 e3
    · rw [(cb_2_5 i hi0 hi)] at e1
      exact lk_gen t a b i x y q 0 ((i / 4) % 2) ((i / 4) / 2) (wrapF .u8 (i % 4)) (rk_2_5 t) (lc_2_5_2_0 t) ⟨bh_lss rfl rfl rfl rfl (lt_ff hi0), bh_geqF rfl rfl rfl rfl (lt_tt hi), trivial⟩ hof rfl rfl rfl e1 e2 e3
theorem lk_3_1 (t : Nat → TypeId) (a b i x y q : Int) (h_a : 0 ≤ a ∧ a ≤ 255) (h_b : 0 ≤ b ∧ b ≤ 255) (h_i : -9223372036854775808 ≤ i ∧ i ≤ 9223372036854775807) (h_q : 0 ≤ q ∧ q ≤ 255) (hw : 1 + a % 5 = 3) (hh : 1 + b % 5 = 1) : KN t a b i x y q := by
  have hof := of_cls t a b 3 1 h_a h_b hw hh
  have e1 := s11 t 3 1 i h_i
  have e2 := s12 t 3 1 x y q h_q
  have e3 := s13 t 3 1 x y q h_q
  have hi := six i 12
  by_cases hc : 0 ≤ x ∧ x < 3 ∧ 0 ≤ y ∧ y < 1 ∧ q < 4
  · rw [(cd_3_1 x y q hc h_q.1).1] at e2
    rw [(cd_3_1 x y q hc h_q.1).2] at e3
    have hv : 0 ≤ (4 * (y * 3 + x) + q) := by omega
    rcases hi with hi | ⟨hi0, hi⟩ | ⟨hi0, hi⟩
    · rw [(ca_3_1 i (.inl hi))] at e1
      exact lk_gen t a b i x y q (4 * (y * 3 + x) + q) ((i / 4) % 3) ((i / 4) / 3) (wrapF .u8 (i % 4)) (rk_3_1 t) (lc_3_1_0_1 t) ⟨bh_lss rfl rfl rfl rfl (lt_tt hi), bh_lss rfl rfl rfl rfl (lt_ff hv), bh_eql rfl rfl rfl rfl (eq_tt rfl), trivial⟩ hof rfl rfl rfl e1 e2 e3
    · rw [(ca_3_1 i (.inr hi))] at e1
      exact lk_gen t a b i x y q (4 * (y * 3 + x) + q) ((i / 4) % 3) ((i / 4) / 3) (wrapF .u8 (i % 4)) (rk_3_1 t) (lc_3_1_1_1 t) ⟨bh_lss rfl rfl rfl rfl (lt_ff hi0), bh_geqT rfl rfl rfl rfl (lt_ff hi), bh_lss rfl rfl rfl rfl (lt_ff hv), bh_eql rfl rfl rfl rfl (eq_tt rfl), trivial⟩ hof rfl rfl rfl e1 e2 e3
    · rw [(cb_3_1 i hi0 hi)] at e1
      exact lk_gen t a b i x y q (4 * (y * 3 + x) + q) ((i / 4) % 3) ((i / 4) / 3) (wrapF .u8 (i % 4)) (rk_3_1 t) (lc_3_1_2_1 t) ⟨bh_lss rfl rfl rfl rfl (lt_ff hi0), bh_geqF rfl rfl rfl rfl (lt_tt hi), bh_lss rfl rfl rfl rfl (lt_ff hv), bh_eql rfl rfl rfl rfl (eq_tt rfl), trivial⟩ hof rfl rfl rfl e1 e2 e3
  · rw [(cc_3_1 x y q hc).1] at e2
    rw [(cc_3_1 x y q hc).2 h_q.1] at e3
    rcases hi with hi | ⟨hi0, hi⟩ | ⟨hi0, hi⟩
    · rw [(ca_3_1 i (.inl hi))] at e1
      exact lk_gen t a b i x y q 0 ((i / 4) % 3) ((i / 4) / 3) (wrapF .u8 (i % 4)) (rk_3_1 t) (lc_3_1_0_0 t) ⟨bh_lss rfl rfl rfl rfl (lt_tt hi), trivial⟩ hof rfl rfl rfl e1 e2 e3
    · rw [(ca_3_1 i (.inr hi))] at e1
      exact lk_gen t a b i x y q 0 ((i / 4) % 3) ((i / 4) / 3) (wrapF .u8 (i % 4)) (rk_3_1 t) (lc_3_1_1_0 t) ⟨bh_lss rfl rfl rfl rfl (lt_ff hi0), bh_geqT rfl rfl rfl rfl (lt_ff hi), trivial⟩ hof rfl rfl rfl e1 e2 e3
    · rw [(cb_3_1 i hi0 hi)] at e1
      exact lk_gen t a b i x y q 0 ((i / 4) % 3) ((i / 4) / 3) (wrapF .u8 (i % 4)) (rk_3_1 t) (lc_3_1_2_0 t) ⟨bh_lss rfl rfl rfl rfl (lt_ff hi0), bh_geqF rfl rfl rfl rfl (lt_tt hi), trivial⟩ hof rfl rfl rfl e1 e2 e3
theorem lk_3_2 (t : Nat → TypeId) (a b i x y q : Int) (h_a : 0 ≤ a ∧ a ≤ 255) (h_b : 0 ≤ b ∧ b ≤ 255) (h_i : -9223372036854775808 ≤ i ∧ i ≤ 9223372036854775807) (h_q : 0 ≤ q ∧ q ≤ 255) (hw : 1 + a % 5 = 3) (hh : 1 + b % 5 = 2) : KN t a b i x y q := by
  have hof := of_cls t a b 3 2 h_a h_b hw hh
  have e1 := s11 t 3 2 i h_i
  have e2 := s12 t 3 2 x y q h_q
  have e3 := s13 t 3 2 x y q h_q
  have hi := six i 24
  by_cases hc : 0 ≤ x ∧ x < 3 ∧ 0 ≤ y ∧ y < 2 ∧ q < 4
  · rw [(cd_3_2 x y q hc h_q.1).1] at e2
    rw [(cd_3_2 x y q hc h_q.1).2] at e3
    have hv : 0 ≤ (4 * (y * 3 + x) + q) := by omega
    rcases hi with hi | ⟨hi0, hi⟩ | ⟨hi0, hi⟩
    · rw [(ca_3_2 i (.inl hi))] at e1
      exact lk_gen t a b i x y q (4 * (y * 3 + x) + q) ((i / 4) % 3) ((i / 4) / 3) (wrapF .u8 (i % 4)) (rk_3_2 t) (lc_3_2_0_1 t) ⟨bh_lss rfl rfl rfl rfl (lt_tt hi), bh_lss rfl rfl rfl rfl (lt_ff hv), bh_eql rfl rfl rfl rfl (eq_tt rfl), trivial⟩ hof rfl rfl rfl e1 e2 e3
    · rw [(ca_3_2 i (.inr hi))] at e1
      exact lk_gen t a b i x y q (4 * (y * 3 + x) + q) ((i / 4) % 3) ((i / 4) / 3) (wrapF .u8 (i % 4)) (rk_3_2 t) (lc_3_2_1_1 t) ⟨bh_lss rfl rfl rfl rfl (lt_ff hi0), bh_geqT rfl rfl rfl rfl (lt_ff hi), bh_lss rfl rfl rfl rfl (lt_ff hv), bh_eql rfl rfl rfl rfl (eq_tt rfl), trivial⟩ hof rfl rfl rfl e1 e2 e3
    · rw [(cb_3_2 i hi0 hi)] at e1
      exact lk_gen t a b i x y q (4 * (y * 3 + x) + q) ((i / 4) % 3) ((i / 4) / 3) (wrapF .u8 (i % 4)) (rk_3_2 t) (lc_3_2_2_1 t) ⟨bh_lss rfl rfl rfl rfl (lt_ff hi0), bh_geqF rfl rfl rfl rfl (lt_tt hi), bh_lss rfl rfl rfl rfl (lt_ff hv), bh_eql rfl rfl rfl rfl (eq_tt rfl), trivial⟩ hof rfl rfl rfl e1 e2 e3
  · rw [(cc_3_2 x y q hc).1] at e2
    rw [(cc_3_2 x y q hc).2 h_q.1] at e3
    rcases hi with hi | ⟨hi0, hi⟩ | ⟨hi0, hi⟩
    · rw [(ca_3_2 i (.inl hi))] at e1
      exact lk_gen t a b i x y q 0 ((i / 4) % 3) ((i / 4) / 3) (wrapF .u8 (i % 4)) (rk_3_2 t) (lc_3_2_0_0 t) ⟨bh_lss rfl rfl rfl rfl (lt_tt hi), trivial⟩ hof rfl rfl rfl e1 e2 e3
    · rw [(ca_3_2 i (.inr hi))] at e1
      exact lk_gen t a b i x y q 0 ((i / 4) % 3) ((i / 4) / 3) (wrapF .u8 (i % 4)) (rk_3_2 t) (lc_3_2_1_0 t) ⟨bh_lss rfl rfl rfl rfl (lt_ff hi0), bh_geqT rfl rfl rfl rfl (lt_ff hi), trivial⟩ hof rfl rfl rfl e1 e2 e3
    · rw [(cb_3_2 i hi0 hi)] at e1
      exact lk_gen t a b i x y q 0 ((i / 4) % 3) ((i / 4) / 3) (wrapF .u8 (i % 4)) (rk_3_2 t) (lc_3_2_2_0 t) ⟨bh_lss rfl rfl rfl rfl (lt_ff hi0), bh_geqF rfl rfl rfl rfl (lt_tt hi), trivial⟩ hof rfl rfl rfl e1 e2 e3
theorem lk_3_3 (t : Nat → TypeId) (a b i x y q : Int) (h_a : 0 ≤ a ∧ a ≤ 255) (h_b : 0 ≤ b ∧ b ≤ 255) (h_i : -9223372036854775808 ≤ i ∧ i ≤ 9223372036854775807) (h_q : 0 ≤ q ∧ q ≤ 255) (hw : 1 + a % 5 = 3) (hh : 1 + b % 5 = 3) : KN t a b i x y q := by
  have hof := of_cls t a b 3 3 h_a h_b hw hh
  have e1 := s11 t 3 3 i h_i
  have e2 := s12 t 3 3 x y q h_q
  have e3 := s13 t 3 3 x y q h_q
  have hi := six i 36
  by_cases hc : 0 ≤ x ∧ x < 3 ∧ 0 ≤ y ∧ y < 3 ∧ q < 4
  · rw [(cd_3_3 x y q hc h_q.1).1] at e2
    rw [(cd_3_3 x y q hc h_q.1).2] at e3
    have hv : 0 ≤ (4 * (y * 3 + x) + q) := by omega
    rcases hi with hi | ⟨hi0, hi⟩ | ⟨hi0, hi⟩
    · rw [(ca_3_3 i (.inl hi))] at e1
      exact lk_gen t a b i x y q (4 * (y * 3 + x) + q) ((i / 4) % 3) ((i / 4) / 3) (wrapF .u8 (i % 4)) (rk_3_3 t) (lc_3_3_0_1 t) ⟨bh_lss rfl rfl rfl rfl (lt_tt hi), bh_lss rfl rfl rfl rfl (lt_ff hv), bh_eql rfl rfl rfl rfl (eq_tt rfl), trivial⟩ hof rfl rfl rfl e1 e2 e3
    · rw [(ca_3_3 i (.inr hi))] at e1
      exact lk_gen t a b i x y q (4 * (y * 3 + x) + q) ((i / 4) % 3) ((i / 4) / 3) (wrapF .u8 (i % 4)) (rk_3_3 t) (lc_3_3_1_1 t) ⟨bh_lss rfl rfl rfl rfl (lt_ff hi0), bh_geqT rfl rfl rfl rfl (lt_ff hi), bh_lss rfl rfl rfl rfl (lt_ff hv), bh_eql rfl rfl rfl rfl (eq_tt rfl), trivial⟩ hof rfl rfl rfl e1 e2 e3
    · rw [(cb_3_3 i hi0 hi)] at e1
      exact lk_gen t a b i x y q (4 * (y * 3 + x) + q) ((i / 4) % 3) ((i / 4) / 3) (wrapF .u8 (i % 4)) (rk_3_3 t) (lc_3_3_2_1 t) ⟨bh_lss rfl rfl rfl rfl (lt_ff hi0), bh_geqF rfl rfl rfl rfl (lt_tt hi), bh_lss rfl rfl rfl rfl (lt_ff hv), bh_eql rfl rfl rfl rfl (eq_tt rfl), trivial⟩ hof rfl rfl rfl e1 e2 e3
  · rw [(cc_3_3 x y q hc).1] at e2
    rw [(cc_3_3 x y q hc).2 h_q.1] at e3
    rcases hi with hi | ⟨hi0, hi⟩ | ⟨hi0, hi⟩
    · rw [(ca_3_3 i (.inl hi))] at e1
      exact lk_gen t a b i x y q 0 ((i / 4) % 3) ((i / 4) / 3) (wrapF .u8 (i % 4)) (rk_3_3 t) (lc_3_3_0_0 t) ⟨bh_lss rfl rfl rfl rfl (lt_tt hi), trivial⟩ hof rfl rfl rfl e1 e2 e3
    · rw [(ca_3_3 i (.inr hi))] at e1
      exact lk_gen t a b i x y q 0 ((i / 4) % 3) ((i / 4) / 3) (wrapF .u8 (i % 4)) (rk_3_3 t) (lc_3_3_1_0 t) ⟨bh_lss rfl rfl rfl rfl (lt_ff hi0), bh_geqT rfl rfl rfl rfl (lt_ff hi), trivial⟩ hof rfl rfl rfl e1 e2 e3
    · rw [(cb_3_3 i hi0 hi)] at e1
      exact lk_gen t a b i x y q 0 ((i / 4) % 3) ((i / 4) / 3) (wrapF .u8 (i % 4)) (rk_3_3 t) (lc_3_3_2_0 t) ⟨bh_lss rfl rfl rfl rfl (lt_ff hi0), bh_geqF rfl rfl rfl rfl (lt_tt hi), trivial⟩ hof rfl rfl rfl e1 e2 e3
theorem lk_3_4 (t : Nat → TypeId) (a b i x y q : Int) (h_a : 0 ≤ a ∧ a ≤ 255) (h_b : 0 ≤ b ∧ b ≤ 255) (h_i : -9223372036854775808 ≤ i ∧ i ≤ 9223372036854775807) (h_q : 0 ≤ q ∧ q ≤ 255) (hw : 1 + a % 5 = 3) (hh : 1 + b % 5 = 4) : KN t a b i x y q := by
  have hof := of_cls t a b 3 4 h_a h_b hw hh
  have e1 := s11 t 3 4 i h_i
  have e2 := s12 t 3 4 x y q h_q
  have e3 := s13 t 3 4 x y q h_q
  have hi := six i 48
  by_cases hc : 0 ≤ x ∧ x < 3 ∧ 0 ≤ y ∧ y < 4 ∧ q < 4
  · rw [(cd_3_4 x y q hc h_q.1).1] at e2
    rw [(cd_3_4 x y q hc h_q.1).2] at e3
    have hv : 0 ≤ (4 * (y * 3 + x) + q) := by omega
    rcases hi with hi | ⟨hi0, hi⟩ | ⟨hi0, hi⟩
    · rw [(ca_3_4 i (.inl hi))] at e1
      exact lk_gen t a b i x y q (4 * (y * 3 + x) + q) ((i / 4) % 3) ((i / 4) / 3) (wrapF .u8 (i % 4)) (rk_3_4 t) (lc_3_4_0_1 t) ⟨bh_lss rfl rfl rfl rfl (lt_tt hi), bh_lss rfl rfl rfl rfl (lt_ff hv), bh_eql rfl rfl rfl rfl (eq_tt rfl), trivial⟩ hof rfl rfl rfl e1 e2 e3
    · rw [(ca_3_4 i (.inr hi))] at e1
      exact lk_gen t a b i x y q (4 * (y * 3 + x) + q) ((i / 4) % 3) ((i / 4) / 3) (wrapF .u8 (i % 4)) (rk_3_4 t) (lc_3_4_1_1 t) ⟨bh_lss rfl rfl rfl rfl (lt_ff hi0), bh_geqT rfl rfl rfl rfl (lt_ff hi), bh_lss rfl rfl rfl rfl (lt_ff hv), bh_eql rfl rfl rfl rfl (eq_tt rfl), trivial⟩ hof rfl rfl rfl e1 e2 e3
    · rw [(cb_3_4 i hi0 hi)] at e1
      exact lk_gen t a b i x y q (4 * (y * 3 + x) + q) ((i / 4) % 3) ((i / 4) / 3) (wrapF .u8 (i % 4)) (rk_3_4 t) (lc_3_4_2_1 t) ⟨bh_lss rfl rfl rfl rfl (lt_ff hi0), bh_geqF rfl rfl rfl rfl (lt_tt hi), bh_lss rfl rfl rfl rfl (lt_ff hv), bh_eql rfl rfl rfl rfl (eq_tt rfl), trivial⟩ hof rfl rfl rfl e1 e2 e3
  · rw [(cc_3_4 x y q hc).1] at e2
    rw [(cc_3_4 x y q hc).2 h_q.1] at e3
    rcases hi with hi | ⟨hi0, hi⟩ | ⟨hi0, hi⟩
    · rw [(ca_3_4 i (.inl hi))] at e1
      exact lk_gen t a b i x y q 0 ((i / 4) % 3) ((i / 4) / 3) (wrapF .u8 (i % 4)) (rk_3_4 t) (lc_3_4_0_0 t) ⟨bh_lss rfl rfl rfl rfl (lt_tt hi), trivial⟩ hof rfl rfl rfl e1 e2 e3
    · rw [(ca_3_4 i (.inr hi))] at e1
      exact lk_gen t a b i x y q 0 ((i / 4) % 3) ((i / 4) / 3) (wrapF .u8 (i % 4)) (rk_3_4 t) (lc_3_4_1_0 t) ⟨bh_lss rfl rfl rfl rfl (lt_ff hi0), bh_geqT rfl rfl rfl rfl (lt_ff hi), trivial⟩ hof rfl rfl rfl e1 e2 e3
    · rw [(cb_3_4 i hi0 hi)] at e1
      exact lk_gen t a b i x y q 0 ((i / 4) % 3) ((i / 4) / 3) (wrapF .u8 (i % 4)) (rk_3_4 t) (lc_3_4_2_0 t) ⟨bh_lss rfl rfl rfl rfl (lt_ff hi0), bh_geqF rfl rfl rfl rfl (lt_tt hi), trivial⟩ hof rfl rfl rfl e1 e2 e3
theorem lk_3_5 (t : Nat → TypeId) (a b i x y q : Int) (h_a : 0 ≤ a ∧ a ≤ 255) (h_b : 0 ≤ b ∧ b ≤ 255) (h_i : -9223372036854775808 ≤ i ∧ i ≤ 9223372036854775807) (h_q : 0 ≤ q ∧ q ≤ 255) (hw : 1 + a % 5 = 3) (hh : 1 + b % 5 = 5) : KN t a b i x y q := by
  have hof := of_cls t a b 3 5 h_a h_b hw hh
  have e1 := s11 t 3 5 i h_i
  have e2 := s12 t 3 5 x y q h_q
  have e3 := s13 t 3 5 x y q h_q
  have hi := six i 60
  by_cases hc : 0 ≤ x ∧ x < 3 ∧ 0 ≤ y ∧ y < 5 ∧ q < 4
  · rw [(cd_3_5 x y q hc h_q.1).1] at e2
    rw [(cd_3_5 x y q hc h_q.1).2] at e3
    have hv : 0 ≤ (4 * (y * 3 + x) + q) := by omega
    rcases hi with hi | ⟨hi0, hi⟩ | ⟨hi0, hi⟩
    · rw [(ca_3_5 i (.inl hi))] at e1
      exact lk_gen t a b i x y q (4 * (y * 3 + x) + q) ((i / 4) % 3) ((i / 4) / 3) (wrapF .u8 (i % 4)) (rk_3_5 t) (lc_3_5_0_1 t) ⟨bh_lss rfl rfl rfl rfl (lt_tt hi), bh_lss rfl rfl rfl rfl (lt_ff hv), bh_eql rfl rfl rfl rfl (eq_tt rfl), trivial⟩ hof rfl rfl rfl e1 e2 e3
    · rw [(ca_3_5 i (.inr hi))] at e1
      exact lk_gen t a b i x y q (4 * (y * 3 + x) + q) ((i / 4) % 3) ((i / 4) / 3) (wrapF .u8 (i % 4)) (rk_3_5 t) (lc_3_5_1_1 t) ⟨bh_lss rfl rfl rfl rfl (lt_ff hi0), bh_geqT rfl rfl rfl rfl (lt_ff hi), bh_lss rfl rfl rfl rfl (lt_ff hv), bh_eql rfl rfl rfl rfl (eq_tt rfl), trivial⟩ hof rfl rfl rfl e1 e2 e3
    · rw [(cb_3_5 i hi0 hi)] at e1
      exact lk_gen t a b i x y q (4 * (y * 3 + x) + q) ((i / 4) % 3) ((i / 4) / 3) (wrapF .u8 (i % 4)) (rk_3_5 t) (lc_3_5_2_1 t) ⟨bh_lss rfl rfl rfl rfl (lt_ff hi0), bh_geqF rfl rfl rfl rfl (lt_tt hi), bh_lss rfl rfl rfl rfl (lt_ff hv), bh_eql rfl rfl rfl rfl (eq_tt rfl), trivial⟩ hof rfl rfl rfl e1 e2 e3
  · rw [(cc_3_5 x y q hc).1] at e2
    rw [(cc_3_5 x y q hc).2 h_q.1] at e3
    rcases hi with hi | ⟨hi0, hi⟩ | ⟨hi0, hi⟩
    · rw [(ca_3_5 i (.inl hi))] at e1
      exact lk_gen t a b i x y q 0 ((i / 4) % 3) ((i / 4) / 3) (wrapF .u8 (i % 4)) (rk_3_5 t) (lc_3_5_0_0 t) ⟨bh_lss rfl rfl rfl rfl (lt_tt hi), trivial⟩ hof rfl rfl rfl e1 e2 e3
    · rw [(ca_3_5 i (.inr hi))] at e1
      exact lk_gen t a b i x y q 0 ((i / 4) % 3) ((i / 4) / 3) (wrapF .u8 (i % 4)) (rk_3_5 t) (lc_3_5_1_0 t) ⟨bh_lss rfl rfl rfl rfl (lt_ff hi0), bh_geqT rfl rfl rfl rfl (lt_ff hi), trivial⟩ hof rfl rfl rfl e1 e2 e3
    · rw [(cb_3_5 i hi0 hi)] at e1
      exact lk_gen t a b i x y q 0 ((i / 4) % 3) ((i / 4) / 3) (wrapF .u8 (i % 4)) (rk_3_5 t) (lc_3_5_2_0 t) ⟨bh_lss rfl rfl rfl rfl (lt_ff hi0), bh_geqF rfl rfl rfl rfl (lt_tt hi), trivial⟩ hof rfl rfl rfl e1 e2 e3
theorem lk_4_1 (t : Nat → TypeId) (a b i x y q : Int) (h_a : 0 ≤ a ∧ a ≤ 255) (h_b : 0 ≤ b ∧ b ≤ 255) (h_i : -9223372036854775808 ≤ i ∧ i ≤ 9223372036854775807) (h_q : 0 ≤ q ∧ q ≤ 255) (hw : 1 + a % 5 = 4) (hh : 1 + b % 5 = 1) : KN t a b i x y q := by
  have hof := of_cls t a b 4 1 h_a h_b hw hh
  have e1 := s11 t 4 1 i h_i
  have e2 := s12 t 4 1 x y q h_q
  have e3 := s13 t 4 1 x y q h_q
  have hi := six i 16
  by_cases hc : 0 ≤ x ∧ x < 4 ∧ 0 ≤ y ∧ y < 1 ∧ q < 4
  · rw [(cd_4_1 x y q hc h_q.1).1] at e2
    rw [(cd_4_1 x y q hc h_q.1).2] at e3
    have hv : 0 ≤ (4 * (y * 4 + x) + q) := by omega
    rcases hi with hi | ⟨hi0, hi⟩ | ⟨hi0, hi⟩
    · rw [(ca_4_1 i (.inl hi))] at e1
      exact lk_gen t a b i x y q (4 * (y * 4 + x) + q) ((i / 4) % 4) ((i / 4) / 4) (wrapF .u8 (i % 4)) (rk_4_1 t) (lc_4_1_0_1 t) ⟨bh_lss rfl rfl rfl rfl (lt_tt hi), bh_lss rfl rfl rfl rfl (lt_ff hv), bh_eql rfl rfl rfl rfl (eq_tt rfl), trivial⟩ hof rfl rfl rfl e1 e2 e3
    · rw [(ca_4_1 i (.inr hi))] at e1
      exact lk_gen t a b i x y q (4 * (y * 4 + x) + q) ((i / 4) % 4) ((i / 4) / 4) (wrapF .u8 (i % 4)) (rk_4_1 t) (lc_4_1_1_1 t) ⟨bh_lss rfl rfl rfl rfl (lt_ff hi0), bh_geqT rfl rfl rfl rfl (lt_ff hi), bh_lss rfl rfl rfl rfl (lt_ff hv), bh_eql rfl rfl rfl rfl (eq_tt rfl), trivial⟩ hof rfl rfl rfl e1 e2 e3
    · rw [(cb_4_1 i hi0 hi)] at e1
      exact lk_gen t a b i x y q (4 * (y * 4 + x) + q) ((i / 4) % 4) ((i / 4) / 4) (wrapF .u8 (i % 4)) (rk_4_1 t) (lc_4_1_2_1 t) ⟨bh_lss rfl rfl rfl rfl (lt_ff hi0), bh_geqF rfl rfl rfl rfl (lt_tt hi), bh_lss rfl rfl rfl rfl (lt_ff hv), bh_eql rfl rfl rfl rfl (eq_tt rfl), trivial⟩ hof rfl rfl rfl e1 e2 e3
  · rw [(cc_4_1 x y q hc).1] at e2
    rw [(cc_4_1 x y q hc).2 h_q.1] at e3
    rcases hi with hi | ⟨hi0, hi⟩ | ⟨hi0, hi⟩
    · rw [(ca_4_1 i (.inl hi))] at e1
      exact lk_gen t a b i x y q 0 ((i / 4) % 4) ((i / 4) / 4) (wrapF .u8 (i % 4)) (rk_4_1 t) (lc_4_1_0_0 t) ⟨bh_lss rfl rfl rfl rfl (lt_tt hi), trivial⟩ hof rfl rfl rfl e1 e2 e3
    · rw [(ca_4_1 i (.inr hi))] at e1
      exact lk_gen t a b i x y q 0 ((i / 4) % 4) ((i / 4) / 4) (wrapF .u8 (i % 4)) (rk_4_1 t) (lc_4_1_1_0 t) ⟨bh_lss rfl rfl rfl rfl (lt_ff hi0), bh_geqT rfl rfl rfl rfl (lt_ff hi), trivial⟩ hof rfl rfl rfl e1 e2 e3
    · rw [(cb_4_1 i hi0 hi)] at e1
      exact lk_gen t a b i x y q 0 ((i / 4) % 4) ((i / 4) / 4) (wrapF .u8 (i % 4)) (rk_4_1 t) (lc_4_1_2_0 t) ⟨bh_lss rfl rfl rfl rfl (lt_ff hi0), bh_geqF rfl rfl rfl rfl (lt_tt hi), trivial⟩ hof rfl rfl rfl e1 e2 e3
theorem lk_4_2 (t : Nat → TypeId) (a b i x y q : Int) (h_a : 0 ≤ a ∧ a ≤ 255) (h_b : 0 ≤ b ∧ b ≤ 255) (h_i : -9223372036854775808 ≤ i ∧ i ≤ 9223372036854775807) (h_q : 0 ≤ q ∧ q ≤ 255) (hw : 1 + a % 5 = 4) (hh : 1 + b % 5 = 2) : KN t a b i x y q := by
  have hof := of_cls t a b 4 2 h_a h_b hw hh
  have e1 := s11 t 4 2 i h_i
  have e2 := s12 t 4 2 x y q h_q
  have e3 := s13 t 4 2 x y q h_q
  have hi := six i 32
  by_cases hc : 0 ≤ x ∧ x < 4 ∧ 0 ≤ y ∧ y < 2 ∧ q < 4
  · rw [(cd_4_2 x y q hc h_q.1).1] at e2
    rw [(cd_4_2 x y q hc h_q.1).2] at e3
    have hv : 0 ≤ (4 * (y * 4 + x) + q) := by omega
    rcases hi with hi | ⟨hi0, hi⟩ | ⟨hi0, hi⟩
    · rw [(ca_4_2 i (.inl hi))] at e1
      exact lk_gen t a b i x y q (4 * (y * 4 + x) + q) ((i / 4) % 4) ((i / 4) / 4) (wrapF .u8 (i % 4)) (rk_4_2 t) (lc_4_2_0_1 t) ⟨bh_lss rfl rfl rfl rfl (lt_tt hi), bh_lss rfl rfl rfl rfl (lt_ff hv), bh_eql rfl rfl rfl rfl (eq_tt rfl), trivial⟩ hof rfl rfl rfl e1 e2 e3
    · rw [(ca_4_2 i (.inr hi))] at e1
      exact lk_gen t a b i x y q (4 * (y * 4 + x) + q) ((i / 4) % 4) ((i / 4) / 4) (wrapF .u8 (i % 4)) (rk_4_2 t) (lc_4_2_1_1 t) ⟨bh_lss rfl rfl rfl rfl (lt_ff hi0), bh_geqT rfl rfl rfl rfl (lt_ff hi), bh_lss rfl rfl rfl rfl (lt_ff hv), bh_eql rfl rfl rfl rfl (eq_tt rfl), trivial⟩ hof rfl rfl rfl e1 e2 e3
    · rw [(cb_4_2 i hi0 hi)] at e1
      exact lk_gen t a b i x y q (4 * (y * 4 + x) + q) ((i / 4) % 4) ((i / 4) / 4) (wrapF .u8 (i % 4)) (rk_4_2 t) (lc_4_2_2_1 t) ⟨bh_lss rfl rfl rfl rfl (lt_ff hi0), bh_geqF rfl rfl rfl rfl (lt_tt hi), bh_lss rfl rfl rfl rfl (lt_ff hv), bh_eql rfl rfl rfl rfl (eq_tt rfl), trivial⟩ hof rfl rfl rfl e1 e2 e3
  · rw [(cc_4_2 x y q hc).1] at e2
    rw [(cc_4_2 x y q hc).2 h_q.1] at e3
    rcases hi with hi | ⟨hi0, hi⟩ | ⟨hi0, hi⟩
    · rw [(ca_4_2 i (.inl hi))] at e1
      exact lk_gen t a b i x y q 0 ((i / 4) % 4) ((i / 4) / 4) (wrapF .u8 (i % 4)) (rk_4_2 t) (lc_4_2_0_0 t) ⟨bh_lss rfl rfl rfl rfl (lt_tt hi), trivial⟩ hof rfl rfl rfl e1 e2 e3
    · rw [(ca_4_2 i (.inr hi))] at e1
      exact lk_gen t a b i x y q 0 ((i / 4) % 4) ((i / 4) / 4) (wrapF .u8 (i % 4)) (rk_4_2 t) (lc_4_2_1_0 t) ⟨bh_lss rfl rfl rfl rfl (lt_ff hi0), bh_geqT rfl rfl rfl rfl (lt_ff hi), trivial⟩ hof rfl rfl rfl e1 e2 e3
    · rw [(cb_4_2 i hi0 hi)] at e1
      exact lk_gen t a b i x y q 0 ((i / 4) % 4) ((i / 4) / 4) (wrapF .u8 (i % 4)) (rk_4_2 t) (lc_4_2_2_0 t) ⟨bh_lss rfl rfl rfl rfl (lt_ff hi0), bh_geqF rfl rfl rfl rfl (lt_tt hi), trivial⟩ hof rfl rfl rfl e1 e2 e3
theorem lk_4_3 (t : Nat → TypeId) (a b i x y q : Int) (h_a : 0 ≤ a ∧ a ≤ 255) (h_b : 0 ≤ b ∧ b ≤ 255) (h_i : -9223372036854775808 ≤ i ∧ i ≤ 9223372036854775807) (h_q : 0 ≤ q ∧ q ≤ 255) (hw : 1 + a % 5 = 4) (hh : 1 + b % 5 = 3) : KN t a b i x y q := by
  have hof := of_cls t a b 4 3 h_a h_b hw hh
  have e1 := s11 t 4 3 i h_i
  have e2 := s12 t 4 3 x y q h_q
  have e3 := s13 t 4 3 x y q h_q
  have hi := six i 48
  by_cases hc : 0 ≤ x ∧ x < 4 ∧ 0 ≤ y ∧ y < 3 ∧ q < 4
  · rw [(cd_4_3 x y q hc h_q.1).1] at e2
    rw [(cd_4_3 x y q hc h_q.1).2] at e3
    have hv : 0 ≤ (4 * (y * 4 + x) + q) := by omega
    rcases hi with hi | ⟨hi0, hi⟩ | ⟨hi0, hi⟩
    · rw [(ca_4_3 i (.inl hi))] at e1
      exact lk_gen t a b i x y q (4 * (y * 4 + x) + q) ((i / 4) % 4) ((i / 4) / 4) (wrapF .u8 (i % 4)) (rk_4_3 t) (lc_4_3_0_1 t) ⟨bh_lss rfl rfl rfl rfl (lt_tt hi), bh_lss rfl rfl rfl rfl (lt_ff hv), bh_eql rfl rfl rfl rfl (eq_tt rfl), trivial⟩ hof rfl rfl rfl e1 e2 e3
    · rw [(ca_4_3 i (.inr hi))] at e1
      exact lk_gen t a b i x y q (4 * (y * 4 + x) + q) ((i / 4) % 4) ((i / 4) / 4) (wrapF .u8 (i % 4)) (rk_4_3 t) (lc_4_3_1_1 t) ⟨bh_lss rfl rfl rfl rfl (lt_ff hi0), bh_geqT rfl rfl rfl rfl (lt_ff hi), bh_lss rfl rfl rfl rfl (lt_ff hv), bh_eql rfl rfl rfl rfl (eq_tt rfl), trivial⟩ hof rfl rfl rfl e1 e2 e3
    · rw [(cb_4_3 i hi0 hi)] at e1
      exact lk_gen t a b i x y q (4 * (y * 4 + x) + q) ((i / 4) % 4) ((i / 4) / 4) (wrapF .u8 (i % 4)) (rk_4_3 t) (lc_4_3_2_1 t) ⟨bh_lss rfl rfl rfl rfl (lt_ff hi0), bh_geqF rfl rfl rfl rfl (lt_tt hi), bh_lss rfl rfl rfl rfl (lt_ff hv), bh_eql rfl rfl rfl rfl (eq_tt rfl), trivial⟩ hof rfl rfl rfl e1 e2 e3
  · rw [(cc_4_3 x y q hc).1] at e2
    rw [(cc_4_3 x y q hc).2 h_q.1] at e3
    rcases hi with hi | ⟨hi0, hi⟩ | ⟨hi0, hi⟩
    · rw [(ca_4_3 i (.inl hi))] at e1
      exact lk_gen t a b i x y q 0 ((i / 4) % 4) ((i / 4) / 4) (wrapF .u8 (i % 4)) (rk_4_3 t) (lc_4_3_0_0 t) ⟨bh_lss rfl rfl rfl rfl (lt_tt hi), trivial⟩ hof rfl rfl rfl e1 e2 e3
    · rw [(ca_4_3 i (.inr hi))] at e1
      exact lk_gen t a b i x y q 0 ((i / 4) % 4) ((i / 4) / 4) (wrapF .u8 (i % 4)) (rk_4_3 t) (lc_4_3_1_0 t) ⟨bh_lss rfl rfl rfl rfl (lt_ff hi0), bh_geqT rfl rfl rfl rfl (lt_ff hi), trivial⟩ hof rfl rfl rfl e1 e2 e3
    · rw [(cb_4_3 i hi0 hi)] at e1
      exact lk_gen t a b i x y q 0 ((i / 4) % 4) ((i / 4) / 4) (wrapF .u8 (i % 4)) (rk_4_3 t) (lc_4_3_2_0 t) ⟨bh_lss rfl rfl rfl rfl (lt_ff hi0), bh_geqF rfl rfl rfl rfl (lt_tt hi), trivial⟩ hof rfl rfl rfl e1 e2 e3
theorem lk_4_4 (t : Nat → TypeId) (a b i x y q : Int) (h_a : 0 ≤ a ∧ a ≤ 255) (h_b : 0 ≤ b ∧ b ≤ 255) (h_i : -9223372036854775808 ≤ i ∧ i ≤ 9223372036854775807) (h_q : 0 ≤ q ∧ q ≤ 255) (hw : 1 + a % 5 = 4) (hh : 1 + b % 5 = 4) : KN t a b i x y q := by
  have hof := of_cls t a b 4 4 h_a h_b hw hh
  have e1 := s11 t 4 4 i h_i
  have e2 := s12 t 4 4 x y q h_q
  have e3 := s13 t 4 4 x y q h_q
  have hi := six i 64
  by_cases hc : 0 ≤ x ∧ x < 4 ∧ 0 ≤ y ∧ y < 4 ∧ q < 4
  · rw [(cd_4_4 x y q hc h_q.1).1] at e2
    rw [(cd_4_4 x y q hc h_q.1).2] at e3
    have hv : 0 ≤ (4 * (y * 4 + x) + q) := by omega
    rcases hi with hi | ⟨hi0, hi⟩ | ⟨hi0, hi⟩
    · rw [(ca_4_4 i (.inl hi))] at e1
      exact lk_gen t a b i x y q (4 * (y * 4 + x) + q) ((i / 4) % 4) ((i / 4) / 4) (wrapF .u8 (i % 4)) (rk_4_4 t) (lc_4_4_0_1 t) ⟨bh_lss rfl rfl rfl rfl (lt_tt hi), bh_lss rfl rfl rfl rfl (lt_ff hv), bh_eql rfl rfl rfl rfl (eq_tt rfl), trivial⟩ hof rfl rfl rfl e1 e2 e3
    · rw [(ca_4_4 i (.inr hi))] at e1
      exact lk_gen t a b i x y q (4 * (y * 4 + x) + q) ((i / 4) % 4) ((i / 4) / 4) (wrapF .u8 (i % 4)) (rk_4_4 t) (lc_4_4_1_1 t) ⟨bh_lss rfl rfl rfl rfl (lt_ff hi0), bh_geqT rfl rfl rfl rfl (lt_ff hi), bh_lss rfl rfl rfl rfl (lt_ff hv), bh_eql rfl rfl rfl rfl (eq_tt rfl), trivial⟩ hof rfl rfl rfl e1 e2 e3
    · rw [(cb_4_4 i hi0 hi)] at e1
      exact lk_gen t a b i x y q (4 * (y * 4 + x) + q) ((i / 4) % 4) ((i / 4) / 4) (wrapF .u8 (i % 4)) (rk_4_4 t) (lc_4_4_2_1 t) ⟨bh_lss rfl rfl rfl rfl (lt_ff hi0), bh_geqF rfl rfl rfl rfl (lt_tt hi), bh_lss rfl rfl rfl rfl (lt_ff hv), bh_eql rfl rfl rfl rfl (eq_tt rfl), trivial⟩ hof rfl rfl rfl e1 e2 e3
  · rw [(cc_4_4 x y q hc).1] at e2
    rw [(cc_4_4 x y q hc).2 h_q.1] at e3
    rcases hi with hi | ⟨hi0, hi⟩ | ⟨hi0, hi⟩
    · rw [(ca_4_4 i (.inl hi))] at e1
      exact lk_gen t a b i x y q 0 ((i / 4) % 4) ((i / 4) / 4) (wrapF .u8 (i % 4)) (rk_4_4 t) (lc_4_4_0_0 t) ⟨bh_lss rfl rfl rfl rfl (lt_tt hi), trivial⟩ hof rfl rfl rfl e1 e2 e3
    · rw [(ca_4_4 i (.inr hi))] at e1
      exact lk_gen t a b i x y q 0 ((i / 4) % 4) ((i / 4) / 4) (wrapF .u8 (i % 4)) (rk_4_4 t) (lc_4_4_1_0 t) ⟨bh_lss rfl rfl rfl rfl (lt_ff hi0), bh_geqT rfl rfl rfl rfl (lt_ff hi), trivial⟩ hof rfl rfl rfl e1 e2 e3
    · rw [(cb_4_4 i hi0 hi)] at e1
      exact lk_gen t a b i x y q 0 ((i / 4) % 4) ((i / 4) / 4) (wrapF .u8 (i % 4)) (rk_4_4 t) (lc_4_4_2_0 t) ⟨bh_lss rfl rfl rfl rfl (lt_ff hi0), bh_geqF rfl rfl rfl rfl (lt_tt hi), trivial⟩ hof rfl rfl rfl e1 e2 e3
theorem lk_4_5 (t : Nat → TypeId) (a b i x y q : Int) (h_a : 0 ≤ a ∧ a ≤ 255) (h_b : 0 ≤ b ∧ b ≤ 255) (h_i : -9223372036854775808 ≤ i ∧ i ≤ 9223372036854775807) (h_q : 0 ≤ q ∧ q ≤ 255) (hw : 1 + a % 5 = 4) (hh : 1 + b % 5 = 5) : KN t a b i x y q := by
  have hof := of_cls t a b 4 5 h_a h_b hw hh
  have e1 := s11 t 4 5 i h_i
  have e2 := s12 t 4 5 x y q h_q
  have e3 := s13 t 4 5 x y q h_q
  have hi := six i 80
  by_cases hc : 0 ≤ x ∧ x < 4 ∧ 0 ≤ y ∧ y < 5 ∧ q < 4
  · rw [(cd_4_5 x y q hc h_q.1).1] at e2
    rw [(cd_4_5 x y q hc h_q.1).2] at e3
    have hv : 0 ≤ (4 * (y * 4 + x) + q) := by omega
    rcases hi with hi | ⟨hi0, hi⟩ | ⟨hi0, hi⟩
    · rw [(ca_4_5 i (.inl hi))] at e1
      exact lk_gen t a b i x y q (4 * (y * 4 + x) + q) ((i / 4) % 4) ((i / 4) / 4) (wrapF .u8 (i % 4)) (rk_4_5 t) (lc_4_5_0_1 t) ⟨bh_lss rfl rfl rfl rfl (lt_tt hi), bh_lss rfl rfl rfl rfl (lt_ff hv), bh_eql rfl rfl rfl rfl (eq_tt rfl), trivial⟩ hof rfl rfl rfl e1 e2 e3
    · rw [(ca_4_5 i (.inr hi))] at e1
      exact lk_gen t a b i x y q (4 * (y * 4 + x) + q) ((i / 4) % 4) ((i / 4) / 4) (wrapF .u8 (i % 4)) (rk_4_5 t) (lc_4_5_1_1 t) ⟨bh_lss rfl rfl rfl rfl (lt_ff hi0), bh_geqT rfl rfl rfl rfl (lt_ff hi), bh_lss rfl rfl rfl rfl (lt_ff hv), bh_eql rfl rfl rfl rfl (eq_tt rfl), trivial⟩ hof rfl rfl rfl e1 e2 e3
    · rw [(cb_4_5 i hi0 hi)] at e1
      exact lk_gen t a b i x y q (4 * (y * 4 + x) + q) ((i / 4) % 4) ((i / 4) / 4) (wrapF .u8 (i % 4)) (rk_4_5 t) (lc_4_5_2_1 t) ⟨bh_lss rfl rfl rfl rfl (lt_ff hi0), bh_geqF rfl rfl rfl rfl (lt_tt hi), bh_lss rfl rfl rfl rfl (lt_ff hv), bh_eql rfl rfl rfl rfl (eq_tt rfl), trivial⟩ hof rfl rfl rfl e1 e2 e3
  · rw [(cc_4_5 x y q hc).1] at e2
    rw [(cc_4_5 x y q hc).2 h_q.1] at e3
    rcases hi with hi | ⟨hi0, hi⟩ | ⟨hi0, hi⟩
    · rw [(ca_4_5 i (.inl hi))] at e1
      exact lk_gen t a b i x y q 0 ((i / 4) % 4) ((i / 4) / 4) (wrapF .u8 (i % 4)) (rk_4_5 t) (lc_4_5_0_0 t) ⟨bh_lss rfl rfl rfl rfl (lt_tt hi), trivial⟩ hof rfl rfl rfl e1 e2 e3
    · rw [(ca_4_5 i (.inr hi))] at e1
      exact lk_gen t a b i x y q 0 ((i / 4) % 4) ((i / 4) / 4) (wrapF .u8 (i % 4)) (rk_4_5 t) (lc_4_5_1_0 t) ⟨bh_lss rfl rfl rfl rfl (lt_ff hi0), bh_geqT rfl rfl rfl rfl (lt_ff hi), trivial⟩ hof rfl rfl rfl e1 e2 e3
    · rw [(cb_4_5 i hi0 hi)] at e1
      exact lk_gen t a b i x y q 0 ((i / 4) % 4) ((i / 4) / 4) (wrapF .u8 (i % 4)) (rk_4_5 t) (lc_4_5_2_0 t) ⟨bh_lss rfl rfl rfl rfl (lt_ff hi0), bh_geqF rfl rfl rfl rfl (lt_tt hi), trivial⟩ hof rfl rfl rfl e1 e2 e3
theorem lk_5_1 (t : Nat → TypeId) (a b i x y q : Int) (h_a : 0 ≤ a ∧ a ≤ 255) (h_b : 0 ≤ b ∧ b ≤ 255) (h_i : -9223372036854775808 ≤ i ∧ i ≤ 9223372036854775807) (h_q : 0 ≤ q ∧ q ≤ 255) (hw : 1 + a % 5 = 5) (hh : 1 + b % 5 = 1) : KN t a b i x y q := by
  have hof := of_cls t a b 5 1 h_a h_b hw hh
  have e1 := s11 t 5 1 i h_i
  have e2 := s12 t 5 1 x y q h_q
  have e3 := s13 t 5 1 x y q h_q
  have hi := six i 20
  by_cases hc : 0 ≤ x ∧ x < 5 ∧ 0 ≤ y ∧ y < 1 ∧ q < 4
  · rw [(cd_5_1 x y q hc h_q.1).1] at e2
    rw [(cd_5_1 x y q hc h_q.1).2] at e3
    have hv : 0 ≤ (4 * (y * 5 + x) + q) := by omega
    rcases hi with hi | ⟨hi0, hi⟩ | ⟨hi0, hi⟩
    · rw [(ca_5_1 i (.inl hi))] at e1
      exact lk_gen t a b i x y q (4 * (y * 5 + x) + q) ((i / 4) % 5) ((i / 4) / 5) (wrapF .u8 (i % 4)) (rk_5_1 t) (lc_5_1_0_1 t) ⟨bh_lss rfl rfl rfl rfl (lt_tt hi), bh_lss rfl rfl rfl rfl (lt_ff hv), bh_eql rfl rfl rfl rfl (eq_tt rfl), trivial⟩ hof rfl rfl rfl e1 e2 e3
    · rw [(ca_5_1 i (.inr hi))] at e1
      exact lk_gen t a b i x y q (4 * (y * 5 + x) + q) ((i / 4) % 5) ((i / 4) / 5) (wrapF .u8 (i % 4)) (rk_5_1 t) (lc_5_1_1_1 t) ⟨bh_lss rfl rfl rfl rfl (lt_ff hi0), bh_geqT rfl rfl rfl rfl (lt_ff hi), bh_lss rfl rfl rfl rfl (lt_ff hv), bh_eql rfl rfl rfl rfl (eq_tt rfl), trivial⟩ hof rfl rfl rfl e1 e2 e3
    · rw [(cb_5_1 i hi0 hi)] at e1
      exact lk_gen t a b i x y q (4 * (y * 5 + x) + q) ((i / 4) % 5) ((i / 4) / 5) (wrapF .u8 (i % 4)) (rk_5_1 t) (lc_5_1_2_1 t) ⟨bh_lss rfl rfl rfl rfl (lt_ff hi0), bh_geqF rfl rfl rfl rfl (lt_tt hi), bh_lss rfl rfl rfl rfl (lt_ff hv), bh_eql rfl rfl rfl rfl (eq_tt rfl), trivial⟩ hof rfl rfl rfl e1 e2 e3
  · rw [(cc_5_1 x y q hc).1] at e2
    rw [(cc_5_1 x y q hc).2 h_q.1] at e3
    rcases hi with hi | ⟨hi0, hi⟩ | ⟨hi0, hi⟩
    · rw [(ca_5_1 i (.inl hi))] at e1
      exact lk_gen t a b i x y q 0 ((i / 4) % 5) ((i / 4) / 5) (wrapF .u8 (i % 4)) (rk_5_1 t) (lc_5_1_0_0 t) ⟨bh_lss rfl rfl rfl rfl (lt_tt hi), trivial⟩ hof rfl rfl rfl e1 e2 e3
    · rw [(ca_5_1 i (.inr hi))] at e1
      exact lk_gen t a b i x y q 0 ((i / 4) % 5) ((i / 4) / 5) (wrapF .u8 (i % 4)) (rk_5_1 t) (lc_5_1_1_0 t) ⟨bh_lss rfl rfl rfl rfl (lt_ff hi0), bh_geqT rfl rfl rfl rfl (lt_ff hi), trivial⟩ hof rfl rfl rfl e1 e2 e3
    · rw [(cb_5_1 i hi0 hi)] at e1
      exact lk_gen t a b i x y q 0 ((i / 4) % 5) ((i / 4) / 5) (wrapF .u8 (i % 4)) (rk_5_1 t) (lc_5_1_2_0 t) ⟨bh_lss rfl rfl rfl rfl (lt_ff hi0), bh_geqF rfl rfl rfl rfl (lt_tt hi), trivial⟩ hof rfl rfl rfl e1 e2 e3
theorem lk_5_2 (t : Nat → TypeId) (a b i x y q : Int) (h_a : 0 ≤ a ∧ a ≤ 255) (h_b : 0 ≤ b ∧ b ≤ 255) (h_i : -9223372036854775808 ≤ i ∧ i ≤ 9223372036854775807) (h_q : 0 ≤ q ∧ q ≤ 255) (hw : 1 + a % 5 = 5) (hh : 1 + b % 5 = 2) : KN t a b i x y q := by
  have hof := of_cls t a b 5 2 h_a h_b hw hh
  have e1 := s11 t 5 2 i h_i
  have e2 := s12 t 5 2 x y q h_q
  have e3 := s13 t 5 2 x y q h_q
  have hi := six i 40
  by_cases hc : 0 ≤ x ∧ x < 5 ∧ 0 ≤ y ∧ y < 2 ∧ q < 4
  · rw [(cd_5_2 x y q hc h_q.1).1] at e2
    rw [(cd_5_2 x y q hc h_q.1).2] at e3
    have hv : 0 ≤ (4 * (y * 5 + x) + q) := by omega
    rcases hi with hi | ⟨hi0, hi⟩ | ⟨hi0, hi⟩
    · rw [(ca_5_2 i (.inl hi))] at e1
      exact lk_gen t a b i x y q (4 * (y * 5 + x) + q) ((i / 4) % 5) ((i / 4) / 5) (wrapF .u8 (i % 4)) (rk_5_2 t) (lc_5_2_0_1 t) ⟨bh_lss rfl rfl rfl rfl (lt_tt hi), bh_lss rfl rfl rfl rfl (lt_ff hv), bh_eql rfl rfl rfl rfl (eq_tt rfl), trivial⟩ hof rfl rfl rfl e1 e2 e3
    · rw [(ca_5_2 i (.inr hi))] at e1
      exact lk_gen t a b i x y q (4 * (y * 5 + x) + q) ((i / 4) % 5) ((i / 4) / 5) (wrapF .u8 (i % 4)) (rk_5_2 t) (lc_5_2_1_1 t) ⟨bh_lss rfl rfl rfl rfl (lt_ff hi0), bh_geqT rfl rfl rfl rfl (lt_ff hi), bh_lss rfl rfl rfl rfl (lt_ff hv), bh_eql rfl rfl rfl rfl (eq_tt rfl), trivial⟩ hof rfl rfl rfl e1 e2 e3
    · rw [(cb_5_2 i hi0 hi)] at e1
      exact lk_gen t a b i x y q (4 * (y * 5 + x) + q) ((i / 4) % 5) ((i / 4) / 5) (wrapF .u8 (i % 4)) (rk_5_2 t) (lc_5_2_2_1 t) ⟨bh_lss rfl rfl rfl rfl (lt_ff hi0), bh_geqF rfl rfl rfl rfl (lt_tt hi), bh_lss rfl rfl rfl rfl (lt_ff hv), bh_eql rfl rfl rfl rfl (eq_tt rfl), trivial⟩ hof rfl rfl rfl e1 e2 e3
  · rw [(cc_5_2 x y q hc).1] at e2
    rw [(cc_5_2 x y q hc).2 h_q.1] at e3
    rcases hi with hi | ⟨hi0, hi⟩ | ⟨hi0, hi⟩
    · rw [(ca_5_2 i (.inl hi))] at e1
      exact lk_gen t a b i x y q 0 ((i / 4) % 5) ((i / 4) / 5) (wrapF .u8 (i % 4)) (rk_5_2 t) (lc_5_2_0_0 t) ⟨bh_lss rfl rfl rfl rfl (lt_tt hi), trivial⟩ hof rfl rfl rfl e1 e2 e3
    · rw [(ca_5_2 i (.inr hi))] at e1
      exact lk_gen t a b i x y q 0 ((i / 4) % 5) ((i / 4) / 5) (wrapF .u8 (i % 4)) (rk_5_2 t) (lc_5_2_1_0 t) ⟨bh_lss rfl rfl rfl rfl (lt_ff hi0), bh_geqT rfl rfl rfl rfl (lt_ff hi), trivial⟩ hof rfl rfl rfl e1 e2 e3
    · rw [(cb_5_2 i hi0 hi)] at e1
      exact lk_gen t a b i x y q 0 ((i / 4) % 5) ((i / 4) / 5) (wrapF .u8 (i % 4)) (rk_5_2 t) (lc_5_2_2_0 t) ⟨bh_lss rfl rfl rfl rfl (lt_ff hi0), bh_geqF rfl rfl rfl rfl (lt_tt hi), trivial⟩ hof rfl rfl rfl e1 e2 e3
theorem lk_5_3 (t : Nat → TypeId) (a b i x y q : Int) (h_a : 0 ≤ a ∧ a ≤ 255) (h_b : 0 ≤ b ∧ b ≤ 255) (h_i : -9223372036854775808 ≤ i ∧ i ≤ 9223372036854775807) (h_q : 0 ≤ q ∧ q ≤ 255) (hw : 1 + a % 5 = 5) (hh : 1 + b % 5 = 3) : KN t a b i x y q := by
  have hof := of_cls t a b 5 3 h_a h_b hw hh
  have e1 := s11 t 5 3 i h_i
  have e2 := s12 t 5 3 x y q h_q
  have e3 := s13 t 5 3 x y q h_q
  have hi := six i 60
  by_cases hc : 0 ≤ x ∧ x < 5 ∧ 0 ≤ y ∧ y < 3 ∧ q < 4
  · rw [(cd_5_3 x y q hc h_q.1).1] at e2
    rw [(cd_5_3 x y q hc h_q.1).2] at e3
    have hv : 0 ≤ (4 * (y * 5 + x) + q) := by omega
    rcases hi with hi | ⟨hi0, hi⟩ | ⟨hi0, hi⟩
    · rw [(ca_5_3 i (.inl hi))] at e1
      exact lk_gen t a b i x y q (4 * (y * 5 + x) + q) ((i / 4) % 5) ((i / 4) / 5) (wrapF .u8 (i % 4)) (rk_5_3 t) (lc_5_3_0_1 t) ⟨bh_lss rfl rfl rfl rfl (lt_tt hi), bh_lss rfl rfl rfl rfl (lt_ff hv), bh_eql rfl rfl rfl rfl (eq_tt rfl), trivial⟩ hof rfl rfl rfl e1 e2 e3
    · rw [(ca_5_3 i (.inr hi))] at e1
      exact lk_gen t a b i x y q (4 * (y * 5 + x) + q) ((i / 4) % 5) ((i / 4) / 5) (wrapF .u8 (i % 4)) (rk_5_3 t) (lc_5_3_1_1 t) ⟨bh_lss rfl rfl rfl rfl (lt_ff hi0), bh_geqT rfl rfl rfl rfl (lt_ff hi), bh_lss rfl rfl rfl rfl (lt_ff hv), bh_eql rfl rfl rfl rfl (eq_tt rfl), trivial⟩ hof rfl rfl rfl e1 e2 e3
    · rw [(cb_5_3 i hi0 hi)] at e1
      exact lk_gen t a b i x y q (4 * (y * 5 + x) + q) ((i / 4) % 5) ((i / 4) / 5) (wrapF .u8 (i % 4)) (rk_5_3 t) (lc_5_3_2_1 t) ⟨bh_lss rfl rfl rfl rfl (lt_ff hi0), bh_geqF rfl rfl rfl rfl (lt_tt hi), bh_lss rfl rfl rfl rfl (lt_ff hv), bh_eql rfl rfl rfl rfl (eq_tt rfl), trivial⟩ hof rfl rfl rfl e1 e2 e3
  · rw [(cc_5_3 x y q hc).1] at e2
    rw [(cc_5_3 x y q hc).2 h_q.1] at e3
    rcases hi with hi | ⟨hi0, hi⟩ | ⟨hi0, hi⟩
    · rw [(ca_5_3 i (.inl hi))] at e1
      exact lk_gen t a b i x y q 0 ((i / 4) % 5) ((i / 4) / 5) (wrapF .u8 (i % 4)) (rk_5_3 t) (lc_5_3_0_0 t) ⟨bh_lss rfl rfl rfl rfl (lt_tt hi), trivial⟩ hof rfl rfl rfl e1 e2 e3
    · rw [(ca_5_3 i (.inr hi))] at e1
      exact lk_gen t a b i x y q 0 ((i / 4) % 5) ((i / 4) / 5) (wrapF .u8 (i % 4)) (rk_5_3 t) (lc_5_3_1_0 t) ⟨bh_lss rfl rfl rfl rfl (lt_ff hi0), bh_geqT rfl rfl rfl rfl (lt_ff hi), trivial⟩ hof rfl rfl rfl e1 e2 e3
    · rw [(cb_5_3 i hi0 hi)] at e1
      exact lk_gen t a b i x y q 0 ((i / 4) % 5) ((i / 4) / 5) (wrapF .u8 (i % 4)) (rk_5_3 t) (lc_5_3_2_0 t) ⟨bh_lss rfl rfl rfl rfl (lt_ff hi0), bh_geqF rfl rfl rfl rfl (lt_tt hi), trivial⟩ hof rfl rfl rfl e1 e2 e3
theorem lk_5_4 (t : Nat → TypeId) (a b i x y q : Int) (h_a : 0 ≤ a ∧ a ≤ 255) (h_b : 0 ≤ b ∧ b ≤ 255) (h_i : -9223372036854775808 ≤ i ∧ i ≤ 9223372036854775807) (h_q : 0 ≤ q ∧ q ≤ 255) (hw : 1 + a % 5 = 5) (hh : 1 + b % 5 = 4) : KN t a b i x y q := by
  have hof := of_cls t a b 5 4 h_a h_b hw hh
  have e1 := s11 t 5 4 i h_i
  have e2 := s12 t 5 4 x y q h_q
  have e3 := s13 t 5 4 x y q h_q
  have hi := six i 80
  by_cases hc : 0 ≤ x ∧ x < 5 ∧ 0 ≤ y ∧ y < 4 ∧ q < 4
  · rw [(cd_5_4 x y q hc h_q.1).1] at e2
    rw [(cd_5_4 x y q hc h_q.1).2] at e3
    have hv : 0 ≤ (4 * (y * 5 + x) + q) := by omega
    rcases hi with hi | ⟨hi0, hi⟩ | ⟨hi0, hi⟩
    · rw [(ca_5_4 i (.inl hi))] at e1
      exact lk_gen t a b i x y q (4 * (y * 5 + x) + q) ((i / 4) % 5) ((i / 4) / 5) (wrapF .u8 (i % 4)) (rk_5_4 t) (lc_5_4_0_1 t) ⟨bh_lss rfl rfl rfl rfl (lt_tt hi), bh_lss rfl rfl rfl rfl (lt_ff hv), bh_eql rfl rfl rfl rfl (eq_tt rfl), trivial⟩ hof rfl rfl rfl e1 e2 e3
    · rw [(ca_5_4 i (.inr hi))] at e1
      exact lk_gen t a b i x y q (4 * (y * 5 + x) + q) ((i / 4) % 5) ((i / 4) / 5) (wrapF .u8 (i % 4)) (rk_5_4 t) (lc_5_4_1_1 t) ⟨bh_lss rfl rfl rfl rfl (lt_ff hi0), bh_geqT rfl rfl rfl rfl (lt_ff hi), bh_lss rfl rfl rfl rfl (lt_ff hv), bh_eql rfl rfl rfl rfl (eq_tt rfl), trivial⟩ hof rfl rfl rfl e1 e2 e3
    · rw [(cb_5_4 i hi0 hi)] at e1
      exact lk_gen t a b i x y q (4 * (y * 5 + x) + q) ((i / 4) % 5) ((i / 4) / 5) (wrapF .u8 (i % 4)) (rk_5_4 t) (lc_5_4_2_1 t) ⟨bh_lss rfl rfl rfl rfl (lt_ff hi0), bh_geqF rfl rfl rfl rfl (lt_tt hi), bh_lss rfl rfl rfl rfl (lt_ff hv), bh_eql rfl rfl rfl rfl (eq_tt rfl), trivial⟩ hof rfl rfl rfl e1 e2 e3
  · rw [(cc_5_4 x y q hc).1] at e2
    rw [(cc_5_4 x y q hc).2 h_q.1] at e3
    rcases hi with hi | ⟨hi0, hi⟩ | ⟨hi0, hi⟩
    · rw [(ca_5_4 i (.inl hi))] at e1
      exact lk_gen t a b i x y q 0 ((i / 4) % 5) ((i / 4) / 5) (wrapF .u8 (i % 4)) (rk_5_4 t) (lc_5_4_0_0 t) ⟨bh_lss rfl rfl rfl rfl (lt_tt hi), trivial⟩ hof rfl rfl rfl e1 e2 e3
    · rw [(ca_5_4 i (.inr hi))] at e1
      exact lk_gen t a b i x y q 0 ((i / 4) % 5) ((i / 4) / 5) (wrapF .u8 (i % 4)) (rk_5_4 t) (lc_5_4_1_0 t) ⟨bh_lss rfl rfl rfl rfl (lt_ff hi0), bh_geqT rfl rfl rfl rfl (lt_ff hi), trivial⟩ hof rfl rfl rfl e1 e2 e3
    · rw [(cb_5_4 i hi0 hi)] at e1
      exact lk_gen t a b i x y q 0 ((i / 4) % 5) ((i / 4) / 5) (wrapF .u8 (i % 4)) (rk_5_4 t) (lc_5_4_2_0 t) ⟨bh_lss rfl rfl rfl rfl (lt_ff hi0), bh_geqF rfl rfl rfl rfl (lt_tt hi), trivial⟩ hof rfl rfl rfl e1 e2 e3
theorem lk_5_5 (t : Nat → TypeId) (a b i x y q : Int) (h_a : 0 ≤ a ∧ a ≤ 255) (h_b : 0 ≤ b ∧ b ≤ 255) (h_i : -9223372036854775808 ≤ i ∧ i ≤ 9223372036854775807) (h_q : 0 ≤ q ∧ q ≤ 255) (hw : 1 + a % 5 = 5) (hh : 1 + b % 5 = 5) : KN t a b i x y q := by
  have hof := of_cls t a b 5 5 h_a h_b hw hh
  have e1 := s11 t 5 5 i h_i
  have e2 := s12 t 5 5 x y q h_q
  have e3 := s13 t 5 5 x y q h_q
  have hi := six i 100
  by_cases hc : 0 ≤ x ∧ x < 5 ∧ 0 ≤ y ∧ y < 5 ∧ q < 4
  · rw [(cd_5_5 x y q hc h_q.1).1] at e2
    rw [(cd_5_5 x y q hc h_q.1).2] at e3
    have hv : 0 ≤ (4 * (y * 5 + x) + q) := by omega
    rcases hi with hi | ⟨hi0, hi⟩ | ⟨hi0, hi⟩
    · rw [(ca_5_5 i (.inl hi))] at e1
      exact lk_gen t a b i x y q (4 * (y * 5 + x) + q) ((i / 4) % 5) ((i / 4) / 5) (wrapF .u8 (i % 4)) (rk_5_5 t) (lc_5_5_0_1 t) ⟨bh_lss rfl rfl rfl rfl (lt_tt hi), bh_lss rfl rfl rfl rfl (lt_ff hv), bh_eql rfl rfl rfl rfl (eq_tt rfl), trivial⟩ hof rfl rfl rfl e1 e2 e3
    · rw [(ca_5_5 i (.inr hi))] at e1
      exact lk_gen t a b i x y q (4 * (y * 5 + x) + q) ((i / 4) % 5) ((i / 4) / 5) (wrapF .u8 (i % 4)) (rk_5_5 t) (lc_5_5_1_1 t) ⟨bh_lss rfl rfl rfl rfl (lt_ff hi0), bh_geqT rfl rfl rfl rfl (lt_ff hi), bh_lss rfl rfl rfl rfl (lt_ff hv), bh_eql rfl rfl rfl rfl (eq_tt rfl), trivial⟩ hof rfl rfl rfl e1 e2 e3
    · rw [(cb_5_5 i hi0 hi)] at e1
      exact lk_gen t a b i x y q (4 * (y * 5 + x) + q) ((i / 4) % 5) ((i / 4) / 5) (wrapF .u8 (i % 4)) (rk_5_5 t) (lc_5_5_2_1 t) ⟨bh_lss rfl rfl rfl rfl (lt_ff hi0), bh_geqF rfl rfl rfl rfl (lt_tt hi), bh_lss rfl rfl rfl rfl (lt_ff hv), bh_eql rfl rfl rfl rfl (eq_tt rfl), trivial⟩ hof rfl rfl rfl e1 e2 e3
  · rw [(cc_5_5 x y q hc).1] at e2
    rw [(cc_5_5 x y q hc).2 h_q.1] at e3
    rcases hi with hi | ⟨hi0, hi⟩ | ⟨hi0, hi⟩
    · rw [(ca_5_5 i (.inl hi))] at e1
      exact lk_gen t a b i x y q 0 ((i / 4) % 5) ((i / 4) / 5) (wrapF .u8 (i % 4)) (rk_5_5 t) (lc_5_5_0_0 t) ⟨bh_lss rfl rfl rfl rfl (lt_tt hi), trivial⟩ hof rfl rfl rfl e1 e2 e3
    · rw [(ca_5_5 i (.inr hi))] at e1
      exact lk_gen t a b i x y q 0 ((i / 4) % 5) ((i / 4) / 5) (wrapF .u8 (i % 4)) (rk_5_5 t) (lc_5_5_1_0 t) ⟨bh_lss rfl rfl rfl rfl (lt_ff hi0), bh_geqT rfl rfl rfl rfl (lt_ff hi), trivial⟩ hof rfl rfl rfl e1 e2 e3
    · rw [(cb_5_5 i hi0 hi)] at e1
      exact lk_gen t a b i x y q 0 ((i / 4) % 5) ((i / 4) / 5) (wrapF .u8 (i % 4)) (rk_5_5 t) (lc_5_5_2_0 t) ⟨bh_lss rfl rfl rfl rfl (lt_ff hi0), bh_geqF rfl rfl rfl rfl (lt_tt hi), trivial⟩ hof rfl rfl rfl e1 e2 e3

end Go.Proofs.YtaacmbmnlhoghaaDoor
