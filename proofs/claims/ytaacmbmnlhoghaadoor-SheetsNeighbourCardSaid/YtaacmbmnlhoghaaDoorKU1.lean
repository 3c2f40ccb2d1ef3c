/-
  Says: SheetsNeighbour outside of sheets.
-/
import Derived.Test.YtaacmbmnlhoghaaDoorKL0
import Derived.KernelRfl
set_option maxRecDepth 1000000
set_option linter.unusedVariables false
set_option linter.unusedSimpArgs false
namespace Go.Proofs.YtaacmbmnlhoghaaDoor
open Go Go.Vx

theorem r4_1_1_0_0 (t : Nat → TypeId) : isVal (vt) (@run (tabPrims [(13, vy 2, vi 0, vt)] []) Tryd.prog (valOrc (fun _ => false) (tabG t) (ansT [(8, [va [vy 0,vy 1]], va [vi 1,vi 1]), (14, [], vt)])) 1000000 (.call 4 [va [vy 0,vy 1], vy 2, vy 3] (tabG t))) = true := by kernel_rfl
theorem p4_1_1_0_0 (t : Nat → TypeId) (a b i e : Int) (h_a : 0 ≤ a ∧ a ≤ 255) (h_b : 0 ≤ b ∧ b ≤ 255) (h_i : -9223372036854775808 ≤ i ∧ i ≤ -1) (h_e : 0 ≤ e ∧ e ≤ 255) (hw : 1 + a % 5 = 1) (hh : 1 + b % 5 = 1)  : Known Tryd.prog (tabG t) 4 [.agg ⟨[.int .u8 a,.int .u8 b]⟩, .int .i64 i, .int .u8 e] (.bool true) := by
  have h1_a := h_a.1
  have h2_a := h_a.2
  have h1_b := h_b.1
  have h2_b := h_b.2
  have h1_i := h_i.1
  have h2_i := h_i.2
  have h1_e := h_e.1
  have h2_e := h_e.2
  exact path_calls (ρ := ofInts [(.u8, a), (.u8, b), (.i64, i), (.u8, e)]) (tabs_G t) (size_V t) (floor_V t) (ofInts_plain _) (bt := [(13, vy 2, vi 0, vt)]) (ct := []) ⟨bh_lss rfl rfl rfl rfl (show ltI i 0 = true from lt_tt (by omega)), trivial⟩ trivial (el := [(8, [va [vy 0,vy 1]], va [vi 1,vi 1]), (14, [], vt)]) ⟨⟨rfl, rfl, of_cls t a b 1 1 h_a h_b hw hh⟩, ⟨rfl, rfl, k14 t⟩, trivial⟩ (args := [va [vy 0,vy 1], vy 2, vy 3]) (v := vt) rfl rfl (by kernel_rfl) (r4_1_1_0_0 t)

theorem r4_1_1_1_0 (t : Nat → TypeId) : isVal (vt) (@run (tabPrims [(13, vy 2, vi 0, vf), (16, vy 2, vi 4, vt)] []) Tryd.prog (valOrc (fun _ => false) (tabG t) (ansT [(8, [va [vy 0,vy 1]], va [vi 1,vi 1]), (14, [], vt)])) 1000000 (.call 4 [va [vy 0,vy 1], vy 2, vy 3] (tabG t))) = true := by kernel_rfl
theorem p4_1_1_1_0 (t : Nat → TypeId) (a b i e : Int) (h_a : 0 ≤ a ∧ a ≤ 255) (h_b : 0 ≤ b ∧ b ≤ 255) (h_i : 4 ≤ i ∧ i ≤ 9223372036854775807) (h_e : 0 ≤ e ∧ e ≤ 255) (hw : 1 + a % 5 = 1) (hh : 1 + b % 5 = 1)  : Known Tryd.prog (tabG t) 4 [.agg ⟨[.int .u8 a,.int .u8 b]⟩, .int .i64 i, .int .u8 e] (.bool true) := by
  have h1_a := h_a.1
  have h2_a := h_a.2
  have h1_b := h_b.1
  have h2_b := h_b.2
  have h1_i := h_i.1
  have h2_i := h_i.2
  have h1_e := h_e.1
  have h2_e := h_e.2
  exact path_calls (ρ := ofInts [(.u8, a), (.u8, b), (.i64, i), (.u8, e)]) (tabs_G t) (size_V t) (floor_V t) (ofInts_plain _) (bt := [(13, vy 2, vi 0, vf), (16, vy 2, vi 4, vt)]) (ct := []) ⟨bh_lss rfl rfl rfl rfl (show ltI i 0 = false from lt_ff (by omega)), bh_geqT rfl rfl rfl rfl (show ltI i 4 = false from lt_ff (by omega)), trivial⟩ trivial (el := [(8, [va [vy 0,vy 1]], va [vi 1,vi 1]), (14, [], vt)]) ⟨⟨rfl, rfl, of_cls t a b 1 1 h_a h_b hw hh⟩, ⟨rfl, rfl, k14 t⟩, trivial⟩ (args := [va [vy 0,vy 1], vy 2, vy 3]) (v := vt) rfl rfl (by kernel_rfl) (r4_1_1_1_0 t)

theorem r4_1_1_2_0 (t : Nat → TypeId) : isVal (vt) (@run (tabPrims [(13, vy 2, vi 0, vf), (16, vy 2, vi 4, vf), (3, vy 2, vi 4, vy 4), (13, vy 4, vi 0, vf), (4, vy 4, vi 1, vy 5), (3, vy 4, vi 1, vy 6), (4, vy 2, vi 4, vy 7), (16, vy 8, vu 4, vf), (14, vn 4095, vy 5, vt), (14, vy 5, vi 4096, vt), (14, vn 4095, vy 6, vt), (14, vy 6, vi 4096, vt), (13, vy 3, vu 3, vf), (15, vy 3, vu 2, vt)] [(4, vy 7, vy 8)]) Tryd.prog (valOrc (fun _ => false) (tabG t) (ansT [(8, [va [vy 0,vy 1]], va [vi 1,vi 1]), (14, [], vt)])) 1000000 (.call 4 [va [vy 0,vy 1], vy 2, vy 3] (tabG t))) = true := by kernel_rfl
theorem p4_1_1_2_0 (t : Nat → TypeId) (a b i e : Int) (h_a : 0 ≤ a ∧ a ≤ 255) (h_b : 0 ≤ b ∧ b ≤ 255) (h_i : 0 ≤ i ∧ i ≤ 3) (h_e : 3 ≤ e ∧ e ≤ 255) (hw : 1 + a % 5 = 1) (hh : 1 + b % 5 = 1)  : Known Tryd.prog (tabG t) 4 [.agg ⟨[.int .u8 a,.int .u8 b]⟩, .int .i64 i, .int .u8 e] (.bool true) := by
  have h1_a := h_a.1
  have h2_a := h_a.2
  have h1_b := h_b.1
  have h2_b := h_b.2
  have h1_i := h_i.1
  have h2_i := h_i.2
  have h1_e := h_e.1
  have h2_e := h_e.2
  exact path_calls (ρ := ofInts [(.u8, a), (.u8, b), (.i64, i), (.u8, e), (.i64, 0), (.i64, 0), (.i64, 0), (.i64, i), (.u8, i)]) (tabs_G t) (size_V t) (floor_V t) (ofInts_plain _) (bt := [(13, vy 2, vi 0, vf), (16, vy 2, vi 4, vf), (3, vy 2, vi 4, vy 4), (13, vy 4, vi 0, vf), (4, vy 4, vi 1, vy 5), (3, vy 4, vi 1, vy 6), (4, vy 2, vi 4, vy 7), (16, vy 8, vu 4, vf), (14, vn 4095, vy 5, vt), (14, vy 5, vi 4096, vt), (14, vn 4095, vy 6, vt), (14, vy 6, vi 4096, vt), (13, vy 3, vu 3, vf), (15, vy 3, vu 2, vt)]) (ct := [(4, vy 7, vy 8)]) ⟨bh_lss rfl rfl rfl rfl (show ltI i 0 = false from lt_ff (by omega)), bh_geqF rfl rfl rfl rfl (show ltI i 4 = true from lt_tt (by omega)), b6_quo (a := i) (b := 4) (c := 0) rfl rfl rfl rfl rfl (by omega) (by omega) (by omega) rfl (by omega), bh_lss rfl rfl rfl rfl (show ltI 0 0 = false from lt_ff (by omega)), bw_rem (a := 0) (b := 1) (c := 0) rfl rfl rfl rfl rfl (by omega) (by omega) rfl (by omega), b6_quo (a := 0) (b := 1) (c := 0) rfl rfl rfl rfl rfl (by omega) (by omega) (by omega) rfl (by omega), bw_rem (a := i) (b := 4) (c := i) rfl rfl rfl rfl rfl (by omega) (by omega) rfl (by omega), bh_geqF rfl rfl rfl rfl (show ltI i 4 = true from lt_tt (by omega)), bh_leqT rfl rfl rfl rfl (show ltI 0 (-4096) = false from lt_ff (by omega)), bh_leqT rfl rfl rfl rfl (show ltI 4096 0 = false from lt_ff (by omega)), bh_leqT rfl rfl rfl rfl (show ltI 0 (-4096) = false from lt_ff (by omega)), bh_leqT rfl rfl rfl rfl (show ltI 4096 0 = false from lt_ff (by omega)), bh_lss rfl rfl rfl rfl (show ltI e 3 = false from lt_ff (by omega)), bh_gtr rfl rfl rfl rfl (show ltI 2 e = true from lt_tt (by omega)), trivial⟩ ⟨b8_conv (a := i) (c := i) rfl rfl rfl rfl rfl (by omega) (by omega) (by omega), trivial⟩ (el := [(8, [va [vy 0,vy 1]], va [vi 1,vi 1]), (14, [], vt)]) ⟨⟨rfl, rfl, of_cls t a b 1 1 h_a h_b hw hh⟩, ⟨rfl, rfl, k14 t⟩, trivial⟩ (args := [va [vy 0,vy 1], vy 2, vy 3]) (v := vt) rfl rfl (by kernel_rfl) (r4_1_1_2_0 t)
theorem o4_1_1_0 (t : Nat → TypeId) (a b i e : Int) (h_a : 0 ≤ a ∧ a ≤ 255) (h_b : 0 ≤ b ∧ b ≤ 255) (h_i : -9223372036854775808 ≤ i ∧ i ≤ -1) (h_e : 0 ≤ e ∧ e ≤ 255) (hw : 1 + a % 5 = 1) (hh : 1 + b % 5 = 1) : Known Tryd.prog (tabG t) 4 [.agg ⟨[.int .u8 a, .int .u8 b]⟩, .int .i64 i, .int .u8 e] (.bool true) := by
  exact p4_1_1_0_0 t a b i e h_a h_b h_i h_e hw hh 
theorem o4_1_1_1 (t : Nat → TypeId) (a b i e : Int) (h_a : 0 ≤ a ∧ a ≤ 255) (h_b : 0 ≤ b ∧ b ≤ 255) (h_i : 4 ≤ i ∧ i ≤ 9223372036854775807) (h_e : 0 ≤ e ∧ e ≤ 255) (hw : 1 + a % 5 = 1) (hh : 1 + b % 5 = 1) : Known Tryd.prog (tabG t) 4 [.agg ⟨[.int .u8 a, .int .u8 b]⟩, .int .i64 i, .int .u8 e] (.bool true) := by
  exact p4_1_1_1_0 t a b i e h_a h_b h_i h_e hw hh 
theorem o4_1_1_2 (t : Nat → TypeId) (a b i e : Int) (h_a : 0 ≤ a ∧ a ≤ 255) (h_b : 0 ≤ b ∧ b ≤ 255) (h_i : 0 ≤ i ∧ i ≤ 3) (h_e : 3 ≤ e ∧ e ≤ 255) (hw : 1 + a % 5 = 1) (hh : 1 + b % 5 = 1) : Known Tryd.prog (tabG t) 4 [.agg ⟨[.int .u8 a, .int .u8 b]⟩, .int .i64 i, .int .u8 e] (.bool true) := by
  exact p4_1_1_2_0 t a b i e h_a h_b h_i h_e hw hh 

theorem r4_1_2_0_0 (t : Nat → TypeId) : isVal (vt) (@run (tabPrims [(13, vy 2, vi 0, vt)] []) Tryd.prog (valOrc (fun _ => false) (tabG t) (ansT [(8, [va [vy 0,vy 1]], va [vi 1,vi 2]), (14, [], vt)])) 1000000 (.call 4 [va [vy 0,vy 1], vy 2, vy 3] (tabG t))) = true := by kernel_rfl
theorem p4_1_2_0_0 (t : Nat → TypeId) (a b i e : Int) (h_a : 0 ≤ a ∧ a ≤ 255) (h_b : 0 ≤ b ∧ b ≤ 255) (h_i : -9223372036854775808 ≤ i ∧ i ≤ -1) (h_e : 0 ≤ e ∧ e ≤ 255) (hw : 1 + a % 5 = 1) (hh : 1 + b % 5 = 2)  : Known Tryd.prog (tabG t) 4 [.agg ⟨[.int .u8 a,.int .u8 b]⟩, .int .i64 i, .int .u8 e] (.bool true) := by
  have h1_a := h_a.1
  have h2_a := h_a.2
  have h1_b := h_b.1
  have h2_b := h_b.2
  have h1_i := h_i.1
  have h2_i := h_i.2
  have h1_e := h_e.1
  have h2_e := h_e.2
  exact path_calls (ρ := ofInts [(.u8, a), (.u8, b), (.i64, i), (.u8, e)]) (tabs_G t) (size_V t) (floor_V t) (ofInts_plain _) (bt := [(13, vy 2, vi 0, vt)]) (ct := []) ⟨bh_lss rfl rfl rfl rfl (show ltI i 0 = true from lt_tt (by omega)), trivial⟩ trivial (el := [(8, [va [vy 0,vy 1]], va [vi 1,vi 2]), (14, [], vt)]) ⟨⟨rfl, rfl, of_cls t a b 1 2 h_a h_b hw hh⟩, ⟨rfl, rfl, k14 t⟩, trivial⟩ (args := [va [vy 0,vy 1], vy 2, vy 3]) (v := vt) rfl rfl (by kernel_rfl) (r4_1_2_0_0 t)

theorem r4_1_2_1_0 (t : Nat → TypeId) : isVal (vt) (@run (tabPrims [(13, vy 2, vi 0, vf), (16, vy 2, vi 8, vt)] []) Tryd.prog (valOrc (fun _ => false) (tabG t) (ansT [(8, [va [vy 0,vy 1]], va [vi 1,vi 2]), (14, [], vt)])) 1000000 (.call 4 [va [vy 0,vy 1], vy 2, vy 3] (tabG t))) = true := by kernel_rfl
theorem p4_1_2_1_0 (t : Nat → TypeId) (a b i e : Int) (h_a : 0 ≤ a ∧ a ≤ 255) (h_b : 0 ≤ b ∧ b ≤ 255) (h_i : 8 ≤ i ∧ i ≤ 9223372036854775807) (h_e : 0 ≤ e ∧ e ≤ 255) (hw : 1 + a % 5 = 1) (hh : 1 + b % 5 = 2)  : Known Tryd.prog (tabG t) 4 [.agg ⟨[.int .u8 a,.int .u8 b]⟩, .int .i64 i, .int .u8 e] (.bool true) := by
  have h1_a := h_a.1
  have h2_a := h_a.2
  have h1_b := h_b.1
  have h2_b := h_b.2
  have h1_i := h_i.1
  have h2_i := h_i.2
  have h1_e := h_e.1
  have h2_e := h_e.2
  exact path_calls (ρ := ofInts [(.u8, a), (.u8, b), (.i64, i), (.u8, e)]) (tabs_G t) (size_V t) (floor_V t) (ofInts_plain _) (bt := [(13, vy 2, vi 0, vf), (16, vy 2, vi 8, vt)]) (ct := []) ⟨bh_lss rfl rfl rfl rfl (show ltI i 0 = false from lt_ff (by omega)), bh_geqT rfl rfl rfl rfl (show ltI i 8 = false from lt_ff (by omega)), trivial⟩ trivial (el := [(8, [va [vy 0,vy 1]], va [vi 1,vi 2]), (14, [], vt)]) ⟨⟨rfl, rfl, of_cls t a b 1 2 h_a h_b hw hh⟩, ⟨rfl, rfl, k14 t⟩, trivial⟩ (args := [va [vy 0,vy 1], vy 2, vy 3]) (v := vt) rfl rfl (by kernel_rfl) (r4_1_2_1_0 t)

theorem r4_1_2_2_0 (t : Nat → TypeId) : isVal (vt) (@run (tabPrims [(13, vy 2, vi 0, vf), (16, vy 2, vi 8, vf), (3, vy 2, vi 4, vy 4), (13, vy 4, vi 0, vf), (4, vy 4, vi 1, vy 5), (3, vy 4, vi 1, vy 6), (4, vy 2, vi 4, vy 7), (16, vy 8, vu 4, vf), (14, vn 4095, vy 5, vt), (14, vy 5, vi 4096, vt), (14, vn 4095, vy 6, vt), (14, vy 6, vi 4096, vt), (13, vy 3, vu 3, vf), (15, vy 3, vu 2, vt)] [(4, vy 7, vy 8)]) Tryd.prog (valOrc (fun _ => false) (tabG t) (ansT [(8, [va [vy 0,vy 1]], va [vi 1,vi 2]), (14, [], vt)])) 1000000 (.call 4 [va [vy 0,vy 1], vy 2, vy 3] (tabG t))) = true := by kernel_rfl
theorem p4_1_2_2_0 (t : Nat → TypeId) (a b i e : Int) (h_a : 0 ≤ a ∧ a ≤ 255) (h_b : 0 ≤ b ∧ b ≤ 255) (h_i : 0 ≤ i ∧ i ≤ 7) (h_e : 3 ≤ e ∧ e ≤ 255) (hw : 1 + a % 5 = 1) (hh : 1 + b % 5 = 2)  : Known Tryd.prog (tabG t) 4 [.agg ⟨[.int .u8 a,.int .u8 b]⟩, .int .i64 i, .int .u8 e] (.bool true) := by
  have h1_a := h_a.1
  have h2_a := h_a.2
  have h1_b := h_b.1
  have h2_b := h_b.2
  have h1_i := h_i.1
  have h2_i := h_i.2
  have h1_e := h_e.1
  have h2_e := h_e.2
  have w8 : (wrapF .u8 (i % 4)) = (i % 4) := wid_u8 (n := (i % 4)) (by omega) (by omega)
  exact path_calls (ρ := ofInts [(.u8, a), (.u8, b), (.i64, i), (.u8, e), (.i64, (i / 4)), (.i64, 0), (.i64, ((i / 4) / 1)), (.i64, (i % 4)), (.u8, (wrapF .u8 (i % 4)))]) (tabs_G t) (size_V t) (floor_V t) (ofInts_plain _) (bt := [(13, vy 2, vi 0, vf), (16, vy 2, vi 8, vf), (3, vy 2, vi 4, vy 4), (13, vy 4, vi 0, vf), (4, vy 4, vi 1, vy 5), (3, vy 4, vi 1, vy 6), (4, vy 2, vi 4, vy 7), (16, vy 8, vu 4, vf), (14, vn 4095, vy 5, vt), (14, vy 5, vi 4096, vt), (14, vn 4095, vy 6, vt), (14, vy 6, vi 4096, vt), (13, vy 3, vu 3, vf), (15, vy 3, vu 2, vt)]) (ct := [(4, vy 7, vy 8)]) ⟨bh_lss rfl rfl rfl rfl (show ltI i 0 = false from lt_ff (by omega)), bh_geqF rfl rfl rfl rfl (show ltI i 8 = true from lt_tt (by omega)), bh_quo (a := i) (b := 4) rfl rfl rfl rfl rfl (by omega) (by show _ < (9223372036854775808 : Int); omega) (by omega) rfl, bh_lss rfl rfl rfl rfl (show ltI (i / 4) 0 = false from lt_ff (by omega)), bw_rem (a := (i / 4)) (b := 1) (c := 0) rfl rfl rfl rfl rfl (by omega) (by omega) rfl (by omega), bh_quo (a := (i / 4)) (b := 1) rfl rfl rfl rfl rfl (by omega) (by show _ < (9223372036854775808 : Int); omega) (by omega) rfl, bh_rem (a := i) (b := 4) rfl rfl rfl rfl rfl (by omega) (by omega) rfl, bh_geqF rfl rfl rfl rfl (show ltI (wrapF .u8 (i % 4)) 4 = true from lt_tt (by omega)), bh_leqT rfl rfl rfl rfl (show ltI 0 (-4096) = false from lt_ff (by omega)), bh_leqT rfl rfl rfl rfl (show ltI 4096 0 = false from lt_ff (by omega)), bh_leqT rfl rfl rfl rfl (show ltI ((i / 4) / 1) (-4096) = false from lt_ff (by omega)), bh_leqT rfl rfl rfl rfl (show ltI 4096 ((i / 4) / 1) = false from lt_ff (by omega)), bh_lss rfl rfl rfl rfl (show ltI e 3 = false from lt_ff (by omega)), bh_gtr rfl rfl rfl rfl (show ltI 2 e = true from lt_tt (by omega)), trivial⟩ ⟨ch_conv rfl rfl rfl rfl rfl, trivial⟩ (el := [(8, [va [vy 0,vy 1]], va [vi 1,vi 2]), (14, [], vt)]) ⟨⟨rfl, rfl, of_cls t a b 1 2 h_a h_b hw hh⟩, ⟨rfl, rfl, k14 t⟩, trivial⟩ (args := [va [vy 0,vy 1], vy 2, vy 3]) (v := vt) rfl rfl (by kernel_rfl) (r4_1_2_2_0 t)
theorem o4_1_2_0 (t : Nat → TypeId) (a b i e : Int) (h_a : 0 ≤ a ∧ a ≤ 255) (h_b : 0 ≤ b ∧ b ≤ 255) (h_i : -9223372036854775808 ≤ i ∧ i ≤ -1) (h_e : 0 ≤ e ∧ e ≤ 255) (hw : 1 + a % 5 = 1) (hh : 1 + b % 5 = 2) : Known Tryd.prog (tabG t) 4 [.agg ⟨[.int .u8 a, .int .u8 b]⟩, .int .i64 i, .int .u8 e] (.bool true) := by
  exact p4_1_2_0_0 t a b i e h_a h_b h_i h_e hw hh 
theorem o4_1_2_1 (t : Nat → TypeId) (a b i e : Int) (h_a : 0 ≤ a ∧ a ≤ 255) (h_b : 0 ≤ b ∧ b ≤ 255) (h_i : 8 ≤ i ∧ i ≤ 9223372036854775807) (h_e : 0 ≤ e ∧ e ≤ 255) (hw : 1 + a % 5 = 1) (hh : 1 + b % 5 = 2) : Known Tryd.prog (tabG t) 4 [.agg ⟨[.int .u8 a, .int .u8 b]⟩, .int .i64 i, .int .u8 e] (.bool true) := by
  exact p4_1_2_1_0 t a b i e h_a h_b h_i h_e hw hh 
theorem o4_1_2_2 (t : Nat → TypeId) (a b i e : Int) (h_a : 0 ≤ a ∧ a ≤ 255) (h_b : 0 ≤ b ∧ b ≤ 255) (h_i : 0 ≤ i ∧ i ≤ 7) (h_e : 3 ≤ e ∧ e ≤ 255) (hw : 1 + a % 5 = 1) (hh : 1 + b % 5 = 2) : Known Tryd.prog (tabG t) 4 [.agg ⟨[.int .u8 a, .int .u8 b]⟩, .int .i64 i, .int .u8 e] (.bool true) := by
  exact p4_1_2_2_0 t a b i e h_a h_b h_i h_e hw hh 

theorem r4_1_3_0_0 (t : Nat → TypeId) : isVal (vt) (@run (tabPrims [(13, vy 2, vi 0, vt)] []) Tryd.prog (valOrc (fun _ => false) (tabG t) (ansT [(8, [va [vy 0,vy 1]], va [vi 1,vi 3]), (14, [], vt)])) 1000000 (.call 4 [va [vy 0,vy 1], vy 2, vy 3] (tabG t))) = true := by kernel_rfl
theorem p4_1_3_0_0 (t : Nat → TypeId) (a b i e : Int) (h_a : 0 ≤ a ∧ a ≤ 255) (h_b : 0 ≤ b ∧ b ≤ 255) (h_i : -9223372036854775808 ≤ i ∧ i ≤ -1) (h_e : 0 ≤ e ∧ e ≤ 255) (hw : 1 + a % 5 = 1) (hh : 1 + b % 5 = 3)  : Known Tryd.prog (tabG t) 4 [.agg ⟨[.int .u8 a,.int .u8 b]⟩, .int .i64 i, .int .u8 e] (.bool true) := by
  have h1_a := h_a.1
  have h2_a := h_a.2
  have h1_b := h_b.1
  have h2_b := h_b.2
  have h1_i := h_i.1
  have h2_i := h_i.2
  have h1_e := h_e.1
  have h2_e := h_e.2
  exact path_calls (ρ := ofInts [(.u8, a), (.u8, b), (.i64, i), (.u8, e)]) (tabs_G t) (size_V t) (floor_V t) (ofInts_plain _) (bt := [(13, vy 2, vi 0, vt)]) (ct := []) ⟨bh_lss rfl rfl rfl rfl (show ltI i 0 = true from lt_tt (by omega)), trivial⟩ trivial (el := [(8, [va [vy 0,vy 1]], va [vi 1,vi 3]), (14, [], vt)]) ⟨⟨rfl, rfl, of_cls t a b 1 3 h_a h_b hw hh⟩, ⟨rfl, rfl, k14 t⟩, trivial⟩ (args := [va [vy 0,vy 1], vy 2, vy 3]) (v := vt) rfl rfl (by kernel_rfl) (r4_1_3_0_0 t)

theorem r4_1_3_1_0 (t : Nat → TypeId) : isVal (vt) (@run (tabPrims [(13, vy 2, vi 0, vf), (16, vy 2, vi 12, vt)] []) Tryd.prog (valOrc (fun _ => false) (tabG t) (ansT [(8, [va [vy 0,vy 1]], va [vi 1,vi 3]), (14, [], vt)])) 1000000 (.call 4 [va [vy 0,vy 1], vy 2, vy 3] (tabG t))) = true := by kernel_rfl
theorem p4_1_3_1_0 (t : Nat → TypeId) (a b i e : Int) (h_a : 0 ≤ a ∧ a ≤ 255) (h_b : 0 ≤ b ∧ b ≤ 255) (h_i : 12 ≤ i ∧ i ≤ 9223372036854775807) (h_e : 0 ≤ e ∧ e ≤ 255) (hw : 1 + a % 5 = 1) (hh : 1 + b % 5 = 3)  : Known Tryd.prog (tabG t) 4 [.agg ⟨[.int .u8 a,.int .u8 b]⟩, .int .i64 i, .int .u8 e] (.bool true) := by
  have h1_a := h_a.1
  have h2_a := h_a.2
  have h1_b := h_b.1
  have h2_b := h_b.2
  have h1_i := h_i.1
  have h2_i := h_i.2
  have h1_e := h_e.1
  have h2_e := h_e.2
  exact path_calls (ρ := ofInts [(.u8, a), (.u8, b), (.i64, i), (.u8, e)]) (tabs_G t) (size_V t) (floor_V t) (ofInts_plain _) (bt := [(13, vy 2, vi 0, vf), (16, vy 2, vi 12, vt)]) (ct := []) ⟨bh_lss rfl rfl rfl rfl (show ltI i 0 = false from lt_ff (by omega)), bh_geqT rfl rfl rfl rfl (show ltI i 12 = false from lt_ff (by omega)), trivial⟩ trivial (el := [(8, [va [vy 0,vy 1]], va [vi 1,vi 3]), (14, [], vt)]) ⟨⟨rfl, rfl, of_cls t a b 1 3 h_a h_b hw hh⟩, ⟨rfl, rfl, k14 t⟩, trivial⟩ (args := [va [vy 0,vy 1], vy 2, vy 3]) (v := vt) rfl rfl (by kernel_rfl) (r4_1_3_1_0 t)

theorem r4_1_3_2_0 (t : Nat → TypeId) : isVal (vt) (@run (tabPrims [(13, vy 2, vi 0, vf), (16, vy 2, vi 12, vf), (3, vy 2, vi 4, vy 4), (13, vy 4, vi 0, vf), (4, vy 4, vi 1, vy 5), (3, vy 4, vi 1, vy 6), (4, vy 2, vi 4, vy 7), (16, vy 8, vu 4, vf), (14, vn 4095, vy 5, vt), (14, vy 5, vi 4096, vt), (14, vn 4095, vy 6, vt), (14, vy 6, vi 4096, vt), (13, vy 3, vu 3, vf), (15, vy 3, vu 2, vt)] [(4, vy 7, vy 8)]) Tryd.prog (valOrc (fun _ => false) (tabG t) (ansT [(8, [va [vy 0,vy 1]], va [vi 1,vi 3]), (14, [], vt)])) 1000000 (.call 4 [va [vy 0,vy 1], vy 2, vy 3] (tabG t))) = true := by kernel_rfl
theorem p4_1_3_2_0 (t : Nat → TypeId) (a b i e : Int) (h_a : 0 ≤ a ∧ a ≤ 255) (h_b : 0 ≤ b ∧ b ≤ 255) (h_i : 0 ≤ i ∧ i ≤ 11) (h_e : 3 ≤ e ∧ e ≤ 255) (hw : 1 + a % 5 = 1) (hh : 1 + b % 5 = 3)  : Known Tryd.prog (tabG t) 4 [.agg ⟨[.int .u8 a,.int .u8 b]⟩, .int .i64 i, .int .u8 e] (.bool true) := by
  have h1_a := h_a.1
  have h2_a := h_a.2
  have h1_b := h_b.1
  have h2_b := h_b.2
  have h1_i := h_i.1
  have h2_i := h_i.2
  have h1_e := h_e.1
  have h2_e := h_e.2
  have w8 : (wrapF .u8 (i % 4)) = (i % 4) := wid_u8 (n := (i % 4)) (by omega) (by omega)
  exact path_calls (ρ := ofInts [(.u8, a), (.u8, b), (.i64, i), (.u8, e), (.i64, (i / 4)), (.i64, 0), (.i64, ((i / 4) / 1)), (.i64, (i % 4)), (.u8, (wrapF .u8 (i % 4)))]) (tabs_G t) (size_V t) (floor_V t) (ofInts_plain _) (bt := [(13, vy 2, vi 0, vf), (16, vy 2, vi 12, vf), (3, vy 2, vi 4, vy 4), (13, vy 4, vi 0, vf), (4, vy 4, vi 1, vy 5), (3, vy 4, vi 1, vy 6), (4, vy 2, vi 4, vy 7), (16, vy 8, vu 4, vf), (14, vn 4095, vy 5, vt), (14, vy 5, vi 4096, vt), (14, vn 4095, vy 6, vt), (14, vy 6, vi 4096, vt), (13, vy 3, vu 3, vf), (15, vy 3, vu 2, vt)]) (ct := [(4, vy 7, vy 8)]) ⟨bh_lss rfl rfl rfl rfl (show ltI i 0 = false from lt_ff (by omega)), bh_geqF rfl rfl rfl rfl (show ltI i 12 = true from lt_tt (by omega)), bh_quo (a := i) (b := 4) rfl rfl rfl rfl rfl (by omega) (by show _ < (9223372036854775808 : Int); omega) (by omega) rfl, bh_lss rfl rfl rfl rfl (show ltI (i / 4) 0 = false from lt_ff (by omega)), bw_rem (a := (i / 4)) (b := 1) (c := 0) rfl rfl rfl rfl rfl (by omega) (by omega) rfl (by omega), bh_quo (a := (i / 4)) (b := 1) rfl rfl rfl rfl rfl (by omega) (by show _ < (9223372036854775808 : Int); omega) (by omega) rfl, bh_rem (a := i) (b := 4) rfl rfl rfl rfl rfl (by omega) (by omega) rfl, bh_geqF rfl rfl rfl rfl (show ltI (wrapF .u8 (i % 4)) 4 = true from lt_tt (by omega)), bh_leqT rfl rfl rfl rfl (show ltI 0 (-4096) = false from lt_ff (by omega)), bh_leqT rfl rfl rfl rfl (show ltI 4096 0 = false from lt_ff (by omega)), bh_leqT rfl rfl rfl rfl (show ltI ((i / 4) / 1) (-4096) = false from lt_ff (by omega)), bh_leqT rfl rfl rfl rfl (show ltI 4096 ((i / 4) / 1) = false from lt_ff (by omega)), bh_lss rfl rfl rfl rfl (show ltI e 3 = false from lt_ff (by omega)), bh_gtr rfl rfl rfl rfl (show ltI 2 e = true from lt_tt (by omega)), trivial⟩ ⟨ch_conv rfl rfl rfl rfl rfl, trivial⟩ (el := [(8, [va [vy 0,vy 1]], va [vi 1,vi 3]), (14, [], vt)]) ⟨⟨rfl, rfl, of_cls t a b 1 3 h_a h_b hw hh⟩, ⟨rfl, rfl, k14 t⟩, trivial⟩ (args := [va [vy 0,vy 1], vy 2, vy 3]) (v := vt) rfl rfl (by kernel_rfl) (r4_1_3_2_0 t)
theorem o4_1_3_0 (t : Nat → TypeId) (a b i e : Int) (h_a : 0 ≤ a ∧ a ≤ 255) (h_b : 0 ≤ b ∧ b ≤ 255) (h_i : -9223372036854775808 ≤ i ∧ i ≤ -1) (h_e : 0 ≤ e ∧ e ≤ 255) (hw : 1 + a % 5 = 1) (hh : 1 + b % 5 = 3) : Known Tryd.prog (tabG t) 4 [.agg ⟨[.int .u8 a, .int .u8 b]⟩, .int .i64 i, .int .u8 e] (.bool true) := by
  exact p4_1_3_0_0 t a b i e h_a h_b h_i h_e hw hh 
theorem o4_1_3_1 (t : Nat → TypeId) (a b i e : Int) (h_a : 0 ≤ a ∧ a ≤ 255) (h_b : 0 ≤ b ∧ b ≤ 255) (h_i : 12 ≤ i ∧ i ≤ 9223372036854775807) (h_e : 0 ≤ e ∧ e ≤ 255) (hw : 1 + a % 5 = 1) (hh : 1 + b % 5 = 3) : Known Tryd.prog (tabG t) 4 [.agg ⟨[.int .u8 a, .int .u8 b]⟩, .int .i64 i, .int .u8 e] (.bool true) := by
  exact p4_1_3_1_0 t a b i e h_a h_b h_i h_e hw hh 
theorem o4_1_3_2 (t : Nat → TypeId) (a b i e : Int) (h_a : 0 ≤ a ∧ a ≤ 255) (h_b : 0 ≤ b ∧ b ≤ 255) (h_i : 0 ≤ i ∧ i ≤ 11) (h_e : 3 ≤ e ∧ e ≤ 255) (hw : 1 + a % 5 = 1) (hh : 1 + b % 5 = 3) : Known Tryd.prog (tabG t) 4 [.agg ⟨[.int .u8 a, .int .u8 b]⟩, .int .i64 i, .int .u8 e] (.bool true) := by
  exact p4_1_3_2_0 t a b i e h_a h_b h_i h_e hw hh 

theorem r4_1_4_0_0 (t : Nat → TypeId) : isVal (vt) (@run (tabPrims [(13, vy 2, vi 0, vt)] []) Tryd.prog (valOrc (fun _ => false) (tabG t) (ansT [(8, [va [vy 0,vy 1]], va [vi 1,vi 4]), (14, [], vt)])) 1000000 (.call 4 [va [vy 0,vy 1], vy 2, vy 3] (tabG t))) = true := by kernel_rfl
theorem p4_1_4_0_0 (t : Nat → TypeId) (a b i e : Int) (h_a : 0 ≤ a ∧ a ≤ 255) (h_b : 0 ≤ b ∧ b ≤ 255) (h_i : -9223372036854775808 ≤ i ∧ i ≤ -1) (h_e : 0 ≤ e ∧ e ≤ 255) (hw : 1 + a % 5 = 1) (hh : 1 + b % 5 = 4)  : Known Tryd.prog (tabG t) 4 [.agg ⟨[.int .u8 a,.int .u8 b]⟩, .int .i64 i, .int .u8 e] (.bool true) := by
  have h1_a := h_a.1
  have h2_a := h_a.2
  have h1_b := h_b.1
  have h2_b := h_b.2
  have h1_i := h_i.1
  have h2_i := h_i.2
  have h1_e := h_e.1
  have h2_e := h_e.2
  exact path_calls (ρ := ofInts [(.u8, a), (.u8, b), (.i64, i), (.u8, e)]) (tabs_G t) (size_V t) (floor_V t) (ofInts_plain _) (bt := [(13, vy 2, vi 0, vt)]) (ct := []) ⟨bh_lss rfl rfl rfl rfl (show ltI i 0 = true from lt_tt (by omega)), trivial⟩ trivial (el := [(8, [va [vy 0,vy 1]], va [vi 1,vi 4]), (14, [], vt)]) ⟨⟨rfl, rfl, of_cls t a b 1 4 h_a h_b hw hh⟩, ⟨rfl, rfl, k14 t⟩, trivial⟩ (args := [va [vy 0,vy 1], vy 2, vy 3]) (v := vt) rfl rfl (by kernel_rfl) (r4_1_4_0_0 t)

theorem r4_1_4_1_0 (t : Nat → TypeId) : isVal (vt) (@run (tabPrims [(13, vy 2, vi 0, vf), (16, vy 2, vi 16, vt)] []) Tryd.prog (valOrc (fun _ => false) (tabG t) (ansT [(8, [va [vy 0,vy 1]], va [vi 1,vi 4]), (14, [], vt)])) 1000000 (.call 4 [va [vy 0,vy 1], vy 2, vy 3] (tabG t))) = true := by kernel_rfl
theorem p4_1_4_1_0 (t : Nat → TypeId) (a b i e : Int) (h_a : 0 ≤ a ∧ a ≤ 255) (h_b : 0 ≤ b ∧ b ≤ 255) (h_i : 16 ≤ i ∧ i ≤ 9223372036854775807) (h_e : 0 ≤ e ∧ e ≤ 255) (hw : 1 + a % 5 = 1) (hh : 1 + b % 5 = 4)  : Known Tryd.prog (tabG t) 4 [.agg ⟨[.int .u8 a,.int .u8 b]⟩, .int .i64 i, .int .u8 e] (.bool true) := by
  have h1_a := h_a.1
  have h2_a := h_a.2
  have h1_b := h_b.1
  have h2_b := h_b.2
  have h1_i := h_i.1
  have h2_i := h_i.2
  have h1_e := h_e.1
  have h2_e := h_e.2
  exact path_calls (ρ := ofInts [(.u8, a), (.u8, b), (.i64, i), (.u8, e)]) (tabs_G t) (size_V t) (floor_V t) (ofInts_plain _) (bt := [(13, vy 2, vi 0, vf), (16, vy 2, vi 16, vt)]) (ct := []) ⟨bh_lss rfl rfl rfl rfl (show ltI i 0 = false from lt_ff (by omega)), bh_geqT rfl rfl rfl rfl (show ltI i 16 = false from lt_ff (by omega)), trivial⟩ trivial (el := [(8, [va [vy 0,vy 1]], va [vi 1,vi 4]), (14, [], vt)]) ⟨⟨rfl, rfl, of_cls t a b 1 4 h_a h_b hw hh⟩, ⟨rfl, rfl, k14 t⟩, trivial⟩ (args := [va [vy 0,vy 1], vy 2, vy 3]) (v := vt) rfl rfl (by kernel_rfl) (r4_1_4_1_0 t)

theorem r4_1_4_2_0 (t : Nat → TypeId) : isVal (vt) (@run (tabPrims [(13, vy 2, vi 0, vf), (16, vy 2, vi 16, vf), (3, vy 2, vi 4, vy 4), (13, vy 4, vi 0, vf), (4, vy 4, vi 1, vy 5), (3, vy 4, vi 1, vy 6), (4, vy 2, vi 4, vy 7), (16, vy 8, vu 4, vf), (14, vn 4095, vy 5, vt), (14, vy 5, vi 4096, vt), (14, vn 4095, vy 6, vt), (14, vy 6, vi 4096, vt), (13, vy 3, vu 3, vf), (15, vy 3, vu 2, vt)] [(4, vy 7, vy 8)]) Tryd.prog (valOrc (fun _ => false) (tabG t) (ansT [(8, [va [vy 0,vy 1]], va [vi 1,vi 4]), (14, [], vt)])) 1000000 (.call 4 [va [vy 0,vy 1], vy 2, vy 3] (tabG t))) = true := by kernel_rfl
theorem p4_1_4_2_0 (t : Nat → TypeId) (a b i e : Int) (h_a : 0 ≤ a ∧ a ≤ 255) (h_b : 0 ≤ b ∧ b ≤ 255) (h_i : 0 ≤ i ∧ i ≤ 15) (h_e : 3 ≤ e ∧ e ≤ 255) (hw : 1 + a % 5 = 1) (hh : 1 + b % 5 = 4)  : Known Tryd.prog (tabG t) 4 [.agg ⟨[.int .u8 a,.int .u8 b]⟩, .int .i64 i, .int .u8 e] (.bool true) := by
  have h1_a := h_a.1
  have h2_a := h_a.2
  have h1_b := h_b.1
  have h2_b := h_b.2
  have h1_i := h_i.1
  have h2_i := h_i.2
  have h1_e := h_e.1
  have h2_e := h_e.2
  have w8 : (wrapF .u8 (i % 4)) = (i % 4) := wid_u8 (n := (i % 4)) (by omega) (by omega)
  exact path_calls (ρ := ofInts [(.u8, a), (.u8, b), (.i64, i), (.u8, e), (.i64, (i / 4)), (.i64, 0), (.i64, ((i / 4) / 1)), (.i64, (i % 4)), (.u8, (wrapF .u8 (i % 4)))]) (tabs_G t) (size_V t) (floor_V t) (ofInts_plain _) (bt := [(13, vy 2, vi 0, vf), (16, vy 2, vi 16, vf), (3, vy 2, vi 4, vy 4), (13, vy 4, vi 0, vf), (4, vy 4, vi 1, vy 5), (3, vy 4, vi 1, vy 6), (4, vy 2, vi 4, vy 7), (16, vy 8, vu 4, vf), (14, vn 4095, vy 5, vt), (14, vy 5, vi 4096, vt), (14, vn 4095, vy 6, vt), (14, vy 6, vi 4096, vt), (13, vy 3, vu 3, vf), (15, vy 3, vu 2, vt)]) (ct := [(4, vy 7, vy 8)]) ⟨bh_lss rfl rfl rfl rfl (show ltI i 0 = false from lt_ff (by omega)), bh_geqF rfl rfl rfl rfl (show ltI i 16 = true from lt_tt (by omega)), bh_quo (a := i) (b := 4) rfl rfl rfl rfl rfl (by omega) (by show _ < (9223372036854775808 : Int); omega) (by omega) rfl, bh_lss rfl rfl rfl rfl (show ltI (i / 4) 0 = false from lt_ff (by omega)), bw_rem (a := (i / 4)) (b := 1) (c := 0) rfl rfl rfl rfl rfl (by omega) (by omega) rfl (by omega), bh_quo (a := (i / 4)) (b := 1) rfl rfl rfl rfl rfl (by omega) (by show _ < (9223372036854775808 : Int); omega) (by omega) rfl, bh_rem (a := i) (b := 4) rfl rfl rfl rfl rfl (by omega) (by omega) rfl, bh_geqF rfl rfl rfl rfl (show ltI (wrapF .u8 (i % 4)) 4 = true from lt_tt (by omega)), bh_leqT rfl rfl rfl rfl (show ltI 0 (-4096) = false from lt_ff (by omega)), bh_leqT rfl rfl rfl rfl (show ltI 4096 0 = false from lt_ff (by omega)), bh_leqT rfl rfl rfl rfl (show ltI ((i / 4) / 1) (-4096) = false from lt_ff (by omega)), bh_leqT rfl rfl rfl rfl (show ltI 4096 ((i / 4) / 1) = false from lt_ff (by omega)), bh_lss rfl rfl rfl rfl (show ltI e 3 = false from lt_ff (by omega)), bh_gtr rfl rfl rfl rfl (show ltI 2 e = true from lt_tt (by omega)), trivial⟩ ⟨ch_conv rfl rfl rfl rfl rfl, trivial⟩ (el := [(8, [va [vy 0,vy 1]], va [vi 1,vi 4]), (14, [], vt)]) ⟨⟨rfl, rfl, of_cls t a b 1 4 h_a h_b hw hh⟩, ⟨rfl, rfl, k14 t⟩, trivial⟩ (args := [va [vy 0,vy 1], vy 2, vy 3]) (v := vt) rfl rfl (by kernel_rfl) (r4_1_4_2_0 t)
theorem o4_1_4_0 (t : Nat → TypeId) (a b i e : Int) (h_a : 0 ≤ a ∧ a ≤ 255) (h_b : 0 ≤ b ∧ b ≤ 255) (h_i : -9223372036854775808 ≤ i ∧ i ≤ -1) (h_e : 0 ≤ e ∧ e ≤ 255) (hw : 1 + a % 5 = 1) (hh : 1 + b % 5 = 4) : Known Tryd.prog (tabG t) 4 [.agg ⟨[.int .u8 a, .int .u8 b]⟩, .int .i64 i, .int .u8 e] (.bool true) := by
  exact p4_1_4_0_0 t a b i e h_a h_b h_i h_e hw hh 
theorem o4_1_4_1 (t : Nat → TypeId) (a b i e : Int) (h_a : 0 ≤ a ∧ a ≤ 255) (h_b : 0 ≤ b ∧ b ≤ 255) (h_i : 16 ≤ i ∧ i ≤ 9223372036854775807) (h_e : 0 ≤ e ∧ e ≤ 255) (hw : 1 + a % 5 = 1) (hh : 1 + b % 5 = 4) : Known Tryd.prog (tabG t) 4 [.agg ⟨[.int .u8 a, .int .u8 b]⟩, .int .i64 i, .int .u8 e] (.bool true) := by
  exact p4_1_4_1_0 t a b i e h_a h_b h_i h_e hw hh 
theorem o4_1_4_2 (t : Nat → TypeId) (a b i e : Int) (h_a : 0 ≤ a ∧ a ≤ 255) (h_b : 0 ≤ b ∧ b ≤ 255) (h_i : 0 ≤ i ∧ i ≤ 15) (h_e : 3 ≤ e ∧ e ≤ 255) (hw : 1 + a % 5 = 1) (hh : 1 + b % 5 = 4) : Known Tryd.prog (tabG t) 4 [.agg ⟨[.int .u8 a, .int .u8 b]⟩, .int .i64 i, .int .u8 e] (.bool true) := by
  exact p4_1_4_2_0 t a b i e h_a h_b h_i h_e hw hh 

theorem r4_1_5_0_0 (t : Nat → TypeId) : isVal (vt) (@run (tabPrims [(13, vy 2, vi 0, vt)] []) Tryd.prog (valOrc (fun _ => false) (tabG t) (ansT [(8, [va [vy 0,vy 1]], va [vi 1,vi 5]), (14, [], vt)])) 1000000 (.call 4 [va [vy 0,vy 1], vy 2, vy 3] (tabG t))) = true := by kernel_rfl
theorem p4_1_5_0_0 (t : Nat → TypeId) (a b i e : Int) (h_a : 0 ≤ a ∧ a ≤ 255) (h_b : 0 ≤ b ∧ b ≤ 255) (h_i : -9223372036854775808 ≤ i ∧ i ≤ -1) (h_e : 0 ≤ e ∧ e ≤ 255) (hw : 1 + a % 5 = 1) (hh : 1 + b % 5 = 5)  : Known Tryd.prog (tabG t) 4 [.agg ⟨[.int .u8 a,.int .u8 b]⟩, .int .i64 i, .int .u8 e] (.bool true) := by
  have h1_a := h_a.1
  have h2_a := h_a.2
  have h1_b := h_b.1
  have h2_b := h_b.2
  have h1_i := h_i.1
  have h2_i := h_i.2
  have h1_e := h_e.1
  have h2_e := h_e.2
  exact path_calls (ρ := ofInts [(.u8, a), (.u8, b), (.i64, i), (.u8, e)]) (tabs_G t) (size_V t) (floor_V t) (ofInts_plain _) (bt := [(13, vy 2, vi 0, vt)]) (ct := []) ⟨bh_lss rfl rfl rfl rfl (show ltI i 0 = true from lt_tt (by omega)), trivial⟩ trivial (el := [(8, [va [vy 0,vy 1]], va [vi 1,vi 5]), (14, [], vt)]) ⟨⟨rfl, rfl, of_cls t a b 1 5 h_a h_b hw hh⟩, ⟨rfl, rfl, k14 t⟩, trivial⟩ (args := [va [vy 0,vy 1], vy 2, vy 3]) (v := vt) rfl rfl (by kernel_rfl) (r4_1_5_0_0 t)

theorem r4_1_5_1_0 (t : Nat → TypeId) : isVal (vt) (@run (tabPrims [(13, vy 2, vi 0, vf), (16, vy 2, vi 20, vt)] []) Tryd.prog (valOrc (fun _ => false) (tabG t) (ansT [(8, [va [vy 0,vy 1]], va [vi 1,vi 5]), (14, [], vt)])) 1000000 (.call 4 [va [vy 0,vy 1], vy 2, vy 3] (tabG t))) = true := by kernel_rfl
theorem p4_1_5_1_0 (t : Nat → TypeId) (a b i e : Int) (h_a : 0 ≤ a ∧ a ≤ 255) (h_b : 0 ≤ b ∧ b ≤ 255) (h_i : 20 ≤ i ∧ i ≤ 9223372036854775807) (h_e : 0 ≤ e ∧ e ≤ 255) (hw : 1 + a % 5 = 1) (hh : 1 + b % 5 = 5)  : Known Tryd.prog (tabG t) 4 [.agg ⟨[.int .u8 a,.int .u8 b]⟩, .int .i64 i, .int .u8 e] (.bool true) := by
  have h1_a := h_a.1
  have h2_a := h_a.2
  have h1_b := h_b.1
  have h2_b := h_b.2
  have h1_i := h_i.1
  have h2_i := h_i.2
  have h1_e := h_e.1
  have h2_e := h_e.2
  exact path_calls (ρ := ofInts [(.u8, a), (.u8, b), (.i64, i), (.u8, e)]) (tabs_G t) (size_V t) (floor_V t) (ofInts_plain _) (bt := [(13, vy 2, vi 0, vf), (16, vy 2, vi 20, vt)]) (ct := []) ⟨bh_lss rfl rfl rfl rfl (show ltI i 0 = false from lt_ff (by omega)), bh_geqT rfl rfl rfl rfl (show ltI i 20 = false from lt_ff (by omega)), trivial⟩ trivial (el := [(8, [va [vy 0,vy 1]], va [vi 1,vi 5]), (14, [], vt)]) ⟨⟨rfl, rfl, of_cls t a b 1 5 h_a h_b hw hh⟩, ⟨rfl, rfl, k14 t⟩, trivial⟩ (args := [va [vy 0,vy 1], vy 2, vy 3]) (v := vt) rfl rfl (by kernel_rfl) (r4_1_5_1_0 t)

theorem r4_1_5_2_0 (t : Nat → TypeId) : isVal (vt) (@run (tabPrims [(13, vy 2, vi 0, vf), (16, vy 2, vi 20, vf), (3, vy 2, vi 4, vy 4), (13, vy 4, vi 0, vf), (4, vy 4, vi 1, vy 5), (3, vy 4, vi 1, vy 6), (4, vy 2, vi 4, vy 7), (16, vy 8, vu 4, vf), (14, vn 4095, vy 5, vt), (14, vy 5, vi 4096, vt), (14, vn 4095, vy 6, vt), (14, vy 6, vi 4096, vt), (13, vy 3, vu 3, vf), (15, vy 3, vu 2, vt)] [(4, vy 7, vy 8)]) Tryd.prog (valOrc (fun _ => false) (tabG t) (ansT [(8, [va [vy 0,vy 1]], va [vi 1,vi 5]), (14, [], vt)])) 1000000 (.call 4 [va [vy 0,vy 1], vy 2, vy 3] (tabG t))) = true := by kernel_rfl
theorem p4_1_5_2_0 (t : Nat → TypeId) (a b i e : Int) (h_a : 0 ≤ a ∧ a ≤ 255) (h_b : 0 ≤ b ∧ b ≤ 255) (h_i : 0 ≤ i ∧ i ≤ 19) (h_e : 3 ≤ e ∧ e ≤ 255) (hw : 1 + a % 5 = 1) (hh : 1 + b % 5 = 5)  : Known Tryd.prog (tabG t) 4 [.agg ⟨[.int .u8 a,.int .u8 b]⟩, .int .i64 i, .int .u8 e] (.bool true) := by
  have h1_a := h_a.1
  have h2_a := h_a.2
  have h1_b := h_b.1
  have h2_b := h_b.2
  have h1_i := h_i.1
  have h2_i := h_i.2
  have h1_e := h_e.1
  have h2_e := h_e.2
  have w8 : (wrapF .u8 (i % 4)) = (i % 4) := wid_u8 (n := (i % 4)) (by omega) (by omega)
  exact path_calls (ρ := ofInts [(.u8, a), (.u8, b), (.i64, i), (.u8, e), (.i64, (i / 4)), (.i64, 0), (.i64, ((i / 4) / 1)), (.i64, (i % 4)), (.u8, (wrapF .u8 (i % 4)))]) (tabs_G t) (size_V t) (floor_V t) (ofInts_plain _) (bt := [(13, vy 2, vi 0, vf), (16, vy 2, vi 20, vf), (3, vy 2, vi 4, vy 4), (13, vy 4, vi 0, vf), (4, vy 4, vi 1, vy 5), (3, vy 4, vi 1, vy 6), (4, vy 2, vi 4, vy 7), (16, vy 8, vu 4, vf), (14, vn 4095, vy 5, vt), (14, vy 5, vi 4096, vt), (14, vn 4095, vy 6, vt), (14, vy 6, vi 4096, vt), (13, vy 3, vu 3, vf), (15, vy 3, vu 2, vt)]) (ct := [(4, vy 7, vy 8)]) ⟨bh_lss rfl rfl rfl rfl (show ltI i 0 = false from lt_ff (by omega)), bh_geqF rfl rfl rfl rfl (show ltI i 20 = true from lt_tt (by omega)), bh_quo (a := i) (b := 4) rfl rfl rfl rfl rfl (by omega) (by show _ < (9223372036854775808 : Int); omega) (by omega) rfl, bh_lss rfl rfl rfl rfl (show ltI (i / 4) 0 = false from lt_ff (by omega)), bw_rem (a := (i / 4)) (b := 1) (c := 0) rfl rfl rfl rfl rfl (by omega) (by omega) rfl (by omega), bh_quo (a := (i / 4)) (b := 1) rfl rfl rfl rfl rfl (by omega) (by show _ < (9223372036854775808 : Int); omega) (by omega) rfl, bh_rem (a := i) (b := 4) rfl rfl rfl rfl rfl (by omega) (by omega) rfl, bh_geqF rfl rfl rfl rfl (show ltI (wrapF .u8 (i % 4)) 4 = true from lt_tt (by omega)), bh_leqT rfl rfl rfl rfl (show ltI 0 (-4096) = false from lt_ff (by omega)), bh_leqT rfl rfl rfl rfl (show ltI 4096 0 = false from lt_ff (by omega)), bh_leqT rfl rfl rfl rfl (show ltI ((i / 4) / 1) (-4096) = false from lt_ff (by omega)), bh_leqT rfl rfl rfl rfl (show ltI 4096 ((i / 4) / 1) = false from lt_ff (by omega)), bh_lss rfl rfl rfl rfl (show ltI e 3 = false from lt_ff (by omega)), bh_gtr rfl rfl rfl rfl (show ltI 2 e = true from lt_tt (by omega)), trivial⟩ ⟨ch_conv rfl rfl rfl rfl rfl, trivial⟩ (el := [(8, [va [vy 0,vy 1]], va [vi 1,vi 5]), (14, [], vt)]) ⟨⟨rfl, rfl, of_cls t a b 1 5 h_a h_b hw hh⟩, ⟨rfl, rfl, k14 t⟩, trivial⟩ (args := [va [vy 0,vy 1], vy 2, vy 3]) (v := vt) rfl rfl (by kernel_rfl) (r4_1_5_2_0 t)
theorem o4_1_5_0 (t : Nat → TypeId) (a b i e : Int) (h_a : 0 ≤ a ∧ a ≤ 255) (h_b : 0 ≤ b ∧ b ≤ 255) (h_i : -9223372036854775808 ≤ i ∧ i ≤ -1) (h_e : 0 ≤ e ∧ e ≤ 255) (hw : 1 + a % 5 = 1) (hh : 1 + b % 5 = 5) : Known Tryd.prog (tabG t) 4 [.agg ⟨[.int .u8 a, .int .u8 b]⟩, .int .i64 i, .int .u8 e] (.bool true) := by
  exact p4_1_5_0_0 t a b i e h_a h_b h_i h_e hw hh 
theorem o4_1_5_1 (t : Nat → TypeId) (a b i e : Int) (h_a : 0 ≤ a ∧ a ≤ 255) (h_b : 0 ≤ b ∧ b ≤ 255) (h_i : 20 ≤ i ∧ i ≤ 9223372036854775807) (h_e : 0 ≤ e ∧ e ≤ 255) (hw : 1 + a % 5 = 1) (hh : 1 + b % 5 = 5) : Known Tryd.prog (tabG t) 4 [.agg ⟨[.int .u8 a, .int .u8 b]⟩, .int .i64 i, .int .u8 e] (.bool true) := by
  exact p4_1_5_1_0 t a b i e h_a h_b h_i h_e hw hh 
theorem o4_1_5_2 (t : Nat → TypeId) (a b i e : Int) (h_a : 0 ≤ a ∧ a ≤ 255) (h_b : 0 ≤ b ∧ b ≤ 255) (h_i : 0 ≤ i ∧ i ≤ 19) (h_e : 3 ≤ e ∧ e ≤ 255) (hw : 1 + a % 5 = 1) (hh : 1 + b % 5 = 5) : Known Tryd.prog (tabG t) 4 [.agg ⟨[.int .u8 a, .int .u8 b]⟩, .int .i64 i, .int .u8 e] (.bool true) := by
  exact p4_1_5_2_0 t a b i e h_a h_b h_i h_e hw hh 

theorem r4_2_1_0_0 (t : Nat → TypeId) : isVal (vt) (@run (tabPrims [(13, vy 2, vi 0, vt)] []) Tryd.prog (valOrc (fun _ => false) (tabG t) (ansT [(8, [va [vy 0,vy 1]], va [vi 2,vi 1]), (14, [], vt)])) 1000000 (.call 4 [va [vy 0,vy 1], vy 2, vy 3] (tabG t))) = true := by kernel_rfl
theorem p4_2_1_0_0 (t : Nat → TypeId) (a b i e : Int) (h_a : 0 ≤ a ∧ a ≤ 255) (h_b : 0 ≤ b ∧ b ≤ 255) (h_i : -9223372036854775808 ≤ i ∧ i ≤ -1) (h_e : 0 ≤ e ∧ e ≤ 255) (hw : 1 + a % 5 = 2) (hh : 1 + b % 5 = 1)  : Known Tryd.prog (tabG t) 4 [.agg ⟨[.int .u8 a,.int .u8 b]⟩, .int .i64 i, .int .u8 e] (.bool true) := by
  have h1_a := h_a.1
  have h2_a := h_a.2
  have h1_b := h_b.1
  have h2_b := h_b.2
  have h1_i := h_i.1
  have h2_i := h_i.2
  have h1_e := h_e.1
  have h2_e := h_e.2
  exact path_calls (ρ := ofInts [(.u8, a), (.u8, b), (.i64, i), (.u8, e)]) (tabs_G t) (size_V t) (floor_V t) (ofInts_plain _) (bt := [(13, vy 2, vi 0, vt)]) (ct := []) ⟨bh_lss rfl rfl rfl rfl (show ltI i 0 = true from lt_tt (by omega)), trivial⟩ trivial (el := [(8, [va [vy 0,vy 1]], va [vi 2,vi 1]), (14, [], vt)]) ⟨⟨rfl, rfl, of_cls t a b 2 1 h_a h_b hw hh⟩, ⟨rfl, rfl, k14 t⟩, trivial⟩ (args := [va [vy 0,vy 1], vy 2, vy 3]) (v := vt) rfl rfl (by kernel_rfl) (r4_2_1_0_0 t)

theorem r4_2_1_1_0 (t : Nat → TypeId) : isVal (vt) (@run (tabPrims [(13, vy 2, vi 0, vf), (16, vy 2, vi 8, vt)] []) Tryd.prog (valOrc (fun _ => false) (tabG t) (ansT [(8, [va [vy 0,vy 1]], va [vi 2,vi 1]), (14, [], vt)])) 1000000 (.call 4 [va [vy 0,vy 1], vy 2, vy 3] (tabG t))) = true := by kernel_rfl
theorem p4_2_1_1_0 (t : Nat → TypeId) (a b i e : Int) (h_a : 0 ≤ a ∧ a ≤ 255) (h_b : 0 ≤ b ∧ b ≤ 255) (h_i : 8 ≤ i ∧ i ≤ 9223372036854775807) (h_e : 0 ≤ e ∧ e ≤ 255) (hw : 1 + a % 5 = 2) (hh : 1 + b % 5 = 1)  : Known Tryd.prog (tabG t) 4 [.agg ⟨[.int .u8 a,.int .u8 b]⟩, .int .i64 i, .int .u8 e] (.bool true) := by
  have h1_a := h_a.1
  have h2_a := h_a.2
  have h1_b := h_b.1
  have h2_b := h_b.2
  have h1_i := h_i.1
  have h2_i := h_i.2
  have h1_e := h_e.1
  have h2_e := h_e.2
  exact path_calls (ρ := ofInts [(.u8, a), (.u8, b), (.i64, i), (.u8, e)]) (tabs_G t) (size_V t) (floor_V t) (ofInts_plain _) (bt := [(13, vy 2, vi 0, vf), (16, vy 2, vi 8, vt)]) (ct := []) ⟨bh_lss rfl rfl rfl rfl (show ltI i 0 = false from lt_ff (by omega)), bh_geqT rfl rfl rfl rfl (show ltI i 8 = false from lt_ff (by omega)), trivial⟩ trivial (el := [(8, [va [vy 0,vy 1]], va [vi 2,vi 1]), (14, [], vt)]) ⟨⟨rfl, rfl, of_cls t a b 2 1 h_a h_b hw hh⟩, ⟨rfl, rfl, k14 t⟩, trivial⟩ (args := [va [vy 0,vy 1], vy 2, vy 3]) (v := vt) rfl rfl (by kernel_rfl) (r4_2_1_1_0 t)

theorem r4_2_1_2_0 (t : Nat → TypeId) : isVal (vt) (@run (tabPrims [(13, vy 2, vi 0, vf), (16, vy 2, vi 8, vf), (3, vy 2, vi 4, vy 4), (13, vy 4, vi 0, vf), (4, vy 4, vi 2, vy 5), (3, vy 4, vi 2, vy 6), (4, vy 2, vi 4, vy 7), (16, vy 8, vu 4, vf), (14, vn 4095, vy 5, vt), (14, vy 5, vi 4096, vt), (14, vn 4095, vy 6, vt), (14, vy 6, vi 4096, vt), (13, vy 3, vu 3, vf), (15, vy 3, vu 2, vt)] [(4, vy 7, vy 8)]) Tryd.prog (valOrc (fun _ => false) (tabG t) (ansT [(8, [va [vy 0,vy 1]], va [vi 2,vi 1]), (14, [], vt)])) 1000000 (.call 4 [va [vy 0,vy 1], vy 2, vy 3] (tabG t))) = true := by kernel_rfl
theorem p4_2_1_2_0 (t : Nat → TypeId) (a b i e : Int) (h_a : 0 ≤ a ∧ a ≤ 255) (h_b : 0 ≤ b ∧ b ≤ 255) (h_i : 0 ≤ i ∧ i ≤ 7) (h_e : 3 ≤ e ∧ e ≤ 255) (hw : 1 + a % 5 = 2) (hh : 1 + b % 5 = 1)  : Known Tryd.prog (tabG t) 4 [.agg ⟨[.int .u8 a,.int .u8 b]⟩, .int .i64 i, .int .u8 e] (.bool true) := by
  have h1_a := h_a.1
  have h2_a := h_a.2
  have h1_b := h_b.1
  have h2_b := h_b.2
  have h1_i := h_i.1
  have h2_i := h_i.2
  have h1_e := h_e.1
  have h2_e := h_e.2
  have w8 : (wrapF .u8 (i % 4)) = (i % 4) := wid_u8 (n := (i % 4)) (by omega) (by omega)
  exact path_calls (ρ := ofInts [(.u8, a), (.u8, b), (.i64, i), (.u8, e), (.i64, (i / 4)), (.i64, ((i / 4) % 2)), (.i64, 0), (.i64, (i % 4)), (.u8, (wrapF .u8 (i % 4)))]) (tabs_G t) (size_V t) (floor_V t) (ofInts_plain _) (bt := [(13, vy 2, vi 0, vf), (16, vy 2, vi 8, vf), (3, vy 2, vi 4, vy 4), (13, vy 4, vi 0, vf), (4, vy 4, vi 2, vy 5), (3, vy 4, vi 2, vy 6), (4, vy 2, vi 4, vy 7), (16, vy 8, vu 4, vf), (14, vn 4095, vy 5, vt), (14, vy 5, vi 4096, vt), (14, vn 4095, vy 6, vt), (14, vy 6, vi 4096, vt), (13, vy 3, vu 3, vf), (15, vy 3, vu 2, vt)]) (ct := [(4, vy 7, vy 8)]) ⟨bh_lss rfl rfl rfl rfl (show ltI i 0 = false from lt_ff (by omega)), bh_geqF rfl rfl rfl rfl (show ltI i 8 = true from lt_tt (by omega)), bh_quo (a := i) (b := 4) rfl rfl rfl rfl rfl (by omega) (by show _ < (9223372036854775808 : Int); omega) (by omega) rfl, bh_lss rfl rfl rfl rfl (show ltI (i / 4) 0 = false from lt_ff (by omega)), bh_rem (a := (i / 4)) (b := 2) rfl rfl rfl rfl rfl (by omega) (by omega) rfl, b6_quo (a := (i / 4)) (b := 2) (c := 0) rfl rfl rfl rfl rfl (by omega) (by omega) (by omega) rfl (by omega), bh_rem (a := i) (b := 4) rfl rfl rfl rfl rfl (by omega) (by omega) rfl, bh_geqF rfl rfl rfl rfl (show ltI (wrapF .u8 (i % 4)) 4 = true from lt_tt (by omega)), bh_leqT rfl rfl rfl rfl (show ltI ((i / 4) % 2) (-4096) = false from lt_ff (by omega)), bh_leqT rfl rfl rfl rfl (show ltI 4096 ((i / 4) % 2) = false from lt_ff (by omega)), bh_leqT rfl rfl rfl rfl (show ltI 0 (-4096) = false from lt_ff (by omega)), bh_leqT rfl rfl rfl rfl (show ltI 4096 0 = false from lt_ff (by omega)), bh_lss rfl rfl rfl rfl (show ltI e 3 = false from lt_ff (by omega)), bh_gtr rfl rfl rfl rfl (show ltI 2 e = true from lt_tt (by omega)), trivial⟩ ⟨ch_conv rfl rfl rfl rfl rfl, trivial⟩ (el := [(8, [va [vy 0,vy 1]], va [vi 2,vi 1]), (14, [], vt)]) ⟨⟨rfl, rfl, of_cls t a b 2 1 h_a h_b hw hh⟩, ⟨rfl, rfl, k14 t⟩, trivial⟩ (args := [va [vy 0,vy 1], vy 2, vy 3]) (v := vt) rfl rfl (by kernel_rfl) (r4_2_1_2_0 t)
theorem o4_2_1_0 (t : Nat → TypeId) (a b i e : Int) (h_a : 0 ≤ a ∧ a ≤ 255) (h_b : 0 ≤ b ∧ b ≤ 255) (h_i : -9223372036854775808 ≤ i ∧ i ≤ -1) (h_e : 0 ≤ e ∧ e ≤ 255) (hw : 1 + a % 5 = 2) (hh : 1 + b % 5 = 1) : Known Tryd.prog (tabG t) 4 [.agg ⟨[.int .u8 a, .int .u8 b]⟩, .int .i64 i, .int .u8 e] (.bool true) := by
  exact p4_2_1_0_0 t a b i e h_a h_b h_i h_e hw hh 
theorem o4_2_1_1 (t : Nat → TypeId) (a b i e : Int) (h_a : 0 ≤ a ∧ a ≤ 255) (h_b : 0 ≤ b ∧ b ≤ 255) (h_i : 8 ≤ i ∧ i ≤ 9223372036854775807) (h_e : 0 ≤ e ∧ e ≤ 255) (hw : 1 + a % 5 = 2) (hh : 1 + b % 5 = 1) : Known Tryd.prog (tabG t) 4 [.agg ⟨[.int .u8 a, .int .u8 b]⟩, .int .i64 i, .int .u8 e] (.bool true) := by
  exact p4_2_1_1_0 t a b i e h_a h_b h_i h_e hw hh 
theorem o4_2_1_2 (t : Nat → TypeId) (a b i e : Int) (h_a : 0 ≤ a ∧ a ≤ 255) (h_b : 0 ≤ b ∧ b ≤ 255) (h_i : 0 ≤ i ∧ i ≤ 7) (h_e : 3 ≤ e ∧ e ≤ 255) (hw : 1 + a % 5 = 2) (hh : 1 + b % 5 = 1) : Known Tryd.prog (tabG t) 4 [.agg ⟨[.int .u8 a, .int .u8 b]⟩, .int .i64 i, .int .u8 e] (.bool true) := by
  exact p4_2_1_2_0 t a b i e h_a h_b h_i h_e hw hh 

theorem r4_2_2_0_0 (t : Nat → TypeId) : isVal (vt) (@run (tabPrims [(13, vy 2, vi 0, vt)] []) Tryd.prog (valOrc (fun _ => false) (tabG t) (ansT [(8, [va [vy 0,vy 1]], va [vi 2,vi 2]), (14, [], vt)])) 1000000 (.call 4 [va [vy 0,vy 1], vy 2, vy 3] (tabG t))) = true := by kernel_rfl
theorem p4_2_2_0_0 (t : Nat → TypeId) (a b i e : Int) (h_a : 0 ≤ a ∧ a ≤ 255) (h_b : 0 ≤ b ∧ b ≤ 255) (h_i : -9223372036854775808 ≤ i ∧ i ≤ -1) (h_e : 0 ≤ e ∧ e ≤ 255) (hw : 1 + a % 5 = 2) (hh : 1 + b % 5 = 2)  : Known Tryd.prog (tabG t) 4 [.agg ⟨[.int .u8 a,.int .u8 b]⟩, .int .i64 i, .int .u8 e] (.bool true) := by
  have h1_a := h_a.1
  have h2_a := h_a.2
  have h1_b := h_b.1
  have h2_b := h_b.2
  have h1_i := h_i.1
  have h2_i := h_i.2
  have h1_e := h_e.1
  have h2_e := h_e.2
  exact path_calls (ρ := ofInts [(.u8, a), (.u8, b), (.i64, i), (.u8, e)]) (tabs_G t) (size_V t) (floor_V t) (ofInts_plain _) (bt := [(13, vy 2, vi 0, vt)]) (ct := []) ⟨bh_lss rfl rfl rfl rfl (show ltI i 0 = true from lt_tt (by omega)), trivial⟩ trivial (el := [(8, [va [vy 0,vy 1]], va [vi 2,vi 2]), (14, [], vt)]) ⟨⟨rfl, rfl, of_cls t a b 2 2 h_a h_b hw hh⟩, ⟨rfl, rfl, k14 t⟩, trivial⟩ (args := [va [vy 0,vy 1], vy 2, vy 3]) (v := vt) rfl rfl (by kernel_rfl) (r4_2_2_0_0 t)

theorem r4_2_2_1_0 (t : Nat → TypeId) : isVal (vt) (@run (tabPrims [(13, vy 2, vi 0, vf), (16, vy 2, vi 16, vt)] []) Tryd.prog (valOrc (fun _ => false) (tabG t) (ansT [(8, [va [vy 0,vy 1]], va [vi 2,vi 2]), (14, [], vt)])) 1000000 (.call 4 [va [vy 0,vy 1], vy 2, vy 3] (tabG t))) = true := by kernel_rfl
theorem p4_2_2_1_0 (t : Nat → TypeId) (a b i e : Int) (h_a : 0 ≤ a ∧ a ≤ 255) (h_b : 0 ≤ b ∧ b ≤ 255) (h_i : 16 ≤ i ∧ i ≤ 9223372036854775807) (h_e : 0 ≤ e ∧ e ≤ 255) (hw : 1 + a % 5 = 2) (hh : 1 + b % 5 = 2)  : Known Tryd.prog (tabG t) 4 [.agg ⟨[.int .u8 a,.int .u8 b]⟩, .int .i64 i, .int .u8 e] (.bool true) := by
  have h1_a := h_a.1
  have h2_a := h_a.2
  have h1_b := h_b.1
  have h2_b := h_b.2
  have h1_i := h_i.1
  have h2_i := h_i.2
  have h1_e := h_e.1
  have h2_e := h_e.2
  exact path_calls (ρ := ofInts [(.u8, a), (.u8, b), (.i64, i), (.u8, e)]) (tabs_G t) (size_V t) (floor_V t) (ofInts_plain _) (bt := [(13, vy 2, vi 0, vf), (16, vy 2, vi 16, vt)]) (ct := []) ⟨bh_lss rfl rfl rfl rfl (show ltI i 0 = false from lt_ff (by omega)), bh_geqT rfl rfl rfl rfl (show ltI i 16 = false from lt_ff (by omega)), trivial⟩ trivial (el := [(8, [va [vy 0,vy 1]], va [vi 2,vi 2]), (14, [], vt)]) ⟨⟨rfl, rfl, of_cls t a b 2 2 h_a h_b hw hh⟩, ⟨rfl, rfl, k14 t⟩, trivial⟩ (args := [va [vy 0,vy 1], vy 2, vy 3]) (v := vt) rfl rfl (by kernel_rfl) (r4_2_2_1_0 t)

theorem r4_2_2_2_0 (t : Nat → TypeId) : isVal (vt) (@run (tabPrims [(13, vy 2, vi 0, vf), (16, vy 2, vi 16, vf), (3, vy 2, vi 4, vy 4), (13, vy 4, vi 0, vf), (4, vy 4, vi 2, vy 5), (3, vy 4, vi 2, vy 6), (4, vy 2, vi 4, vy 7), (16, vy 8, vu 4, vf), (14, vn 4095, vy 5, vt), (14, vy 5, vi 4096, vt), (14, vn 4095, vy 6, vt), (14, vy 6, vi 4096, vt), (13, vy 3, vu 3, vf), (15, vy 3, vu 2, vt)] [(4, vy 7, vy 8)]) Tryd.prog (valOrc (fun _ => false) (tabG t) (ansT [(8, [va [vy 0,vy 1]], va [vi 2,vi 2]), (14, [], vt)])) 1000000 (.call 4 [va [vy 0,vy 1], vy 2, vy 3] (tabG t))) = true := by kernel_rfl
theorem p4_2_2_2_0 (t : Nat → TypeId) (a b i e : Int) (h_a : 0 ≤ a ∧ a ≤ 255) (h_b : 0 ≤ b ∧ b ≤ 255) (h_i : 0 ≤ i ∧ i ≤ 15) (h_e : 3 ≤ e ∧ e ≤ 255) (hw : 1 + a % 5 = 2) (hh : 1 + b % 5 = 2)  : Known Tryd.prog (tabG t) 4 [.agg ⟨[.int .u8 a,.int .u8 b]⟩, .int .i64 i, .int .u8 e] (.bool true) := by
  have h1_a := h_a.1
  have h2_a := h_a.2
  have h1_b := h_b.1
  have h2_b := h_b.2
  have h1_i := h_i.1
  have h2_i := h_i.2
  have h1_e := h_e.1
  have h2_e := h_e.2
  have w8 : (wrapF .u8 (i % 4)) = (i % 4) := wid_u8 (n := (i % 4)) (by omega) (by omega)
  exact path_calls (ρ := ofInts [(.u8, a), (.u8, b), (.i64, i), (.u8, e), (.i64, (i / 4)), (.i64, ((i / 4) % 2)), (.i64, ((i / 4) / 2)), (.i64, (i % 4)), (.u8, (wrapF .u8 (i % 4)))]) (tabs_G t) (size_V t) (floor_V t) (ofInts_plain _) (bt := [(13, vy 2, vi 0, vf), (16, vy 2, vi 16, vf), (3, vy 2, vi 4, vy 4), (13, vy 4, vi 0, vf), (4, vy 4, vi 2, vy 5), (3, vy 4, vi 2, vy 6), (4, vy 2, vi 4, vy 7), (16, vy 8, vu 4, vf), (14, vn 4095, vy 5, vt), (14, vy 5, vi 4096, vt), (14, vn 4095, vy 6, vt), (14, vy 6, vi 4096, vt), (13, vy 3, vu 3, vf), (15, vy 3, vu 2, vt)]) (ct := [(4, vy 7, vy 8)]) ⟨bh_lss rfl rfl rfl rfl (show ltI i 0 = false from lt_ff (by omega)), bh_geqF rfl rfl rfl rfl (show ltI i 16 = true from lt_tt (by omega)), bh_quo (a := i) (b := 4) rfl rfl rfl rfl rfl (by omega) (by show _ < (9223372036854775808 : Int); omega) (by omega) rfl, bh_lss rfl rfl rfl rfl (show ltI (i / 4) 0 = false from lt_ff (by omega)), bh_rem (a := (i / 4)) (b := 2) rfl rfl rfl rfl rfl (by omega) (by omega) rfl, bh_quo (a := (i / 4)) (b := 2) rfl rfl rfl rfl rfl (by omega) (by show _ < (9223372036854775808 : Int); omega) (by omega) rfl, bh_rem (a := i) (b := 4) rfl rfl rfl rfl rfl (by omega) (by omega) rfl, bh_geqF rfl rfl rfl rfl (show ltI (wrapF .u8 (i % 4)) 4 = true from lt_tt (by omega)), bh_leqT rfl rfl rfl rfl (show ltI ((i / 4) % 2) (-4096) = false from lt_ff (by omega)), bh_leqT rfl rfl rfl rfl (show ltI 4096 ((i / 4) % 2) = false from lt_ff (by omega)), bh_leqT rfl rfl rfl rfl (show ltI ((i / 4) / 2) (-4096) = false from lt_ff (by omega)), bh_leqT rfl rfl rfl rfl (show ltI 4096 ((i / 4) / 2) = false from lt_ff (by omega)), bh_lss rfl rfl rfl rfl (show ltI e 3 = false from lt_ff (by omega)), bh_gtr rfl rfl rfl rfl (show ltI 2 e = true from lt_tt (by omega)), trivial⟩ ⟨ch_conv rfl rfl rfl rfl rfl, trivial⟩ (el := [(8, [va [vy 0,vy 1]], va [vi 2,vi 2]), (14, [], vt)]) ⟨⟨rfl, rfl, of_cls t a b 2 2 h_a h_b hw hh⟩, ⟨rfl, rfl, k14 t⟩, trivial⟩ (args := [va [vy 0,vy 1], vy 2, vy 3]) (v := vt) rfl rfl (by kernel_rfl) (r4_2_2_2_0 t)
theorem o4_2_2_0 (t : Nat → TypeId) (a b i e : Int) (h_a : 0 ≤ a ∧ a ≤ 255) (h_b : 0 ≤ b ∧ b ≤ 255) (h_i : -9223372036854775808 ≤ i ∧ i ≤ -1) (h_e : 0 ≤ e ∧ e ≤ 255) (hw : 1 + a % 5 = 2) (hh : 1 + b % 5 = 2) : Known Tryd.prog (tabG t) 4 [.agg ⟨[.int .u8 a, .int .u8 b]⟩, .int .i64 i, .int .u8 e] (.bool true) := by
  exact p4_2_2_0_0 t a b i e h_a h_b h_i h_e hw hh 
theorem o4_2_2_1 (t : Nat → TypeId) (a b i e : Int) (h_a : 0 ≤ a ∧ a ≤ 255) (h_b : 0 ≤ b ∧ b ≤ 255) (h_i : 16 ≤ i ∧ i ≤ 9223372036854775807) (h_e : 0 ≤ e ∧ e ≤ 255) (hw : 1 + a % 5 = 2) (hh : 1 + b % 5 = 2) : Known Tryd.prog (tabG t) 4 [.agg ⟨[.int .u8 a, .int .u8 b]⟩, .int .i64 i, .int .u8 e] (.bool true) := by
  exact p4_2_2_1_0 t a b i e h_a h_b h_i h_e hw hh 
theorem o4_2_2_2 (t : Nat → TypeId) (a b i e : Int) (h_a : 0 ≤ a ∧ a ≤ 255) (h_b : 0 ≤ b ∧ b ≤ 255) (h_i : 0 ≤ i ∧ i ≤ 15) (h_e : 3 ≤ e ∧ e ≤ 255) (hw : 1 + a % 5 = 2) (hh : 1 + b % 5 = 2) : Known Tryd.prog (tabG t) 4 [.agg ⟨[.int .u8 a, .int .u8 b]⟩, .int .i64 i, .int .u8 e] (.bool true) := by
  exact p4_2_2_2_0 t a b i e h_a h_b h_i h_e hw hh 

theorem r4_2_3_0_0 (t : Nat → TypeId) : isVal (vt) (@run (tabPrims [(13, vy 2, vi 0, vt)] []) Tryd.prog (valOrc (fun _ => false) (tabG t) (ansT [(8, [va [vy 0,vy 1]], va [vi 2,vi 3]), (14, [], vt)])) 1000000 (.call 4 [va [vy 0,vy 1], vy 2, vy 3] (tabG t))) = true := by kernel_rfl
theorem p4_2_3_0_0 (t : Nat → TypeId) (a b i e : Int) (h_a : 0 ≤ a ∧ a ≤ 255) (h_b : 0 ≤ b ∧ b ≤ 255) (h_i : -9223372036854775808 ≤ i ∧ i ≤ -1) (h_e : 0 ≤ e ∧ e ≤ 255) (hw : 1 + a % 5 = 2) (hh : 1 + b % 5 = 3)  : Known Tryd.prog (tabG t) 4 [.agg ⟨[.int .u8 a,.int .u8 b]⟩, .int .i64 i, .int .u8 e] (.bool true) := by
  have h1_a := h_a.1
  have h2_a := h_a.2
  have h1_b := h_b.1
  have h2_b := h_b.2
  have h1_i := h_i.1
  have h2_i := h_i.2
  have h1_e := h_e.1
  have h2_e := h_e.2
  exact path_calls (ρ := ofInts [(.u8, a), (.u8, b), (.i64, i), (.u8, e)]) (tabs_G t) (size_V t) (floor_V t) (ofInts_plain _) (bt := [(13, vy 2, vi 0, vt)]) (ct := []) ⟨bh_lss rfl rfl rfl rfl (show ltI i 0 = true from lt_tt (by omega)), trivial⟩ trivial (el := [(8, [va [vy 0,vy 1]], va [vi 2,vi 3]), (14, [], vt)]) ⟨⟨rfl, rfl, of_cls t a b 2 3 h_a h_b hw hh⟩, ⟨rfl, rfl, k14 t⟩, trivial⟩ (args := [va [vy 0,vy 1], vy 2, vy 3]) (v := vt) rfl rfl (by kernel_rfl) (r4_2_3_0_0 t)

theorem r4_2_3_1_0 (t : Nat → TypeId) : isVal (vt) (@run (tabPrims [(13, vy 2, vi 0, vf), (16, vy 2, vi 24, vt)] []) Tryd.prog (valOrc (fun _ => false) (tabG t) (ansT [(8, [va [vy 0,vy 1]], va [vi 2,vi 3]), (14, [], vt)])) 1000000 (.call 4 [va [vy 0,vy 1], vy 2, vy 3] (tabG t))) = true := by kernel_rfl
theorem p4_2_3_1_0 (t : Nat → TypeId) (a b i e : Int) (h_a : 0 ≤ a ∧ a ≤ 255) (h_b : 0 ≤ b ∧ b ≤ 255) (h_i : 24 ≤ i ∧ i ≤ 9223372036854775807) (h_e : 0 ≤ e ∧ e ≤ 255) (hw : 1 + a % 5 = 2) (hh : 1 + b % 5 = 3)  : Known Tryd.prog (tabG t) 4 [.agg ⟨[.int .u8 a,.int .u8 b]⟩, .int .i64 i, .int .u8 e] (.bool true) := by
  have h1_a := h_a.1
  have h2_a := h_a.2
  have h1_b := h_b.1
  have h2_b := h_b.2
  have h1_i := h_i.1
  have h2_i := h_i.2
  have h1_e := h_e.1
  have h2_e := h_e.2
  exact path_calls (ρ := ofInts [(.u8, a), (.u8, b), (.i64, i), (.u8, e)]) (tabs_G t) (size_V t) (floor_V t) (ofInts_plain _) (bt := [(13, vy 2, vi 0, vf), (16, vy 2, vi 24, vt)]) (ct := []) ⟨bh_lss rfl rfl rfl rfl (show ltI i 0 = false from lt_ff (by omega)), bh_geqT rfl rfl rfl rfl (show ltI i 24 = false from lt_ff (by omega)), trivial⟩ trivial (el := [(8, [va [vy 0,vy 1]], va [vi 2,vi 3]), (14, [], vt)]) ⟨⟨rfl, rfl, of_cls t a b 2 3 h_a h_b hw hh⟩, ⟨rfl, rfl, k14 t⟩, trivial⟩ (args := [va [vy 0,vy 1], vy 2, vy 3]) (v := vt) rfl rfl (by kernel_rfl) (r4_2_3_1_0 t)

theorem r4_2_3_2_0 (t : Nat → TypeId) : isVal (vt) (@run (tabPrims [(13, vy 2, vi 0, vf), (16, vy 2, vi 24, vf), (3, vy 2, vi 4, vy 4), (13, vy 4, vi 0, vf), (4, vy 4, vi 2, vy 5), (3, vy 4, vi 2, vy 6), (4, vy 2, vi 4, vy 7), (16, vy 8, vu 4, vf), (14, vn 4095, vy 5, vt), (14, vy 5, vi 4096, vt), (14, vn 4095, vy 6, vt), (14, vy 6, vi 4096, vt), (13, vy 3, vu 3, vf), (15, vy 3, vu 2, vt)] [(4, vy 7, vy 8)]) Tryd.prog (valOrc (fun _ => false) (tabG t) (ansT [(8, [va [vy 0,vy 1]], va [vi 2,vi 3]), (14, [], vt)])) 1000000 (.call 4 [va [vy 0,vy 1], vy 2, vy 3] (tabG t))) = true := by kernel_rfl
theorem p4_2_3_2_0 (t : Nat → TypeId) (a b i e : Int) (h_a : 0 ≤ a ∧ a ≤ 255) (h_b : 0 ≤ b ∧ b ≤ 255) (h_i : 0 ≤ i ∧ i ≤ 23) (h_e : 3 ≤ e ∧ e ≤ 255) (hw : 1 + a % 5 = 2) (hh : 1 + b % 5 = 3)  : Known Tryd.prog (tabG t) 4 [.agg ⟨[.int .u8 a,.int .u8 b]⟩, .int .i64 i, .int .u8 e] (.bool true) := by
  have h1_a := h_a.1
  have h2_a := h_a.2
  have h1_b := h_b.1
  have h2_b := h_b.2
  have h1_i := h_i.1
  have h2_i := h_i.2
  have h1_e := h_e.1
  have h2_e := h_e.2
  have w8 : (wrapF .u8 (i % 4)) = (i % 4) := wid_u8 (n := (i % 4)) (by omega) (by omega)
  exact path_calls (ρ := ofInts [(.u8, a), (.u8, b), (.i64, i), (.u8, e), (.i64, (i / 4)), (.i64, ((i / 4) % 2)), (.i64, ((i / 4) / 2)), (.i64, (i % 4)), (.u8, (wrapF .u8 (i % 4)))]) (tabs_G t) (size_V t) (floor_V t) (ofInts_plain _) (bt := [(13, vy 2, vi 0, vf), (16, vy 2, vi 24, vf), (3, vy 2, vi 4, vy 4), (13, vy 4, vi 0, vf), (4, vy 4, vi 2, vy 5), (3, vy 4, vi 2, vy 6), (4, vy 2, vi 4, vy 7), (16, vy 8, vu 4, vf), (14, vn 4095, vy 5, vt), (14, vy 5, vi 4096, vt), (14, vn 4095, vy 6, vt), (14, vy 6, vi 4096, vt), (13, vy 3, vu 3, vf), (15, vy 3, vu 2, vt)]) (ct := [(4, vy 7, vy 8)]) ⟨bh_lss rfl rfl rfl rfl (show ltI i 0 = false from lt_ff (by omega)), bh_geqF rfl rfl rfl rfl (show ltI i 24 = true from lt_tt (by omega)), bh_quo (a := i) (b := 4) rfl rfl rfl rfl rfl (by omega) (by show _ < (9223372036854775808 : Int); omega) (by omega) rfl, bh_lss rfl rfl rfl rfl (show ltI (i / 4) 0 = false from lt_ff (by omega)), bh_rem (a := (i / 4)) (b := 2) rfl rfl rfl rfl rfl (by omega) (by omega) rfl, bh_quo (a := (i / 4)) (b := 2) rfl rfl rfl rfl rfl (by omega) (by show _ < (9223372036854775808 : Int); omega) (by omega) rfl, bh_rem (a := i) (b := 4) rfl rfl rfl rfl rfl (by omega) (by omega) rfl, bh_geqF rfl rfl rfl rfl (show ltI (wrapF .u8 (i % 4)) 4 = true from lt_tt (by omega)), bh_leqT rfl rfl rfl rfl (show ltI ((i / 4) % 2) (-4096) = false from lt_ff (by omega)), bh_leqT rfl rfl rfl rfl (show ltI 4096 ((i / 4) % 2) = false from lt_ff (by omega)), bh_leqT rfl rfl rfl rfl (show ltI ((i / 4) / 2) (-4096) = false from lt_ff (by omega)), bh_leqT rfl rfl rfl rfl (show ltI 4096 ((i / 4) / 2) = false from lt_ff (by omega)), bh_lss rfl rfl rfl rfl (show ltI e 3 = false from lt_ff (by omega)), bh_gtr rfl rfl rfl rfl (show ltI 2 e = true from lt_tt (by omega)), trivial⟩ ⟨ch_conv rfl rfl rfl rfl rfl, trivial⟩ (el := [(8, [va [vy 0,vy 1]], va [vi 2,vi 3]), (14, [], vt)]) ⟨⟨rfl, rfl, of_cls t a b 2 3 h_a h_b hw hh⟩, ⟨rfl, rfl, k14 t⟩, trivial⟩ (args := [va [vy 0,vy 1], vy 2, vy 3]) (v := vt) rfl rfl (by kernel_rfl) (r4_2_3_2_0 t)
theorem o4_2_3_0 (t : Nat → TypeId) (a b i e : Int) (h_a : 0 ≤ a ∧ a ≤ 255) (h_b : 0 ≤ b ∧ b ≤ 255) (h_i : -9223372036854775808 ≤ i ∧ i ≤ -1) (h_e : 0 ≤ e ∧ e ≤ 255) (hw : 1 + a % 5 = 2) (hh : 1 + b % 5 = 3) : Known Tryd.prog (tabG t) 4 [.agg ⟨[.int .u8 a, .int .u8 b]⟩, .int .i64 i, .int .u8 e] (.bool true) := by
  exact p4_2_3_0_0 t a b i e h_a h_b h_i h_e hw hh 
theorem o4_2_3_1 (t : Nat → TypeId) (a b i e : Int) (h_a : 0 ≤ a ∧ a ≤ 255) (h_b : 0 ≤ b ∧ b ≤ 255) (h_i : 24 ≤ i ∧ i ≤ 9223372036854775807) (h_e : 0 ≤ e ∧ e ≤ 255) (hw : 1 + a % 5 = 2) (hh : 1 + b % 5 = 3) : Known Tryd.prog (tabG t) 4 [.agg ⟨[.int .u8 a, .int .u8 b]⟩, .int .i64 i, .int .u8 e] (.bool true) := by
  exact p4_2_3_1_0 t a b i e h_a h_b h_i h_e hw hh 
theorem o4_2_3_2 (t : Nat → TypeId) (a b i e : Int) (h_a : 0 ≤ a ∧ a ≤ 255) (h_b : 0 ≤ b ∧ b ≤ 255) (h_i : 0 ≤ i ∧ i ≤ 23) (h_e : 3 ≤ e ∧ e ≤ 255) (hw : 1 + a % 5 = 2) (hh : 1 + b % 5 = 3) : Known Tryd.prog (tabG t) 4 [.agg ⟨[.int .u8 a, .int .u8 b]⟩, .int .i64 i, .int .u8 e] (.bool true) := by
  exact p4_2_3_2_0 t a b i e h_a h_b h_i h_e hw hh 

theorem r4_2_4_0_0 (t : Nat → TypeId) : isVal (vt) (@run (tabPrims [(13, vy 2, vi 0, vt)] []) Tryd.prog (valOrc (fun _ => false) (tabG t) (ansT [(8, [va [vy 0,vy 1]], va [vi 2,vi 4]), (14, [], vt)])) 1000000 (.call 4 [va [vy 0,vy 1], vy 2, vy 3] (tabG t))) = true := by kernel_rfl
theorem p4_2_4_0_0 (t : Nat → TypeId) (a b i e : Int) (h_a : 0 ≤ a ∧ a ≤ 255) (h_b : 0 ≤ b ∧ b ≤ 255) (h_i : -9223372036854775808 ≤ i ∧ i ≤ -1) (h_e : 0 ≤ e ∧ e ≤ 255) (hw : 1 + a % 5 = 2) (hh : 1 + b % 5 = 4)  : Known Tryd.prog (tabG t) 4 [.agg ⟨[.int .u8 a,.int .u8 b]⟩, .int .i64 i, .int .u8 e] (.bool true) := by
  have h1_a := h_a.1
  have h2_a := h_a.2
  have h1_b := h_b.1
  have h2_b := h_b.2
  have h1_i := h_i.1
  have h2_i := h_i.2
  have h1_e := h_e.1
  have h2_e := h_e.2
  exact path_calls (ρ := ofInts [(.u8, a), (.u8, b), (.i64, i), (.u8, e)]) (tabs_G t) (size_V t) (floor_V t) (ofInts_plain _) (bt := [(13, vy 2, vi 0, vt)]) (ct := []) ⟨bh_lss rfl rfl rfl rfl (show ltI i 0 = true from lt_tt (by omega)), trivial⟩ trivial (el := [(8, [va [vy 0,vy 1]], va [vi 2,vi 4]), (14, [], vt)]) ⟨⟨rfl, rfl, of_cls t a b 2 4 h_a h_b hw hh⟩, ⟨rfl, rfl, k14 t⟩, trivial⟩ (args := [va [vy 0,vy 1], vy 2, vy 3]) (v := vt) rfl rfl (by kernel_rfl) (r4_2_4_0_0 t)

theorem r4_2_4_1_0 (t : Nat → TypeId) : isVal (vt) (@run (tabPrims [(13, vy 2, vi 0, vf), (16, vy 2, vi 32, vt)] []) Tryd.prog (valOrc (fun _ => false) (tabG t) (ansT [(8, [va [vy 0,vy 1]], va [vi 2,vi 4]), (14, [], vt)])) 1000000 (.call 4 [va [vy 0,vy 1], vy 2, vy 3] (tabG t))) = true := by kernel_rfl
theorem p4_2_4_1_0 (t : Nat → TypeId) (a b i e : Int) (h_a : 0 ≤ a ∧ a ≤ 255) (h_b : 0 ≤ b ∧ b ≤ 255) (h_i : 32 ≤ i ∧ i ≤ 9223372036854775807) (h_e : 0 ≤ e ∧ e ≤ 255) (hw : 1 + a % 5 = 2) (hh : 1 + b % 5 = 4)  : Known Tryd.prog (tabG t) 4 [.agg ⟨[.int .u8 a,.int .u8 b]⟩, .int .i64 i, .int .u8 e] (.bool true) := by
  have h1_a := h_a.1
  have h2_a := h_a.2
  have h1_b := h_b.1
  have h2_b := h_b.2
  have h1_i := h_i.1
  have h2_i := h_i.2
  have h1_e := h_e.1
  have h2_e := h_e.2
  exact path_calls (ρ := ofInts [(.u8, a), (.u8, b), (.i64, i), (.u8, e)]) (tabs_G t) (size_V t) (floor_V t) (ofInts_plain _) (bt := [(13, vy 2, vi 0, vf), (16, vy 2, vi 32, vt)]) (ct := []) ⟨bh_lss rfl rfl rfl rfl (show ltI i 0 = false from lt_ff (by omega)), bh_geqT rfl rfl rfl rfl (show ltI i 32 = false from lt_ff (by omega)), trivial⟩ trivial (el := [(8, [va [vy 0,vy 1]], va [vi 2,vi 4]), (14, [], vt)]) ⟨⟨rfl, rfl, of_cls t a b 2 4 h_a h_b hw hh⟩, ⟨rfl, rfl, k14 t⟩, trivial⟩ (args := [va [vy 0,vy 1], vy 2, vy 3]) (v := vt) rfl rfl (by kernel_rfl) (r4_2_4_1_0 t)

theorem r4_2_4_2_0 (t : Nat → TypeId) : isVal (vt) (@run (tabPrims [(13, vy 2, vi 0, vf), (16, vy 2, vi 32, vf), (3, vy 2, vi 4, vy 4), (13, vy 4, vi 0, vf), (4, vy 4, vi 2, vy 5), (3, vy 4, vi 2, vy 6), (4, vy 2, vi 4, vy 7), (16, vy 8, vu 4, vf), (14, vn 4095, vy 5, vt), (14, vy 5, vi 4096, vt), (14, vn 4095, vy 6, vt), (14, vy 6, vi 4096, vt), (13, vy 3, vu 3, vf), (15, vy 3, vu 2, vt)] [(4, vy 7, vy 8)]) Tryd.prog (valOrc (fun _ => false) (tabG t) (ansT [(8, [va [vy 0,vy 1]], va [vi 2,vi 4]), (14, [], vt)])) 1000000 (.call 4 [va [vy 0,vy 1], vy 2, vy 3] (tabG t))) = true := by kernel_rfl
theorem p4_2_4_2_0 (t : Nat → TypeId) (a b i e : Int) (h_a : 0 ≤ a ∧ a ≤ 255) (h_b : 0 ≤ b ∧ b ≤ 255) (h_i : 0 ≤ i ∧ i ≤ 31) (h_e : 3 ≤ e ∧ e ≤ 255) (hw : 1 + a % 5 = 2) (hh : 1 + b % 5 = 4)  : Known Tryd.prog (tabG t) 4 [.agg ⟨[.int .u8 a,.int .u8 b]⟩, .int .i64 i, .int .u8 e] (.bool true) := by
  have h1_a := h_a.1
  have h2_a := h_a.2
  have h1_b := h_b.1
  have h2_b := h_b.2
  have h1_i := h_i.1
  have h2_i := h_i.2
  have h1_e := h_e.1
  have h2_e := h_e.2
  have w8 : (wrapF .u8 (i % 4)) = (i % 4) := wid_u8 (n := (i % 4)) (by omega) (by omega)
  exact path_calls (ρ := ofInts [(.u8, a), (.u8, b), (.i64, i), (.u8, e), (.i64, (i / 4)), (.i64, ((i / 4) % 2)), (.i64, ((i / 4) / 2)), (.i64, (i % 4)), (.u8, (wrapF .u8 (i % 4)))]) (tabs_G t) (size_V t) (floor_V t) (ofInts_plain _) (bt := [(13, vy 2, vi 0, vf), (16, vy 2, vi 32, vf), (3, vy 2, vi 4, vy 4), (13, vy 4, vi 0, vf), (4, vy 4, vi 2, vy 5), (3, vy 4, vi 2, vy 6), (4, vy 2, vi 4, vy 7), (16, vy 8, vu 4, vf), (14, vn 4095, vy 5, vt), (14, vy 5, vi 4096, vt), (14, vn 4095, vy 6, vt), (14, vy 6, vi 4096, vt), (13, vy 3, vu 3, vf), (15, vy 3, vu 2, vt)]) (ct := [(4, vy 7, vy 8)]) ⟨bh_lss rfl rfl rfl rfl (show ltI i 0 = false from lt_ff (by omega)), bh_geqF rfl rfl rfl rfl (show ltI i 32 = true from lt_tt (by omega)), bh_quo (a := i) (b := 4) rfl rfl rfl rfl rfl (by omega) (by show _ < (9223372036854775808 : Int); omega) (by omega) rfl, bh_lss rfl rfl rfl rfl (show ltI (i / 4) 0 = false from lt_ff (by omega)), bh_rem (a := (i / 4)) (b := 2) rfl rfl rfl rfl rfl (by omega) (by omega) rfl, bh_quo (a := (i / 4)) (b := 2) rfl rfl rfl rfl rfl (by omega) (by show _ < (9223372036854775808 : Int); omega) (by omega) rfl, bh_rem (a := i) (b := 4) rfl rfl rfl rfl rfl (by omega) (by omega) rfl, bh_geqF rfl rfl rfl rfl (show ltI (wrapF .u8 (i % 4)) 4 = true from lt_tt (by omega)), bh_leqT rfl rfl rfl rfl (show ltI ((i / 4) % 2) (-4096) = false from lt_ff (by omega)), bh_leqT rfl rfl rfl rfl (show ltI 4096 ((i / 4) % 2) = false from lt_ff (by omega)), bh_leqT rfl rfl rfl rfl (show ltI ((i / 4) / 2) (-4096) = false from lt_ff (by omega)), bh_leqT rfl rfl rfl rfl (show ltI 4096 ((i / 4) / 2) = false from lt_ff (by omega)), bh_lss rfl rfl rfl rfl (show ltI e 3 = false from lt_ff (by omega)), bh_gtr rfl rfl rfl rfl (show ltI 2 e = true from lt_tt (by omega)), trivial⟩ ⟨ch_conv rfl rfl rfl rfl rfl, trivial⟩ (el := [(8, [va [vy 0,vy 1]], va [vi 2,vi 4]), (14, [], vt)]) ⟨⟨rfl, rfl, of_cls t a b 2 4 h_a h_b hw hh⟩, ⟨rfl, rfl, k14 t⟩, trivial⟩ (args := [va [vy 0,vy 1], vy 2, vy 3]) (v := vt) rfl rfl (by kernel_rfl) (r4_2_4_2_0 t)
theorem o4_2_4_0 (t : Nat → TypeId) (a b i e : Int) (h_a : 0 ≤ a ∧ a ≤ 255) (h_b : 0 ≤ b ∧ b ≤ 255) (h_i : -9223372036854775808 ≤ i ∧ i ≤ -1) (h_e : 0 ≤ e ∧ e ≤ 255) (hw : 1 + a % 5 = 2) (hh : 1 + b % 5 = 4) : Known Tryd.prog (tabG t) 4 [.agg ⟨[.int .u8 a, .int .u8 b]⟩, .int .i64 i, .int .u8 e] (.bool true) := by
  exact p4_2_4_0_0 t a b i e h_a h_b h_i h_e hw hh 
theorem o4_2_4_1 (t : Nat → TypeId) (a b i e : Int) (h_a : 0 ≤ a ∧ a ≤ 255) (h_b : 0 ≤ b ∧ b ≤ 255) (h_i : 32 ≤ i ∧ i ≤ 9223372036854775807) (h_e : 0 ≤ e ∧ e ≤ 255) (hw : 1 + a % 5 = 2) (hh : 1 + b % 5 = 4) : Known Tryd.prog (tabG t) 4 [.agg ⟨[.int .u8 a, .int .u8 b]⟩, .int .i64 i, .int .u8 e] (.bool true) := by
  exact p4_2_4_1_0 t a b i e h_a h_b h_i h_e hw hh 
theorem o4_2_4_2 (t : Nat → TypeId) (a b i e : Int) (h_a : 0 ≤ a ∧ a ≤ 255) (h_b : 0 ≤ b ∧ b ≤ 255) (h_i : 0 ≤ i ∧ i ≤ 31) (h_e : 3 ≤ e ∧ e ≤ 255) (hw : 1 + a % 5 = 2) (hh : 1 + b % 5 = 4) : Known Tryd.prog (tabG t) 4 [.agg ⟨[.int .u8 a, .int .u8 b]⟩, .int .i64 i, .int .u8 e] (.bool true) := by
  exact p4_2_4_2_0 t a b i e h_a h_b h_i h_e hw hh 

end Go.Proofs.YtaacmbmnlhoghaaDoor
