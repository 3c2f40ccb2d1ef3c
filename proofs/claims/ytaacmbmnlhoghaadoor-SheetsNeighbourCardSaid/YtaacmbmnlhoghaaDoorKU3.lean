/-
  Says: SheetsNeighbour outside of sheets.
-/
import Derived.Test.YtaacmbmnlhoghaaDoorKL0
import Derived.KernelRfl
set_option maxRecDepth 1000000
set_option linter.unusedVariables false
set_option linter.unusedSimpArgs false
namespace Go.Proofs.YtaacmbmnlhoghaaDoor
open Go Go.Vx

theorem r4_4_4_0_0 (t : Nat → TypeId) : isVal (vt) (@run (tabPrims [(13, vy 2, vi 0, vt)] []) Tryd.prog (valOrc (fun _ => false) (tabG t) (ansT [(8, [va [vy 0,vy 1]], va [vi 4,vi 4]), (14, [], vt)])) 1000000 (.call 4 [va [vy 0,vy 1], vy 2, vy 3] (tabG t))) = true := by kernel_rfl
theorem p4_4_4_0_0 (t : Nat → TypeId) (a b i e : Int) (h_a : 0 ≤ a ∧ a ≤ 255) (h_b : 0 ≤ b ∧ b ≤ 255) (h_i : -9223372036854775808 ≤ i ∧ i ≤ -1) (h_e : 0 ≤ e ∧ e ≤ 255) (hw : 1 + a % 5 = 4) (hh : 1 + b % 5 = 4)  : Known Tryd.prog (tabG t) 4 [.agg ⟨[.int .u8 a,.int .u8 b]⟩, .int .i64 i, .int .u8 e] (.bool true) := by
  have h1_a := h_a.1
  have h2_a := h_a.2
  have h1_b := h_b.1
  have h2_b := h_b.2
  have h1_i := h_i.1
  have h2_i := h_i.2
  have h1_e := h_e.1
  have h2_e := h_e.2
  exact path_calls (ρ := ofInts [(.u8, a), (.u8, b), (.i64, i), (.u8, e)]) (tabs_G t) (size_V t) (floor_V t) (ofInts_plain _) (bt := [(13, vy 2, vi 0, vt)]) (ct := []) ⟨bh_lss rfl rfl rfl rfl (show ltI i 0 = true from lt_tt (by omega)), trivial⟩ trivial (el := [(8, [va [vy 0,vy 1]], va [vi 4,vi 4]), (14, [], vt)]) ⟨⟨rfl, rfl, of_cls t a b 4 4 h_a h_b hw hh⟩, ⟨rfl, rfl, k14 t⟩, trivial⟩ (args := [va [vy 0,vy 1], vy 2, vy 3]) (v := vt) rfl rfl (by kernel_rfl) (r4_4_4_0_0 t)

theorem r4_4_4_1_0 (t : Nat → TypeId) : isVal (vt) (@run (tabPrims [(13, vy 2, vi 0, vf), (16, vy 2, vi 64, vt)] []) Tryd.prog (valOrc (fun _ => false) (tabG t) (ansT [(8, [va [vy 0,vy 1]], va [vi 4,vi 4]), (14, [], vt)])) 1000000 (.call 4 [va [vy 0,vy 1], vy 2, vy 3] (tabG t))) = true := by kernel_rfl
theorem p4_4_4_1_0 (t : Nat → TypeId) (a b i e : Int) (h_a : 0 ≤ a ∧ a ≤ 255) (h_b : 0 ≤ b ∧ b ≤ 255) (h_i : 64 ≤ i ∧ i ≤ 9223372036854775807) (h_e : 0 ≤ e ∧ e ≤ 255) (hw : 1 + a % 5 = 4) (hh : 1 + b % 5 = 4)  : Known Tryd.prog (tabG t) 4 [.agg ⟨[.int .u8 a,.int .u8 b]⟩, .int .i64 i, .int .u8 e] (.bool true) := by
  have h1_a := h_a.1
  have h2_a := h_a.2
  have h1_b := h_b.1
  have h2_b := h_b.2
  have h1_i := h_i.1
  have h2_i := h_i.2
  have h1_e := h_e.1
  have h2_e := h_e.2
  exact path_calls (ρ := ofInts [(.u8, a), (.u8, b), (.i64, i), (.u8, e)]) (tabs_G t) (size_V t) (floor_V t) (ofInts_plain _) (bt := [(13, vy 2, vi 0, vf), (16, vy 2, vi 64, vt)]) (ct := []) ⟨bh_lss rfl rfl rfl rfl (show ltI i 0 = false from lt_ff (by omega)), bh_geqT rfl rfl rfl rfl (show ltI i 64 = false from lt_ff (by omega)), trivial⟩ trivial (el := [(8, [va [vy 0,vy 1]], va [vi 4,vi 4]), (14, [], vt)]) ⟨⟨rfl, rfl, of_cls t a b 4 4 h_a h_b hw hh⟩, ⟨rfl, rfl, k14 t⟩, trivial⟩ (args := [va [vy 0,vy 1], vy 2, vy 3]) (v := vt) rfl rfl (by kernel_rfl) (r4_4_4_1_0 t)

theorem r4_4_4_2_0 (t : Nat → TypeId) : isVal (vt) (@run (tabPrims [(13, vy 2, vi 0, vf), (16, vy 2, vi 64, vf), (3, vy 2, vi 4, vy 4), (13, vy 4, vi 0, vf), (4, vy 4, vi 4, vy 5), (3, vy 4, vi 4, vy 6), (4, vy 2, vi 4, vy 7), (16, vy 8, vu 4, vf), (14, vn 4095, vy 5, vt), (14, vy 5, vi 4096, vt), (14, vn 4095, vy 6, vt), (14, vy 6, vi 4096, vt), (13, vy 3, vu 3, vf), (15, vy 3, vu 2, vt)] [(4, vy 7, vy 8)]) Tryd.prog (valOrc (fun _ => false) (tabG t) (ansT [(8, [va [vy 0,vy 1]], va [vi 4,vi 4]), (14, [], vt)])) 1000000 (.call 4 [va [vy 0,vy 1], vy 2, vy 3] (tabG t))) = true := by kernel_rfl
theorem p4_4_4_2_0 (t : Nat → TypeId) (a b i e : Int) (h_a : 0 ≤ a ∧ a ≤ 255) (h_b : 0 ≤ b ∧ b ≤ 255) (h_i : 0 ≤ i ∧ i ≤ 63) (h_e : 3 ≤ e ∧ e ≤ 255) (hw : 1 + a % 5 = 4) (hh : 1 + b % 5 = 4)  : Known Tryd.prog (tabG t) 4 [.agg ⟨[.int .u8 a,.int .u8 b]⟩, .int .i64 i, .int .u8 e] (.bool true) := by
  have h1_a := h_a.1
  have h2_a := h_a.2
  have h1_b := h_b.1
  have h2_b := h_b.2
  have h1_i := h_i.1
  have h2_i := h_i.2
  have h1_e := h_e.1
  have h2_e := h_e.2
  have w8 : (wrapF .u8 (i % 4)) = (i % 4) := wid_u8 (n := (i % 4)) (by omega) (by omega)
  exact path_calls (ρ := ofInts [(.u8, a), (.u8, b), (.i64, i), (.u8, e), (.i64, (i / 4)), (.i64, ((i / 4) % 4)), (.i64, ((i / 4) / 4)), (.i64, (i % 4)), (.u8, (wrapF .u8 (i % 4)))]) (tabs_G t) (size_V t) (floor_V t) (ofInts_plain _) (bt := [(13, vy 2, vi 0, vf), (16, vy 2, vi 64, vf), (3, vy 2, vi 4, vy 4), (13, vy 4, vi 0, vf), (4, vy 4, vi 4, vy 5), (3, vy 4, vi 4, vy 6), (4, vy 2, vi 4, vy 7), (16, vy 8, vu 4, vf), (14, vn 4095, vy 5, vt), (14, vy 5, vi 4096, vt), (14, vn 4095, vy 6, vt), (14, vy 6, vi 4096, vt), (13, vy 3, vu 3, vf), (15, vy 3, vu 2, vt)]) (ct := [(4, vy 7, vy 8)]) ⟨bh_lss rfl rfl rfl rfl (show ltI i 0 = false from lt_ff (by omega)), bh_geqF rfl rfl rfl rfl (show ltI i 64 = true from lt_tt (by omega)), bh_quo (a := i) (b := 4) rfl rfl rfl rfl rfl (by omega) (by show _ < (9223372036854775808 : Int); omega) (by omega) rfl, bh_lss rfl rfl rfl rfl (show ltI (i / 4) 0 = false from lt_ff (by omega)), bh_rem (a := (i / 4)) (b := 4) rfl rfl rfl rfl rfl (by omega) (by omega) rfl, bh_quo (a := (i / 4)) (b := 4) rfl rfl rfl rfl rfl (by omega) (by show _ < (9223372036854775808 : Int); omega) (by omega) rfl, bh_rem (a := i) (b := 4) rfl rfl rfl rfl rfl (by omega) (by omega) rfl, bh_geqF rfl rfl rfl rfl (show ltI (wrapF .u8 (i % 4)) 4 = true from lt_tt (by omega)), bh_leqT rfl rfl rfl rfl (show ltI ((i / 4) % 4) (-4096) = false from lt_ff (by omega)), bh_leqT rfl rfl rfl rfl (show ltI 4096 ((i / 4) % 4) = false from lt_ff (by omega)), bh_leqT rfl rfl rfl rfl (show ltI ((i / 4) / 4) (-4096) = false from lt_ff (by omega)), bh_leqT rfl rfl rfl rfl (show ltI 4096 ((i / 4) / 4) = false from lt_ff (by omega)), bh_lss rfl rfl rfl rfl (show ltI e 3 = false from lt_ff (by omega)), bh_gtr rfl rfl rfl rfl (show ltI 2 e = true from lt_tt (by omega)), trivial⟩ ⟨ch_conv rfl rfl rfl rfl rfl, trivial⟩ (el := [(8, [va [vy 0,vy 1]], va [vi 4,vi 4]), (14, [], vt)]) ⟨⟨rfl, rfl, of_cls t a b 4 4 h_a h_b hw hh⟩, ⟨rfl, rfl, k14 t⟩, trivial⟩ (args := [va [vy 0,vy 1], vy 2, vy 3]) (v := vt) rfl rfl (by kernel_rfl) (r4_4_4_2_0 t)
theorem o4_4_4_0 (t : Nat → TypeId) (a b i e : Int) (h_a : 0 ≤ a ∧ a ≤ 255) (h_b : 0 ≤ b ∧ b ≤ 255) (h_i : -9223372036854775808 ≤ i ∧ i ≤ -1) (h_e : 0 ≤ e ∧ e ≤ 255) (hw : 1 + a % 5 = 4) (hh : 1 + b % 5 = 4) : Known Tryd.prog (tabG t) 4 [.agg ⟨[.int .u8 a, .int .u8 b]⟩, .int .i64 i, .int .u8 e] (.bool true) := by
  exact p4_4_4_0_0 t a b i e h_a h_b h_i h_e hw hh 
theorem o4_4_4_1 (t : Nat → TypeId) (a b i e : Int) (h_a : 0 ≤ a ∧ a ≤ 255) (h_b : 0 ≤ b ∧ b ≤ 255) (h_i : 64 ≤ i ∧ i ≤ 9223372036854775807) (h_e : 0 ≤ e ∧ e ≤ 255) (hw : 1 + a % 5 = 4) (hh : 1 + b % 5 = 4) : Known Tryd.prog (tabG t) 4 [.agg ⟨[.int .u8 a, .int .u8 b]⟩, .int .i64 i, .int .u8 e] (.bool true) := by
  exact p4_4_4_1_0 t a b i e h_a h_b h_i h_e hw hh 
theorem o4_4_4_2 (t : Nat → TypeId) (a b i e : Int) (h_a : 0 ≤ a ∧ a ≤ 255) (h_b : 0 ≤ b ∧ b ≤ 255) (h_i : 0 ≤ i ∧ i ≤ 63) (h_e : 3 ≤ e ∧ e ≤ 255) (hw : 1 + a % 5 = 4) (hh : 1 + b % 5 = 4) : Known Tryd.prog (tabG t) 4 [.agg ⟨[.int .u8 a, .int .u8 b]⟩, .int .i64 i, .int .u8 e] (.bool true) := by
  exact p4_4_4_2_0 t a b i e h_a h_b h_i h_e hw hh 

theorem r4_4_5_0_0 (t : Nat → TypeId) : isVal (vt) (@run (tabPrims [(13, vy 2, vi 0, vt)] []) Tryd.prog (valOrc (fun _ => false) (tabG t) (ansT [(8, [va [vy 0,vy 1]], va [vi 4,vi 5]), (14, [], vt)])) 1000000 (.call 4 [va [vy 0,vy 1], vy 2, vy 3] (tabG t))) = true := by kernel_rfl
theorem p4_4_5_0_0 (t : Nat → TypeId) (a b i e : Int) (h_a : 0 ≤ a ∧ a ≤ 255) (h_b : 0 ≤ b ∧ b ≤ 255) (h_i : -9223372036854775808 ≤ i ∧ i ≤ -1) (h_e : 0 ≤ e ∧ e ≤ 255) (hw : 1 + a % 5 = 4) (hh : 1 + b % 5 = 5)  : Known Tryd.prog (tabG t) 4 [.agg ⟨[.int .u8 a,.int .u8 b]⟩, .int .i64 i, .int .u8 e] (.bool true) := by
  have h1_a := h_a.1
  have h2_a := h_a.2
  have h1_b := h_b.1
  have h2_b := h_b.2
  have h1_i := h_i.1
  have h2_i := h_i.2
  have h1_e := h_e.1
  have h2_e := h_e.2
  exact path_calls (ρ := ofInts [(.u8, a), (.u8, b), (.i64, i), (.u8, e)]) (tabs_G t) (size_V t) (floor_V t) (ofInts_plain _) (bt := [(13, vy 2, vi 0, vt)]) (ct := []) ⟨bh_lss rfl rfl rfl rfl (show ltI i 0 = true from lt_tt (by omega)), trivial⟩ trivial (el := [(8, [va [vy 0,vy 1]], va [vi 4,vi 5]), (14, [], vt)]) ⟨⟨rfl, rfl, of_cls t a b 4 5 h_a h_b hw hh⟩, ⟨rfl, rfl, k14 t⟩, trivial⟩ (args := [va [vy 0,vy 1], vy 2, vy 3]) (v := vt) rfl rfl (by kernel_rfl) (r4_4_5_0_0 t)

theorem r4_4_5_1_0 (t : Nat → TypeId) : isVal (vt) (@run (tabPrims [(13, vy 2, vi 0, vf), (16, vy 2, vi 80, vt)] []) Tryd.prog (valOrc (fun _ => false) (tabG t) (ansT [(8, [va [vy 0,vy 1]], va [vi 4,vi 5]), (14, [], vt)])) 1000000 (.call 4 [va [vy 0,vy 1], vy 2, vy 3] (tabG t))) = true := by kernel_rfl
theorem p4_4_5_1_0 (t : Nat → TypeId) (a b i e : Int) (h_a : 0 ≤ a ∧ a ≤ 255) (h_b : 0 ≤ b ∧ b ≤ 255) (h_i : 80 ≤ i ∧ i ≤ 9223372036854775807) (h_e : 0 ≤ e ∧ e ≤ 255) (hw : 1 + a % 5 = 4) (hh : 1 + b % 5 = 5)  : Known Tryd.prog (tabG t) 4 [.agg ⟨[.int .u8 a,.int .u8 b]⟩, .int .i64 i, .int .u8 e] (.bool true) := by
  have h1_a := h_a.1
  have h2_a := h_a.2
  have h1_b := h_b.1
  have h2_b := h_b.2
  have h1_i := h_i.1
  have h2_i := h_i.2
  have h1_e := h_e.1
  have h2_e := h_e.2
  exact path_calls (ρ := ofInts [(.u8, a), (.u8, b), (.i64, i), (.u8, e)]) (tabs_G t) (size_V t) (floor_V t) (ofInts_plain _) (bt := [(13, vy 2, vi 0, vf), (16, vy 2, vi 80, vt)]) (ct := []) ⟨bh_lss rfl rfl rfl rfl (show ltI i 0 = false from lt_ff (by omega)), bh_geqT rfl rfl rfl rfl (show ltI i 80 = false from lt_ff (by omega)), trivial⟩ trivial (el := [(8, [va [vy 0,vy 1]], va [vi 4,vi 5]), (14, [], vt)]) ⟨⟨rfl, rfl, of_cls t a b 4 5 h_a h_b hw hh⟩, ⟨rfl, rfl, k14 t⟩, trivial⟩ (args := [va [vy 0,vy 1], vy 2, vy 3]) (v := vt) rfl rfl (by kernel_rfl) (r4_4_5_1_0 t)

theorem r4_4_5_2_0 (t : Nat → TypeId) : isVal (vt) (@run (tabPrims [(13, vy 2, vi 0, vf), (16, vy 2, vi 80, vf), (3, vy 2, vi 4, vy 4), (13, vy 4, vi 0, vf), (4, vy 4, vi 4, vy 5), (3, vy 4, vi 4, vy 6), (4, vy 2, vi 4, vy 7), (16, vy 8, vu 4, vf), (14, vn 4095, vy 5, vt), (14, vy 5, vi 4096, vt), (14, vn 4095, vy 6, vt), (14, vy 6, vi 4096, vt), (13, vy 3, vu 3, vf), (15, vy 3, vu 2, vt)] [(4, vy 7, vy 8)]) Tryd.prog (valOrc (fun _ => false) (tabG t) (ansT [(8, [va [vy 0,vy 1]], va [vi 4,vi 5]), (14, [], vt)])) 1000000 (.call 4 [va [vy 0,vy 1], vy 2, vy 3] (tabG t))) = true := by kernel_rfl
theorem p4_4_5_2_0 (t : Nat → TypeId) (a b i e : Int) (h_a : 0 ≤ a ∧ a ≤ 255) (h_b : 0 ≤ b ∧ b ≤ 255) (h_i : 0 ≤ i ∧ i ≤ 79) (h_e : 3 ≤ e ∧ e ≤ 255) (hw : 1 + a % 5 = 4) (hh : 1 + b % 5 = 5)  : Known Tryd.prog (tabG t) 4 [.agg ⟨[.int .u8 a,.int .u8 b]⟩, .int .i64 i, .int .u8 e] (.bool true) := by
  have h1_a := h_a.1
  have h2_a := h_a.2
  have h1_b := h_b.1
  have h2_b := h_b.2
  have h1_i := h_i.1
  have h2_i := h_i.2
  have h1_e := h_e.1
  have h2_e := h_e.2
  have w8 : (wrapF .u8 (i % 4)) = (i % 4) := wid_u8 (n := (i % 4)) (by omega) (by omega)
  exact path_calls (ρ := ofInts [(.u8, a), (.u8, b), (.i64, i), (.u8, e), (.i64, (i / 4)), (.i64, ((i / 4) % 4)), (.i64, ((i / 4) / 4)), (.i64, (i % 4)), (.u8, (wrapF .u8 (i % 4)))]) (tabs_G t) (size_V t) (floor_V t) (ofInts_plain _) (bt := [(13, vy 2, vi 0, vf), (16, vy 2, vi 80, vf), (3, vy 2, vi 4, vy 4), (13, vy 4, vi 0, vf), (4, vy 4, vi 4, vy 5), (3, vy 4, vi 4, vy 6), (4, vy 2, vi 4, vy 7), (16, vy 8, vu 4, vf), (14, vn 4095, vy 5, vt), (14, vy 5, vi 4096, vt), (14, vn 4095, vy 6, vt), (14, vy 6, vi 4096, vt), (13, vy 3, vu 3, vf), (15, vy 3, vu 2, vt)]) (ct := [(4, vy 7, vy 8)]) ⟨bh_lss rfl rfl rfl rfl (show ltI i 0 = false from lt_ff (by omega)), bh_geqF rfl rfl rfl rfl (show ltI i 80 = true from lt_tt (by omega)), bh_quo (a := i) (b := 4) rfl rfl rfl rfl rfl (by omega) (by show _ < (9223372036854775808 : Int); omega) (by omega) rfl, bh_lss rfl rfl rfl rfl (show ltI (i / 4) 0 = false from lt_ff (by omega)), bh_rem (a := (i / 4)) (b := 4) rfl rfl rfl rfl rfl (by omega) (by omega) rfl, bh_quo (a := (i / 4)) (b := 4) rfl rfl rfl rfl rfl (by omega) (by show _ < (9223372036854775808 : Int); omega) (by omega) rfl, bh_rem (a := i) (b := 4) rfl rfl rfl rfl rfl (by omega) (by omega) rfl, bh_geqF rfl rfl rfl rfl (show ltI (wrapF .u8 (i % 4)) 4 = true from lt_tt (by omega)), bh_leqT rfl rfl rfl rfl (show ltI ((i / 4) % 4) (-4096) = false from lt_ff (by omega)), bh_leqT rfl rfl rfl rfl (show ltI 4096 ((i / 4) % 4) = false from lt_ff (by omega)), bh_leqT rfl rfl rfl rfl (show ltI ((i / 4) / 4) (-4096) = false from lt_ff (by omega)), bh_leqT rfl rfl rfl rfl (show ltI 4096 ((i / 4) / 4) = false from lt_ff (by omega)), bh_lss rfl rfl rfl rfl (show ltI e 3 = false from lt_ff (by omega)), bh_gtr rfl rfl rfl rfl (show ltI 2 e = true from lt_tt (by omega)), trivial⟩ ⟨ch_conv rfl rfl rfl rfl rfl, trivial⟩ (el := [(8, [va [vy 0,vy 1]], va [vi 4,vi 5]), (14, [], vt)]) ⟨⟨rfl, rfl, of_cls t a b 4 5 h_a h_b hw hh⟩, ⟨rfl, rfl, k14 t⟩, trivial⟩ (args := [va [vy 0,vy 1], vy 2, vy 3]) (v := vt) rfl rfl (by kernel_rfl) (r4_4_5_2_0 t)
theorem o4_4_5_0 (t : Nat → TypeId) (a b i e : Int) (h_a : 0 ≤ a ∧ a ≤ 255) (h_b : 0 ≤ b ∧ b ≤ 255) (h_i : -9223372036854775808 ≤ i ∧ i ≤ -1) (h_e : 0 ≤ e ∧ e ≤ 255) (hw : 1 + a % 5 = 4) (hh : 1 + b % 5 = 5) : Known Tryd.prog (tabG t) 4 [.agg ⟨[.int .u8 a, .int .u8 b]⟩, .int .i64 i, .int .u8 e] (.bool true) := by
  exact p4_4_5_0_0 t a b i e h_a h_b h_i h_e hw hh 
theorem o4_4_5_1 (t : Nat → TypeId) (a b i e : Int) (h_a : 0 ≤ a ∧ a ≤ 255) (h_b : 0 ≤ b ∧ b ≤ 255) (h_i : 80 ≤ i ∧ i ≤ 9223372036854775807) (h_e : 0 ≤ e ∧ e ≤ 255) (hw : 1 + a % 5 = 4) (hh : 1 + b % 5 = 5) : Known Tryd.prog (tabG t) 4 [.agg ⟨[.int .u8 a, .int .u8 b]⟩, .int .i64 i, .int .u8 e] (.bool true) := by
  exact p4_4_5_1_0 t a b i e h_a h_b h_i h_e hw hh 
theorem o4_4_5_2 (t : Nat → TypeId) (a b i e : Int) (h_a : 0 ≤ a ∧ a ≤ 255) (h_b : 0 ≤ b ∧ b ≤ 255) (h_i : 0 ≤ i ∧ i ≤ 79) (h_e : 3 ≤ e ∧ e ≤ 255) (hw : 1 + a % 5 = 4) (hh : 1 + b % 5 = 5) : Known Tryd.prog (tabG t) 4 [.agg ⟨[.int .u8 a, .int .u8 b]⟩, .int .i64 i, .int .u8 e] (.bool true) := by
  exact p4_4_5_2_0 t a b i e h_a h_b h_i h_e hw hh 

theorem r4_5_1_0_0 (t : Nat → TypeId) : isVal (vt) (@run (tabPrims [(13, vy 2, vi 0, vt)] []) Tryd.prog (valOrc (fun _ => false) (tabG t) (ansT [(8, [va [vy 0,vy 1]], va [vi 5,vi 1]), (14, [], vt)])) 1000000 (.call 4 [va [vy 0,vy 1], vy 2, vy 3] (tabG t))) = true := by kernel_rfl
theorem p4_5_1_0_0 (t : Nat → TypeId) (a b i e : Int) (h_a : 0 ≤ a ∧ a ≤ 255) (h_b : 0 ≤ b ∧ b ≤ 255) (h_i : -9223372036854775808 ≤ i ∧ i ≤ -1) (h_e : 0 ≤ e ∧ e ≤ 255) (hw : 1 + a % 5 = 5) (hh : 1 + b % 5 = 1)  : Known Tryd.prog (tabG t) 4 [.agg ⟨[.int .u8 a,.int .u8 b]⟩, .int .i64 i, .int .u8 e] (.bool true) := by
  have h1_a := h_a.1
  have h2_a := h_a.2
  have h1_b := h_b.1
  have h2_b := h_b.2
  have h1_i := h_i.1
  have h2_i := h_i.2
  have h1_e := h_e.1
  have h2_e := h_e.2
  exact path_calls (ρ := ofInts [(.u8, a), (.u8, b), (.i64, i), (.u8, e)]) (tabs_G t) (size_V t) (floor_V t) (ofInts_plain _) (bt := [(13, vy 2, vi 0, vt)]) (ct := []) ⟨bh_lss rfl rfl rfl rfl (show ltI i 0 = true from lt_tt (by omega)), trivial⟩ trivial (el := [(8, [va [vy 0,vy 1]], va [vi 5,vi 1]), (14, [], vt)]) ⟨⟨rfl, rfl, of_cls t a b 5 1 h_a h_b hw hh⟩, ⟨rfl, rfl, k14 t⟩, trivial⟩ (args := [va [vy 0,vy 1], vy 2, vy 3]) (v := vt) rfl rfl (by kernel_rfl) (r4_5_1_0_0 t)

theorem r4_5_1_1_0 (t : Nat → TypeId) : isVal (vt) (@run (tabPrims [(13, vy 2, vi 0, vf), (16, vy 2, vi 20, vt)] []) Tryd.prog (valOrc (fun _ => false) (tabG t) (ansT [(8, [va [vy 0,vy 1]], va [vi 5,vi 1]), (14, [], vt)])) 1000000 (.call 4 [va [vy 0,vy 1], vy 2, vy 3] (tabG t))) = true := by kernel_rfl
theorem p4_5_1_1_0 (t : Nat → TypeId) (a b i e : Int) (h_a : 0 ≤ a ∧ a ≤ 255) (h_b : 0 ≤ b ∧ b ≤ 255) (h_i : 20 ≤ i ∧ i ≤ 9223372036854775807) (h_e : 0 ≤ e ∧ e ≤ 255) (hw : 1 + a % 5 = 5) (hh : 1 + b % 5 = 1)  : Known Tryd.prog (tabG t) 4 [.agg ⟨[.int .u8 a,.int .u8 b]⟩, .int .i64 i, .int .u8 e] (.bool true) := by
  have h1_a := h_a.1
  have h2_a := h_a.2
  have h1_b := h_b.1
  have h2_b := h_b.2
  have h1_i := h_i.1
  have h2_i := h_i.2
  have h1_e := h_e.1
  have h2_e := h_e.2
  exact path_calls (ρ := ofInts [(.u8, a), (.u8, b), (.i64, i), (.u8, e)]) (tabs_G t) (size_V t) (floor_V t) (ofInts_plain _) (bt := [(13, vy 2, vi 0, vf), (16, vy 2, vi 20, vt)]) (ct := []) ⟨bh_lss rfl rfl rfl rfl (show ltI i 0 = false from lt_ff (by omega)), bh_geqT rfl rfl rfl rfl (show ltI i 20 = false from lt_ff (by omega)), trivial⟩ trivial (el := [(8, [va [vy 0,vy 1]], va [vi 5,vi 1]), (14, [], vt)]) ⟨⟨rfl, rfl, of_cls t a b 5 1 h_a h_b hw hh⟩, ⟨rfl, rfl, k14 t⟩, trivial⟩ (args := [va [vy 0,vy 1], vy 2, vy 3]) (v := vt) rfl rfl (by kernel_rfl) (r4_5_1_1_0 t)

theorem r4_5_1_2_0 (t : Nat → TypeId) : isVal (vt) (@run (tabPrims [(13, vy 2, vi 0, vf), (16, vy 2, vi 20, vf), (3, vy 2, vi 4, vy 4), (13, vy 4, vi 0, vf), (4, vy 4, vi 5, vy 5), (3, vy 4, vi 5, vy 6), (4, vy 2, vi 4, vy 7), (16, vy 8, vu 4, vf), (14, vn 4095, vy 5, vt), (14, vy 5, vi 4096, vt), (14, vn 4095, vy 6, vt), (14, vy 6, vi 4096, vt), (13, vy 3, vu 3, vf), (15, vy 3, vu 2, vt)] [(4, vy 7, vy 8)]) Tryd.prog (valOrc (fun _ => false) (tabG t) (ansT [(8, [va [vy 0,vy 1]], va [vi 5,vi 1]), (14, [], vt)])) 1000000 (.call 4 [va [vy 0,vy 1], vy 2, vy 3] (tabG t))) = true := by kernel_rfl
theorem p4_5_1_2_0 (t : Nat → TypeId) (a b i e : Int) (h_a : 0 ≤ a ∧ a ≤ 255) (h_b : 0 ≤ b ∧ b ≤ 255) (h_i : 0 ≤ i ∧ i ≤ 19) (h_e : 3 ≤ e ∧ e ≤ 255) (hw : 1 + a % 5 = 5) (hh : 1 + b % 5 = 1)  : Known Tryd.prog (tabG t) 4 [.agg ⟨[.int .u8 a,.int .u8 b]⟩, .int .i64 i, .int .u8 e] (.bool true) := by
  have h1_a := h_a.1
  have h2_a := h_a.2
  have h1_b := h_b.1
  have h2_b := h_b.2
  have h1_i := h_i.1
  have h2_i := h_i.2
  have h1_e := h_e.1
  have h2_e := h_e.2
  have w8 : (wrapF .u8 (i % 4)) = (i % 4) := wid_u8 (n := (i % 4)) (by omega) (by omega)
  exact path_calls (ρ := ofInts [(.u8, a), (.u8, b), (.i64, i), (.u8, e), (.i64, (i / 4)), (.i64, ((i / 4) % 5)), (.i64, 0), (.i64, (i % 4)), (.u8, (wrapF .u8 (i % 4)))]) (tabs_G t) (size_V t) (floor_V t) (ofInts_plain _) (bt := [(13, vy 2, vi 0, vf), (16, vy 2, vi 20, vf), (3, vy 2, vi 4, vy 4), (13, vy 4, vi 0, vf), (4, vy 4, vi 5, vy 5), (3, vy 4, vi 5, vy 6), (4, vy 2, vi 4, vy 7), (16, vy 8, vu 4, vf), (14, vn 4095, vy 5, vt), (14, vy 5, vi 4096, vt), (14, vn 4095, vy 6, vt), (14, vy 6, vi 4096, vt), (13, vy 3, vu 3, vf), (15, vy 3, vu 2, vt)]) (ct := [(4, vy 7, vy 8)]) ⟨bh_lss rfl rfl rfl rfl (show ltI i 0 = false from lt_ff (by omega)), bh_geqF rfl rfl rfl rfl (show ltI i 20 = true from lt_tt (by omega)), bh_quo (a := i) (b := 4) rfl rfl rfl rfl rfl (by omega) (by show _ < (9223372036854775808 : Int); omega) (by omega) rfl, bh_lss rfl rfl rfl rfl (show ltI (i / 4) 0 = false from lt_ff (by omega)), bh_rem (a := (i / 4)) (b := 5) rfl rfl rfl rfl rfl (by omega) (by omega) rfl, b6_quo (a := (i / 4)) (b := 5) (c := 0) rfl rfl rfl rfl rfl (by omega) (by omega) (by omega) rfl (by omega), bh_rem (a := i) (b := 4) rfl rfl rfl rfl rfl (by omega) (by omega) rfl, bh_geqF rfl rfl rfl rfl (show ltI (wrapF .u8 (i % 4)) 4 = true from lt_tt (by omega)), bh_leqT rfl rfl rfl rfl (show ltI ((i / 4) % 5) (-4096) = false from lt_ff (by omega)), bh_leqT rfl rfl rfl rfl (show ltI 4096 ((i / 4) % 5) = false from lt_ff (by omega)), bh_leqT rfl rfl rfl rfl (show ltI 0 (-4096) = false from lt_ff (by omega)), bh_leqT rfl rfl rfl rfl (show ltI 4096 0 = false from lt_ff (by omega)), bh_lss rfl rfl rfl rfl (show ltI e 3 = false from lt_ff (by omega)), bh_gtr rfl rfl rfl rfl (show ltI 2 e = true from lt_tt (by omega)), trivial⟩ ⟨ch_conv rfl rfl rfl rfl rfl, trivial⟩ (el := [(8, [va [vy 0,vy 1]], va [vi 5,vi 1]), (14, [], vt)]) ⟨⟨rfl, rfl, of_cls t a b 5 1 h_a h_b hw hh⟩, ⟨rfl, rfl, k14 t⟩, trivial⟩ (args := [va [vy 0,vy 1], vy 2, vy 3]) (v := vt) rfl rfl (by kernel_rfl) (r4_5_1_2_0 t)
theorem o4_5_1_0 (t : Nat → TypeId) (a b i e : Int) (h_a : 0 ≤ a ∧ a ≤ 255) (h_b : 0 ≤ b ∧ b ≤ 255) (h_i : -9223372036854775808 ≤ i ∧ i ≤ -1) (h_e : 0 ≤ e ∧ e ≤ 255) (hw : 1 + a % 5 = 5) (hh : 1 + b % 5 = 1) : Known Tryd.prog (tabG t) 4 [.agg ⟨[.int .u8 a, .int .u8 b]⟩, .int .i64 i, .int .u8 e] (.bool true) := by
  exact p4_5_1_0_0 t a b i e h_a h_b h_i h_e hw hh 
theorem o4_5_1_1 (t : Nat → TypeId) (a b i e : Int) (h_a : 0 ≤ a ∧ a ≤ 255) (h_b : 0 ≤ b ∧ b ≤ 255) (h_i : 20 ≤ i ∧ i ≤ 9223372036854775807) (h_e : 0 ≤ e ∧ e ≤ 255) (hw : 1 + a % 5 = 5) (hh : 1 + b % 5 = 1) : Known Tryd.prog (tabG t) 4 [.agg ⟨[.int .u8 a, .int .u8 b]⟩, .int .i64 i, .int .u8 e] (.bool true) := by
  exact p4_5_1_1_0 t a b i e h_a h_b h_i h_e hw hh 
theorem o4_5_1_2 (t : Nat → TypeId) (a b i e : Int) (h_a : 0 ≤ a ∧ a ≤ 255) (h_b : 0 ≤ b ∧ b ≤ 255) (h_i : 0 ≤ i ∧ i ≤ 19) (h_e : 3 ≤ e ∧ e ≤ 255) (hw : 1 + a % 5 = 5) (hh : 1 + b % 5 = 1) : Known Tryd.prog (tabG t) 4 [.agg ⟨[.int .u8 a, .int .u8 b]⟩, .int .i64 i, .int .u8 e] (.bool true) := by
  exact p4_5_1_2_0 t a b i e h_a h_b h_i h_e hw hh 

theorem r4_5_2_0_0 (t : Nat → TypeId) : isVal (vt) (@run (tabPrims [(13, vy 2, vi 0, vt)] []) Tryd.prog (valOrc (fun _ => false) (tabG t) (ansT [(8, [va [vy 0,vy 1]], va [vi 5,vi 2]), (14, [], vt)])) 1000000 (.call 4 [va [vy 0,vy 1], vy 2, vy 3] (tabG t))) = true := by kernel_rfl
theorem p4_5_2_0_0 (t : Nat → TypeId) (a b i e : Int) (h_a : 0 ≤ a ∧ a ≤ 255) (h_b : 0 ≤ b ∧ b ≤ 255) (h_i : -9223372036854775808 ≤ i ∧ i ≤ -1) (h_e : 0 ≤ e ∧ e ≤ 255) (hw : 1 + a % 5 = 5) (hh : 1 + b % 5 = 2)  : Known Tryd.prog (tabG t) 4 [.agg ⟨[.int .u8 a,.int .u8 b]⟩, .int .i64 i, .int .u8 e] (.bool true) := by
  have h1_a := h_a.1
  have h2_a := h_a.2
  have h1_b := h_b.1
  have h2_b := h_b.2
  have h1_i := h_i.1
  have h2_i := h_i.2
  have h1_e := h_e.1
  have h2_e := h_e.2
  exact path_calls (ρ := ofInts [(.u8, a), (.u8, b), (.i64, i), (.u8, e)]) (tabs_G t) (size_V t) (floor_V t) (ofInts_plain _) (bt := [(13, vy 2, vi 0, vt)]) (ct := []) ⟨bh_lss rfl rfl rfl rfl (show ltI i 0 = true from lt_tt (by omega)), trivial⟩ trivial (el := [(8, [va [vy 0,vy 1]], va [vi 5,vi 2]), (14, [], vt)]) ⟨⟨rfl, rfl, of_cls t a b 5 2 h_a h_b hw hh⟩, ⟨rfl, rfl, k14 t⟩, trivial⟩ (args := [va [vy 0,vy 1], vy 2, vy 3]) (v := vt) rfl rfl (by kernel_rfl) (r4_5_2_0_0 t)

theorem r4_5_2_1_0 (t : Nat → TypeId) : isVal (vt) (@run (tabPrims [(13, vy 2, vi 0, vf), (16, vy 2, vi 40, vt)] []) Tryd.prog (valOrc (fun _ => false) (tabG t) (ansT [(8, [va [vy 0,vy 1]], va [vi 5,vi 2]), (14, [], vt)])) 1000000 (.call 4 [va [vy 0,vy 1], vy 2, vy 3] (tabG t))) = true := by kernel_rfl
theorem p4_5_2_1_0 (t : Nat → TypeId) (a b i e : Int) (h_a : 0 ≤ a ∧ a ≤ 255) (h_b : 0 ≤ b ∧ b ≤ 255) (h_i : 40 ≤ i ∧ i ≤ 9223372036854775807) (h_e : 0 ≤ e ∧ e ≤ 255) (hw : 1 + a % 5 = 5) (hh : 1 + b % 5 = 2)  : Known Tryd.prog (tabG t) 4 [.agg ⟨[.int .u8 a,.int .u8 b]⟩, .int .i64 i, .int .u8 e] (.bool true) := by
  have h1_a := h_a.1
  have h2_a := h_a.2
  have h1_b := h_b.1
  have h2_b := h_b.2
  have h1_i := h_i.1
  have h2_i := h_i.2
  have h1_e := h_e.1
  have h2_e := h_e.2
  exact path_calls (ρ := ofInts [(.u8, a), (.u8, b), (.i64, i), (.u8, e)]) (tabs_G t) (size_V t) (floor_V t) (ofInts_plain _) (bt := [(13, vy 2, vi 0, vf), (16, vy 2, vi 40, vt)]) (ct := []) ⟨bh_lss rfl rfl rfl rfl (show ltI i 0 = false from lt_ff (by omega)), bh_geqT rfl rfl rfl rfl (show ltI i 40 = false from lt_ff (by omega)), trivial⟩ trivial (el := [(8, [va [vy 0,vy 1]], va [vi 5,vi 2]), (14, [], vt)]) ⟨⟨rfl, rfl, of_cls t a b 5 2 h_a h_b hw hh⟩, ⟨rfl, rfl, k14 t⟩, trivial⟩ (args := [va [vy 0,vy 1], vy 2, vy 3]) (v := vt) rfl rfl (by kernel_rfl) (r4_5_2_1_0 t)

theorem r4_5_2_2_0 (t : Nat → TypeId) : isVal (vt) (@run (tabPrims [(13, vy 2, vi 0, vf), (16, vy 2, vi 40, vf), (3, vy 2, vi 4, vy 4), (13, vy 4, vi 0, vf), (4, vy 4, vi 5, vy 5), (3, vy 4, vi 5, vy 6), (4, vy 2, vi 4, vy 7), (16, vy 8, vu 4, vf), (14, vn 4095, vy 5, vt), (14, vy 5, vi 4096, vt), (14, vn 4095, vy 6, vt), (14, vy 6, vi 4096, vt), (13, vy 3, vu 3, vf), (15, vy 3, vu 2, vt)] [(4, vy 7, vy 8)]) Tryd.prog (valOrc (fun _ => false) (tabG t) (ansT [(8, [va [vy 0,vy 1]], va [vi 5,vi 2]), (14, [], vt)])) 1000000 (.call 4 [va [vy 0,vy 1], vy 2, vy 3] (tabG t))) = true := by kernel_rfl
theorem p4_5_2_2_0 (t : Nat → TypeId) (a b i e : Int) (h_a : 0 ≤ a ∧ a ≤ 255) (h_b : 0 ≤ b ∧ b ≤ 255) (h_i : 0 ≤ i ∧ i ≤ 39) (h_e : 3 ≤ e ∧ e ≤ 255) (hw : 1 + a % 5 = 5) (hh : 1 + b % 5 = 2)  : Known Tryd.prog (tabG t) 4 [.agg ⟨[.int .u8 a,.int .u8 b]⟩, .int .i64 i, .int .u8 e] (.bool true) := by
  have h1_a := h_a.1
  have h2_a := h_a.2
  have h1_b := h_b.1
  have h2_b := h_b.2
  have h1_i := h_i.1
  have h2_i := h_i.2
  have h1_e := h_e.1
  have h2_e := h_e.2
  have w8 : (wrapF .u8 (i % 4)) = (i % 4) := wid_u8 (n := (i % 4)) (by omega) (by omega)
  exact path_calls (ρ := ofInts [(.u8, a), (.u8, b), (.i64, i), (.u8, e), (.i64, (i / 4)), (.i64, ((i / 4) % 5)), (.i64, ((i / 4) / 5)), (.i64, (i % 4)), (.u8, (wrapF .u8 (i % 4)))]) (tabs_G t) (size_V t) (floor_V t) (ofInts_plain _) (bt := [(13, vy 2, vi 0, vf), (16, vy 2, vi 40, vf), (3, vy 2, vi 4, vy 4), (13, vy 4, vi 0, vf), (4, vy 4, vi 5, vy 5), (3, vy 4, vi 5, vy 6), (4, vy 2, vi 4, vy 7), (16, vy 8, vu 4, vf), (14, vn 4095, vy 5, vt), (14, vy 5, vi 4096, vt), (14, vn 4095, vy 6, vt), (14, vy 6, vi 4096, vt), (13, vy 3, vu 3, vf), (15, vy 3, vu 2, vt)]) (ct := [(4, vy 7, vy 8)]) ⟨bh_lss rfl rfl rfl rfl (show ltI i 0 = false from lt_ff (by omega)), bh_geqF rfl rfl rfl rfl (show ltI i 40 = true from lt_tt (by omega)), bh_quo (a := i) (b := 4) rfl rfl rfl rfl rfl (by omega) (by show _ < (9223372036854775808 : Int); omega) (by omega) rfl, bh_lss rfl rfl rfl rfl (show ltI (i / 4) 0 = false from lt_ff (by omega)), bh_rem (a := (i / 4)) (b := 5) rfl rfl rfl rfl rfl (by omega) (by omega) rfl, bh_quo (a := (i / 4)) (b := 5) rfl rfl rfl rfl rfl (by omega) (by show _ < (9223372036854775808 : Int); omega) (by omega) rfl, bh_rem (a := i) (b := 4) rfl rfl rfl rfl rfl (by omega) (by omega) rfl, bh_geqF rfl rfl rfl rfl (show ltI (wrapF .u8 (i % 4)) 4 = true from lt_tt (by omega)), bh_leqT rfl rfl rfl rfl (show ltI ((i / 4) % 5) (-4096) = false from lt_ff (by omega)), bh_leqT rfl rfl rfl rfl (show ltI 4096 ((i / 4) % 5) = false from lt_ff (by omega)), bh_leqT rfl rfl rfl rfl (show ltI ((i / 4) / 5) (-4096) = false from lt_ff (by omega)), bh_leqT rfl rfl rfl rfl (show ltI 4096 ((i / 4) / 5) = false from lt_ff (by omega)), bh_lss rfl rfl rfl rfl (show ltI e 3 = false from lt_ff (by omega)), bh_gtr rfl rfl rfl rfl (show ltI 2 e = true from lt_tt (by omega)), trivial⟩ ⟨ch_conv rfl rfl rfl rfl rfl, trivial⟩ (el := [(8, [va [vy 0,vy 1]], va [vi 5,vi 2]), (14, [], vt)]) ⟨⟨rfl, rfl, of_cls t a b 5 2 h_a h_b hw hh⟩, ⟨rfl, rfl, k14 t⟩, trivial⟩ (args := [va [vy 0,vy 1], vy 2, vy 3]) (v := vt) rfl rfl (by kernel_rfl) (r4_5_2_2_0 t)
theorem o4_5_2_0 (t : Nat → TypeId) (a b i e : Int) (h_a : 0 ≤ a ∧ a ≤ 255) (h_b : 0 ≤ b ∧ b ≤ 255) (h_i : -9223372036854775808 ≤ i ∧ i ≤ -1) (h_e : 0 ≤ e ∧ e ≤ 255) (hw : 1 + a % 5 = 5) (hh : 1 + b % 5 = 2) : Known Tryd.prog (tabG t) 4 [.agg ⟨[.int .u8 a, .int .u8 b]⟩, .int .i64 i, .int .u8 e] (.bool true) := by
  exact p4_5_2_0_0 t a b i e h_a h_b h_i h_e hw hh 
theorem o4_5_2_1 (t : Nat → TypeId) (a b i e : Int) (h_a : 0 ≤ a ∧ a ≤ 255) (h_b : 0 ≤ b ∧ b ≤ 255) (h_i : 40 ≤ i ∧ i ≤ 9223372036854775807) (h_e : 0 ≤ e ∧ e ≤ 255) (hw : 1 + a % 5 = 5) (hh : 1 + b % 5 = 2) : Known Tryd.prog (tabG t) 4 [.agg ⟨[.int .u8 a, .int .u8 b]⟩, .int .i64 i, .int .u8 e] (.bool true) := by
  exact p4_5_2_1_0 t a b i e h_a h_b h_i h_e hw hh 
theorem o4_5_2_2 (t : Nat → TypeId) (a b i e : Int) (h_a : 0 ≤ a ∧ a ≤ 255) (h_b : 0 ≤ b ∧ b ≤ 255) (h_i : 0 ≤ i ∧ i ≤ 39) (h_e : 3 ≤ e ∧ e ≤ 255) (hw : 1 + a % 5 = 5) (hh : 1 + b % 5 = 2) : Known Tryd.prog (tabG t) 4 [.agg ⟨[.int .u8 a, .int .u8 b]⟩, .int .i64 i, .int .u8 e] (.bool true) := by
  exact p4_5_2_2_0 t a b i e h_a h_b h_i h_e hw hh 

theorem r4_5_3_0_0 (t : Nat → TypeId) : isVal (vt) (@run (tabPrims [(13, vy 2, vi 0, vt)] []) Tryd.prog (valOrc (fun _ => false) (tabG t) (ansT [(8, [va [vy 0,vy 1]], va [vi 5,vi 3]), (14, [], vt)])) 1000000 (.call 4 [va [vy 0,vy 1], vy 2, vy 3] (tabG t))) = true := by kernel_rfl
theorem p4_5_3_0_0 (t : Nat → TypeId) (a b i e : Int) (h_a : 0 ≤ a ∧ a ≤ 255) (h_b : 0 ≤ b ∧ b ≤ 255) (h_i : -9223372036854775808 ≤ i ∧ i ≤ -1) (h_e : 0 ≤ e ∧ e ≤ 255) (hw : 1 + a % 5 = 5) (hh : 1 + b % 5 = 3)  : Known Tryd.prog (tabG t) 4 [.agg ⟨[.int .u8 a,.int .u8 b]⟩, .int .i64 i, .int .u8 e] (.bool true) := by
  have h1_a := h_a.1
  have h2_a := h_a.2
  have h1_b := h_b.1
  have h2_b := h_b.2
  have h1_i := h_i.1
  have h2_i := h_i.2
  have h1_e := h_e.1
  have h2_e := h_e.2
  exact path_calls (ρ := ofInts [(.u8, a), (.u8, b), (.i64, i), (.u8, e)]) (tabs_G t) (size_V t) (floor_V t) (ofInts_plain _) (bt := [(13, vy 2, vi 0, vt)]) (ct := []) ⟨bh_lss rfl rfl rfl rfl (show ltI i 0 = true from lt_tt (by omega)), trivial⟩ trivial (el := [(8, [va [vy 0,vy 1]], va [vi 5,vi 3]), (14, [], vt)]) ⟨⟨rfl, rfl, of_cls t a b 5 3 h_a h_b hw hh⟩, ⟨rfl, rfl, k14 t⟩, trivial⟩ (args := [va [vy 0,vy 1], vy 2, vy 3]) (v := vt) rfl rfl (by kernel_rfl) (r4_5_3_0_0 t)

theorem r4_5_3_1_0 (t : Nat → TypeId) : isVal (vt) (@run (tabPrims [(13, vy 2, vi 0, vf), (16, vy 2, vi 60, vt)] []) Tryd.prog (valOrc (fun _ => false) (tabG t) (ansT [(8, [va [vy 0,vy 1]], va [vi 5,vi 3]), (14, [], vt)])) 1000000 (.call 4 [va [vy 0,vy 1], vy 2, vy 3] (tabG t))) = true := by kernel_rfl
theorem p4_5_3_1_0 (t : Nat → TypeId) (a b i e : Int) (h_a : 0 ≤ a ∧ a ≤ 255) (h_b : 0 ≤ b ∧ b ≤ 255) (h_i : 60 ≤ i ∧ i ≤ 9223372036854775807) (h_e : 0 ≤ e ∧ e ≤ 255) (hw : 1 + a % 5 = 5) (hh : 1 + b % 5 = 3)  : Known Tryd.prog (tabG t) 4 [.agg ⟨[.int .u8 a,.int .u8 b]⟩, .int .i64 i, .int .u8 e] (.bool true) := by
  have h1_a := h_a.1
  have h2_a := h_a.2
  have h1_b := h_b.1
  have h2_b := h_b.2
  have h1_i := h_i.1
  have h2_i := h_i.2
  have h1_e := h_e.1
  have h2_e := h_e.2
  exact path_calls (ρ := ofInts [(.u8, a), (.u8, b), (.i64, i), (.u8, e)]) (tabs_G t) (size_V t) (floor_V t) (ofInts_plain _) (bt := [(13, vy 2, vi 0, vf), (16, vy 2, vi 60, vt)]) (ct := []) ⟨bh_lss rfl rfl rfl rfl (show ltI i 0 = false from lt_ff (by omega)), bh_geqT rfl rfl rfl rfl (show ltI i 60 = false from lt_ff (by omega)), trivial⟩ trivial (el := [(8, [va [vy 0,vy 1]], va [vi 5,vi 3]), (14, [], vt)]) ⟨⟨rfl, rfl, of_cls t a b 5 3 h_a h_b hw hh⟩, ⟨rfl, rfl, k14 t⟩, trivial⟩ (args := [va [vy 0,vy 1], vy 2, vy 3]) (v := vt) rfl rfl (by kernel_rfl) (r4_5_3_1_0 t)

theorem r4_5_3_2_0 (t : Nat → TypeId) : isVal (vt) (@run (tabPrims [(13, vy 2, vi 0, vf), (16, vy 2, vi 60, vf), (3, vy 2, vi 4, vy 4), (13, vy 4, vi 0, vf), (4, vy 4, vi 5, vy 5), (3, vy 4, vi 5, vy 6), (4, vy 2, vi 4, vy 7), (16, vy 8, vu 4, vf), (14, vn 4095, vy 5, vt), (14, vy 5, vi 4096, vt), (14, vn 4095, vy 6, vt), (14, vy 6, vi 4096, vt), (13, vy 3, vu 3, vf), (15, vy 3, vu 2, vt)] [(4, vy 7, vy 8)]) Tryd.prog (valOrc (fun _ => false) (tabG t) (ansT [(8, [va [vy 0,vy 1]], va [vi 5,vi 3]), (14, [], vt)])) 1000000 (.call 4 [va [vy 0,vy 1], vy 2, vy 3] (tabG t))) = true := by kernel_rfl
theorem p4_5_3_2_0 (t : Nat → TypeId) (a b i e : Int) (h_a : 0 ≤ a ∧ a ≤ 255) (h_b : 0 ≤ b ∧ b ≤ 255) (h_i : 0 ≤ i ∧ i ≤ 59) (h_e : 3 ≤ e ∧ e ≤ 255) (hw : 1 + a % 5 = 5) (hh : 1 + b % 5 = 3)  : Known Tryd.prog (tabG t) 4 [.agg ⟨[.int .u8 a,.int .u8 b]⟩, .int .i64 i, .int .u8 e] (.bool true) := by
  have h1_a := h_a.1
  have h2_a := h_a.2
  have h1_b := h_b.1
  have h2_b := h_b.2
  have h1_i := h_i.1
  have h2_i := h_i.2
  have h1_e := h_e.1
  have h2_e := h_e.2
  have w8 : (wrapF .u8 (i % 4)) = (i % 4) := wid_u8 (n := (i % 4)) (by omega) (by omega)
  exact path_calls (ρ := ofInts [(.u8, a), (.u8, b), (.i64, i), (.u8, e), (.i64, (i / 4)), (.i64, ((i / 4) % 5)), (.i64, ((i / 4) / 5)), (.i64, (i % 4)), (.u8, (wrapF .u8 (i % 4)))]) (tabs_G t) (size_V t) (floor_V t) (ofInts_plain _) (bt := [(13, vy 2, vi 0, vf), (16, vy 2, vi 60, vf), (3, vy 2, vi 4, vy 4), (13, vy 4, vi 0, vf), (4, vy 4, vi 5, vy 5), (3, vy 4, vi 5, vy 6), (4, vy 2, vi 4, vy 7), (16, vy 8, vu 4, vf), (14, vn 4095, vy 5, vt), (14, vy 5, vi 4096, vt), (14, vn 4095, vy 6, vt), (14, vy 6, vi 4096, vt), (13, vy 3, vu 3, vf), (15, vy 3, vu 2, vt)]) (ct := [(4, vy 7, vy 8)]) ⟨bh_lss rfl rfl rfl rfl (show ltI i 0 = false from lt_ff (by omega)), bh_geqF rfl rfl rfl rfl (show ltI i 60 = true from lt_tt (by omega)), bh_quo (a := i) (b := 4) rfl rfl rfl rfl rfl (by omega) (by show _ < (9223372036854775808 : Int); omega) (by omega) rfl, bh_lss rfl rfl rfl rfl (show ltI (i / 4) 0 = false from lt_ff (by omega)), bh_rem (a := (i / 4)) (b := 5) rfl rfl rfl rfl rfl (by omega) (by omega) rfl, bh_quo (a := (i / 4)) (b := 5) rfl rfl rfl rfl rfl (by omega) (by show _ < (9223372036854775808 : Int); omega) (by omega) rfl, bh_rem (a := i) (b := 4) rfl rfl rfl rfl rfl (by omega) (by omega) rfl, bh_geqF rfl rfl rfl rfl (show ltI (wrapF .u8 (i % 4)) 4 = true from lt_tt (by omega)), bh_leqT rfl rfl rfl rfl (show ltI ((i / 4) % 5) (-4096) = false from lt_ff (by omega)), bh_leqT rfl rfl rfl rfl (show ltI 4096 ((i / 4) % 5) = false from lt_ff (by omega)), bh_leqT rfl rfl rfl rfl (show ltI ((i / 4) / 5) (-4096) = false from lt_ff (by omega)), bh_leqT rfl rfl rfl rfl (show ltI 4096 ((i / 4) / 5) = false from lt_ff (by omega)), bh_lss rfl rfl rfl rfl (show ltI e 3 = false from lt_ff (by omega)), bh_gtr rfl rfl rfl rfl (show ltI 2 e = true from lt_tt (by omega)), trivial⟩ ⟨ch_conv rfl rfl rfl rfl rfl, trivial⟩ (el := [(8, [va [vy 0,vy 1]], va [vi 5,vi 3]), (14, [], vt)]) ⟨⟨rfl, rfl, of_cls t a b 5 3 h_a h_b hw hh⟩, ⟨rfl, rfl, k14 t⟩, trivial⟩ (args := [va [vy 0,vy 1], vy 2, vy 3]) (v := vt) rfl rfl (by kernel_rfl) (r4_5_3_2_0 t)
theorem o4_5_3_0 (t : Nat → TypeId) (a b i e : Int) (h_a : 0 ≤ a ∧ a ≤ 255) (h_b : 0 ≤ b ∧ b ≤ 255) (h_i : -9223372036854775808 ≤ i ∧ i ≤ -1) (h_e : 0 ≤ e ∧ e ≤ 255) (hw : 1 + a % 5 = 5) (hh : 1 + b % 5 = 3) : Known Tryd.prog (tabG t) 4 [.agg ⟨[.int .u8 a, .int .u8 b]⟩, .int .i64 i, .int .u8 e] (.bool true) := by
  exact p4_5_3_0_0 t a b i e h_a h_b h_i h_e hw hh 
theorem o4_5_3_1 (t : Nat → TypeId) (a b i e : Int) (h_a : 0 ≤ a ∧ a ≤ 255) (h_b : 0 ≤ b ∧ b ≤ 255) (h_i : 60 ≤ i ∧ i ≤ 9223372036854775807) (h_e : 0 ≤ e ∧ e ≤ 255) (hw : 1 + a % 5 = 5) (hh : 1 + b % 5 = 3) : Known Tryd.prog (tabG t) 4 [.agg ⟨[.int .u8 a, .int .u8 b]⟩, .int .i64 i, .int .u8 e] (.bool true) := by
  exact p4_5_3_1_0 t a b i e h_a h_b h_i h_e hw hh 
theorem o4_5_3_2 (t : Nat → TypeId) (a b i e : Int) (h_a : 0 ≤ a ∧ a ≤ 255) (h_b : 0 ≤ b ∧ b ≤ 255) (h_i : 0 ≤ i ∧ i ≤ 59) (h_e : 3 ≤ e ∧ e ≤ 255) (hw : 1 + a % 5 = 5) (hh : 1 + b % 5 = 3) : Known Tryd.prog (tabG t) 4 [.agg ⟨[.int .u8 a, .int .u8 b]⟩, .int .i64 i, .int .u8 e] (.bool true) := by
  exact p4_5_3_2_0 t a b i e h_a h_b h_i h_e hw hh 

theorem r4_5_4_0_0 (t : Nat → TypeId) : isVal (vt) (@run (tabPrims [(13, vy 2, vi 0, vt)] []) Tryd.prog (valOrc (fun _ => false) (tabG t) (ansT [(8, [va [vy 0,vy 1]], va [vi 5,vi 4]), (14, [], vt)])) 1000000 (.call 4 [va [vy 0,vy 1], vy 2, vy 3] (tabG t))) = true := by kernel_rfl
theorem p4_5_4_0_0 (t : Nat → TypeId) (a b i e : Int) (h_a : 0 ≤ a ∧ a ≤ 255) (h_b : 0 ≤ b ∧ b ≤ 255) (h_i : -9223372036854775808 ≤ i ∧ i ≤ -1) (h_e : 0 ≤ e ∧ e ≤ 255) (hw : 1 + a % 5 = 5) (hh : 1 + b % 5 = 4)  : Known Tryd.prog (tabG t) 4 [.agg ⟨[.int .u8 a,.int .u8 b]⟩, .int .i64 i, .int .u8 e] (.bool true) := by
  have h1_a := h_a.1
  have h2_a := h_a.2
  have h1_b := h_b.1
  have h2_b := h_b.2
  have h1_i := h_i.1
  have h2_i := h_i.2
  have h1_e := h_e.1
  have h2_e := h_e.2
  exact path_calls (ρ := ofInts [(.u8, a), (.u8, b), (.i64, i), (.u8, e)]) (tabs_G t) (size_V t) (floor_V t) (ofInts_plain _) (bt := [(13, vy 2, vi 0, vt)]) (ct := []) ⟨bh_lss rfl rfl rfl rfl (show ltI i 0 = true from lt_tt (by omega)), trivial⟩ trivial (el := [(8, [va [vy 0,vy 1]], va [vi 5,vi 4]), (14, [], vt)]) ⟨⟨rfl, rfl, of_cls t a b 5 4 h_a h_b hw hh⟩, ⟨rfl, rfl, k14 t⟩, trivial⟩ (args := [va [vy 0,vy 1], vy 2, vy 3]) (v := vt) rfl rfl (by kernel_rfl) (r4_5_4_0_0 t)

theorem r4_5_4_1_0 (t : Nat → TypeId) : isVal (vt) (@run (tabPrims [(13, vy 2, vi 0, vf), (16, vy 2, vi 80, vt)] []) Tryd.prog (valOrc (fun _ => false) (tabG t) (ansT [(8, [va [vy 0,vy 1]], va [vi 5,vi 4]), (14, [], vt)])) 1000000 (.call 4 [va [vy 0,vy 1], vy 2, vy 3] (tabG t))) = true := by kernel_rfl
theorem p4_5_4_1_0 (t : Nat → TypeId) (a b i e : Int) (h_a : 0 ≤ a ∧ a ≤ 255) (h_b : 0 ≤ b ∧ b ≤ 255) (h_i : 80 ≤ i ∧ i ≤ 9223372036854775807) (h_e : 0 ≤ e ∧ e ≤ 255) (hw : 1 + a % 5 = 5) (hh : 1 + b % 5 = 4)  : Known Tryd.prog (tabG t) 4 [.agg ⟨[.int .u8 a,.int .u8 b]⟩, .int .i64 i, .int .u8 e] (.bool true) := by
  have h1_a := h_a.1
  have h2_a := h_a.2
  have h1_b := h_b.1
  have h2_b := h_b.2
  have h1_i := h_i.1
  have h2_i := h_i.2
  have h1_e := h_e.1
  have h2_e := h_e.2
  exact path_calls (ρ := ofInts [(.u8, a), (.u8, b), (.i64, i), (.u8, e)]) (tabs_G t) (size_V t) (floor_V t) (ofInts_plain _) (bt := [(13, vy 2, vi 0, vf), (16, vy 2, vi 80, vt)]) (ct := []) ⟨bh_lss rfl rfl rfl rfl (show ltI i 0 = false from lt_ff (by omega)), bh_geqT rfl rfl rfl rfl (show ltI i 80 = false from lt_ff (by omega)), trivial⟩ trivial (el := [(8, [va [vy 0,vy 1]], va [vi 5,vi 4]), (14, [], vt)]) ⟨⟨rfl, rfl, of_cls t a b 5 4 h_a h_b hw hh⟩, ⟨rfl, rfl, k14 t⟩, trivial⟩ (args := [va [vy 0,vy 1], vy 2, vy 3]) (v := vt) rfl rfl (by kernel_rfl) (r4_5_4_1_0 t)

theorem r4_5_4_2_0 (t : Nat → TypeId) : isVal (vt) (@run (tabPrims [(13, vy 2, vi 0, vf), (16, vy 2, vi 80, vf), (3, vy 2, vi 4, vy 4), (13, vy 4, vi 0, vf), (4, vy 4, vi 5, vy 5), (3, vy 4, vi 5, vy 6), (4, vy 2, vi 4, vy 7), (16, vy 8, vu 4, vf), (14, vn 4095, vy 5, vt), (14, vy 5, vi 4096, vt), (14, vn 4095, vy 6, vt), (14, vy 6, vi 4096, vt), (13, vy 3, vu 3, vf), (15, vy 3, vu 2, vt)] [(4, vy 7, vy 8)]) Tryd.prog (valOrc (fun _ => false) (tabG t) (ansT [(8, [va [vy 0,vy 1]], va [vi 5,vi 4]), (14, [], vt)])) 1000000 (.call 4 [va [vy 0,vy 1], vy 2, vy 3] (tabG t))) = true := by kernel_rfl
theorem p4_5_4_2_0 (t : Nat → TypeId) (a b i e : Int) (h_a : 0 ≤ a ∧ a ≤ 255) (h_b : 0 ≤ b ∧ b ≤ 255) (h_i : 0 ≤ i ∧ i ≤ 79) (h_e : 3 ≤ e ∧ e ≤ 255) (hw : 1 + a % 5 = 5) (hh : 1 + b % 5 = 4)  : Known Tryd.prog (tabG t) 4 [.agg ⟨[.int .u8 a,.int .u8 b]⟩, .int .i64 i, .int .u8 e] (.bool true) := by
  have h1_a := h_a.1
  have h2_a := h_a.2
  have h1_b := h_b.1
  have h2_b := h_b.2
  have h1_i := h_i.1
  have h2_i := h_i.2
  have h1_e := h_e.1
  have h2_e := h_e.2
  have w8 : (wrapF .u8 (i % 4)) = (i % 4) := wid_u8 (n := (i % 4)) (by omega) (by omega)
  exact path_calls (ρ := ofInts [(.u8, a), (.u8, b), (.i64, i), (.u8, e), (.i64, (i / 4)), (.i64, ((i / 4) % 5)), (.i64, ((i / 4) / 5)), (.i64, (i % 4)), (.u8, (wrapF .u8 (i % 4)))]) (tabs_G t) (size_V t) (floor_V t) (ofInts_plain _) (bt := [(13, vy 2, vi 0, vf), (16, vy 2, vi 80, vf), (3, vy 2, vi 4, vy 4), (13, vy 4, vi 0, vf), (4, vy 4, vi 5, vy 5), (3, vy 4, vi 5, vy 6), (4, vy 2, vi 4, vy 7), (16, vy 8, vu 4, vf), (14, vn 4095, vy 5, vt), (14, vy 5, vi 4096, vt), (14, vn 4095, vy 6, vt), (14, vy 6, vi 4096, vt), (13, vy 3, vu 3, vf), (15, vy 3, vu 2, vt)]) (ct := [(4, vy 7, vy 8)]) ⟨bh_lss rfl rfl rfl rfl (show ltI i 0 = false from lt_ff (by omega)), bh_geqF rfl rfl rfl rfl (show ltI i 80 = true from lt_tt (by omega)), bh_quo (a := i) (b := 4) rfl rfl rfl rfl rfl (by omega) (by show _ < (9223372036854775808 : Int); omega) (by omega) rfl, bh_lss rfl rfl rfl rfl (show ltI (i / 4) 0 = false from lt_ff (by omega)), bh_rem (a := (i / 4)) (b := 5) rfl rfl rfl rfl rfl (by omega) (by omega) rfl, bh_quo (a := (i / 4)) (b := 5) rfl rfl rfl rfl rfl (by omega) (by show _ < (9223372036854775808 : Int); omega) (by omega) rfl, bh_rem (a := i) (b := 4) rfl rfl rfl rfl rfl (by omega) (by omega) rfl, bh_geqF rfl rfl rfl rfl (show ltI (wrapF .u8 (i % 4)) 4 = true from lt_tt (by omega)), bh_leqT rfl rfl rfl rfl (show ltI ((i / 4) % 5) (-4096) = false from lt_ff (by omega)), bh_leqT rfl rfl rfl rfl (show ltI 4096 ((i / 4) % 5) = false from lt_ff (by omega)), bh_leqT rfl rfl rfl rfl (show ltI ((i / 4) / 5) (-4096) = false from lt_ff (by omega)), bh_leqT rfl rfl rfl rfl (show ltI 4096 ((i / 4) / 5) = false from lt_ff (by omega)), bh_lss rfl rfl rfl rfl (show ltI e 3 = false from lt_ff (by omega)), bh_gtr rfl rfl rfl rfl (show ltI 2 e = true from lt_tt (by omega)), trivial⟩ ⟨ch_conv rfl rfl rfl rfl rfl, trivial⟩ (el := [(8, [va [vy 0,vy 1]], va [vi 5,vi 4]), (14, [], vt)]) ⟨⟨rfl, rfl, of_cls t a b 5 4 h_a h_b hw hh⟩, ⟨rfl, rfl, k14 t⟩, trivial⟩ (args := [va [vy 0,vy 1], vy 2, vy 3]) (v := vt) rfl rfl (by kernel_rfl) (r4_5_4_2_0 t)
theorem o4_5_4_0 (t : Nat → TypeId) (a b i e : Int) (h_a : 0 ≤ a ∧ a ≤ 255) (h_b : 0 ≤ b ∧ b ≤ 255) (h_i : -9223372036854775808 ≤ i ∧ i ≤ -1) (h_e : 0 ≤ e ∧ e ≤ 255) (hw : 1 + a % 5 = 5) (hh : 1 + b % 5 = 4) : Known Tryd.prog (tabG t) 4 [.agg ⟨[.int .u8 a, .int .u8 b]⟩, .int .i64 i, .int .u8 e] (.bool true) := by
  exact p4_5_4_0_0 t a b i e h_a h_b h_i h_e hw hh 
theorem o4_5_4_1 (t : Nat → TypeId) (a b i e : Int) (h_a : 0 ≤ a ∧ a ≤ 255) (h_b : 0 ≤ b ∧ b ≤ 255) (h_i : 80 ≤ i ∧ i ≤ 9223372036854775807) (h_e : 0 ≤ e ∧ e ≤ 255) (hw : 1 + a % 5 = 5) (hh : 1 + b % 5 = 4) : Known Tryd.prog (tabG t) 4 [.agg ⟨[.int .u8 a, .int .u8 b]⟩, .int .i64 i, .int .u8 e] (.bool true) := by
  exact p4_5_4_1_0 t a b i e h_a h_b h_i h_e hw hh 
theorem o4_5_4_2 (t : Nat → TypeId) (a b i e : Int) (h_a : 0 ≤ a ∧ a ≤ 255) (h_b : 0 ≤ b ∧ b ≤ 255) (h_i : 0 ≤ i ∧ i ≤ 79) (h_e : 3 ≤ e ∧ e ≤ 255) (hw : 1 + a % 5 = 5) (hh : 1 + b % 5 = 4) : Known Tryd.prog (tabG t) 4 [.agg ⟨[.int .u8 a, .int .u8 b]⟩, .int .i64 i, .int .u8 e] (.bool true) := by
  exact p4_5_4_2_0 t a b i e h_a h_b h_i h_e hw hh 

theorem r4_5_5_0_0 (t : Nat → TypeId) : isVal (vt) (@run (tabPrims [(13, vy 2, vi 0, vt)] []) Tryd.prog (valOrc (fun _ => false) (tabG t) (ansT [(8, [va [vy 0,vy 1]], va [vi 5,vi 5]), (14, [], vt)])) 1000000 (.call 4 [va [vy 0,vy 1], vy 2, vy 3] (tabG t))) = true := by kernel_rfl
theorem p4_5_5_0_0 (t : Nat → TypeId) (a b i e : Int) (h_a : 0 ≤ a ∧ a ≤ 255) (h_b : 0 ≤ b ∧ b ≤ 255) (h_i : -9223372036854775808 ≤ i ∧ i ≤ -1) (h_e : 0 ≤ e ∧ e ≤ 255) (hw : 1 + a % 5 = 5) (hh : 1 + b % 5 = 5)  : Known Tryd.prog (tabG t) 4 [.agg ⟨[.int .u8 a,.int .u8 b]⟩, .int .i64 i, .int .u8 e] (.bool true) := by
  have h1_a := h_a.1
  have h2_a := h_a.2
  have h1_b := h_b.1
  have h2_b := h_b.2
  have h1_i := h_i.1
  have h2_i := h_i.2
  have h1_e := h_e.1
  have h2_e := h_e.2
  exact path_calls (ρ := ofInts [(.u8, a), (.u8, b), (.i64, i), (.u8, e)]) (tabs_G t) (size_V t) (floor_V t) (ofInts_plain _) (bt := [(13, vy 2, vi 0, vt)]) (ct := []) ⟨bh_lss rfl rfl rfl rfl (show ltI i 0 = true from lt_tt (by omega)), trivial⟩ trivial (el := [(8, [va [vy 0,vy 1]], va [vi 5,vi 5]), (14, [], vt)]) ⟨⟨rfl, rfl, of_cls t a b 5 5 h_a h_b hw hh⟩, ⟨rfl, rfl, k14 t⟩, trivial⟩ (args := [va [vy 0,vy 1], vy 2, vy 3]) (v := vt) rfl rfl (by kernel_rfl) (r4_5_5_0_0 t)

theorem r4_5_5_1_0 (t : Nat → TypeId) : isVal (vt) (@run (tabPrims [(13, vy 2, vi 0, vf), (16, vy 2, vi 100, vt)] []) Tryd.prog (valOrc (fun _ => false) (tabG t) (ansT [(8, [va [vy 0,vy 1]], va [vi 5,vi 5]), (14, [], vt)])) 1000000 (.call 4 [va [vy 0,vy 1], vy 2, vy 3] (tabG t))) = true := by kernel_rfl
theorem p4_5_5_1_0 (t : Nat → TypeId) (a b i e : Int) (h_a : 0 ≤ a ∧ a ≤ 255) (h_b : 0 ≤ b ∧ b ≤ 255) (h_i : 100 ≤ i ∧ i ≤ 9223372036854775807) (h_e : 0 ≤ e ∧ e ≤ 255) (hw : 1 + a % 5 = 5) (hh : 1 + b % 5 = 5)  : Known Tryd.prog (tabG t) 4 [.agg ⟨[.int .u8 a,.int .u8 b]⟩, .int .i64 i, .int .u8 e] (.bool true) := by
  have h1_a := h_a.1
  have h2_a := h_a.2
  have h1_b := h_b.1
  have h2_b := h_b.2
  have h1_i := h_i.1
  have h2_i := h_i.2
  have h1_e := h_e.1
  have h2_e := h_e.2
  exact path_calls (ρ := ofInts [(.u8, a), (.u8, b), (.i64, i), (.u8, e)]) (tabs_G t) (size_V t) (floor_V t) (ofInts_plain _) (bt := [(13, vy 2, vi 0, vf), (16, vy 2, vi 100, vt)]) (ct := []) ⟨bh_lss rfl rfl rfl rfl (show ltI i 0 = false from lt_ff (by omega)), bh_geqT rfl rfl rfl rfl (show ltI i 100 = false from lt_ff (by omega)), trivial⟩ trivial (el := [(8, [va [vy 0,vy 1]], va [vi 5,vi 5]), (14, [], vt)]) ⟨⟨rfl, rfl, of_cls t a b 5 5 h_a h_b hw hh⟩, ⟨rfl, rfl, k14 t⟩, trivial⟩ (args := [va [vy 0,vy 1], vy 2, vy 3]) (v := vt) rfl rfl (by kernel_rfl) (r4_5_5_1_0 t)

theorem r4_5_5_2_0 (t : Nat → TypeId) : isVal (vt) (@run (tabPrims [(13, vy 2, vi 0, vf), (16, vy 2, vi 100, vf), (3, vy 2, vi 4, vy 4), (13, vy 4, vi 0, vf), (4, vy 4, vi 5, vy 5), (3, vy 4, vi 5, vy 6), (4, vy 2, vi 4, vy 7), (16, vy 8, vu 4, vf), (14, vn 4095, vy 5, vt), (14, vy 5, vi 4096, vt), (14, vn 4095, vy 6, vt), (14, vy 6, vi 4096, vt), (13, vy 3, vu 3, vf), (15, vy 3, vu 2, vt)] [(4, vy 7, vy 8)]) Tryd.prog (valOrc (fun _ => false) (tabG t) (ansT [(8, [va [vy 0,vy 1]], va [vi 5,vi 5]), (14, [], vt)])) 1000000 (.call 4 [va [vy 0,vy 1], vy 2, vy 3] (tabG t))) = true := by kernel_rfl
theorem p4_5_5_2_0 (t : Nat → TypeId) (a b i e : Int) (h_a : 0 ≤ a ∧ a ≤ 255) (h_b : 0 ≤ b ∧ b ≤ 255) (h_i : 0 ≤ i ∧ i ≤ 99) (h_e : 3 ≤ e ∧ e ≤ 255) (hw : 1 + a % 5 = 5) (hh : 1 + b % 5 = 5)  : Known Tryd.prog (tabG t) 4 [.agg ⟨[.int .u8 a,.int .u8 b]⟩, .int .i64 i, .int .u8 e] (.bool true) := by
  have h1_a := h_a.1
  have h2_a := h_a.2
  have h1_b := h_b.1
  have h2_b := h_b.2
  have h1_i := h_i.1
  have h2_i := h_i.2
  have h1_e := h_e.1
  have h2_e := h_e.2
  have w8 : (wrapF .u8 (i % 4)) = (i % 4) := wid_u8 (n := (i % 4)) (by omega) (by omega)
  exact path_calls (ρ := ofInts [(.u8, a), (.u8, b), (.i64, i), (.u8, e), (.i64, (i / 4)), (.i64, ((i / 4) % 5)), (.i64, ((i / 4) / 5)), (.i64, (i % 4)), (.u8, (wrapF .u8 (i % 4)))]) (tabs_G t) (size_V t) (floor_V t) (ofInts_plain _) (bt := [(13, vy 2, vi 0, vf), (16, vy 2, vi 100, vf), (3, vy 2, vi 4, vy 4), (13, vy 4, vi 0, vf), (4, vy 4, vi 5, vy 5), (3, vy 4, vi 5, vy 6), (4, vy 2, vi 4, vy 7), (16, vy 8, vu 4, vf), (14, vn 4095, vy 5, vt), (14, vy 5, vi 4096, vt), (14, vn 4095, vy 6, vt), (14, vy 6, vi 4096, vt), (13, vy 3, vu 3, vf), (15, vy 3, vu 2, vt)]) (ct := [(4, vy 7, vy 8)]) ⟨bh_lss rfl rfl rfl rfl (show ltI i 0 = false from lt_ff (by omega)), bh_geqF rfl rfl rfl rfl (show ltI i 100 = true from lt_tt (by omega)), bh_quo (a := i) (b := 4) rfl rfl rfl rfl rfl (by omega) (by show _ < (9223372036854775808 : Int); omega) (by omega) rfl, bh_lss rfl rfl rfl rfl (show ltI (i / 4) 0 = false from lt_ff (by omega)), bh_rem (a := (i / 4)) (b := 5) rfl rfl rfl rfl rfl (by omega) (by omega) rfl, bh_quo (a := (i / 4)) (b := 5) rfl rfl rfl rfl rfl (by omega) (by show _ < (9223372036854775808 : Int); omega) (by omega) rfl, bh_rem (a := i) (b := 4) rfl rfl rfl rfl rfl (by omega) (by omega) rfl, bh_geqF rfl rfl rfl rfl (show ltI (wrapF .u8 (i % 4)) 4 = true from lt_tt (by omega)), bh_leqT rfl rfl rfl rfl (show ltI ((i / 4) % 5) (-4096) = false from lt_ff (by omega)), bh_leqT rfl rfl rfl rfl (show ltI 4096 ((i / 4) % 5) = false from lt_ff (by omega)), bh_leqT rfl rfl rfl rfl (show ltI ((i / 4) / 5) (-4096) = false from lt_ff (by omega)), bh_leqT rfl rfl rfl rfl (show ltI 4096 ((i / 4) / 5) = false from lt_ff (by omega)), bh_lss rfl rfl rfl rfl (show ltI e 3 = false from lt_ff (by omega)), bh_gtr rfl rfl rfl rfl (show ltI 2 e = true from lt_tt (by omega)), trivial⟩ ⟨ch_conv rfl rfl rfl rfl rfl, trivial⟩ (el := [(8, [va [vy 0,vy 1]], va [vi 5,vi 5]), (14, [], vt)]) ⟨⟨rfl, rfl, of_cls t a b 5 5 h_a h_b hw hh⟩, ⟨rfl, rfl, k14 t⟩, trivial⟩ (args := [va [vy 0,vy 1], vy 2, vy 3]) (v := vt) rfl rfl (by kernel_rfl) (r4_5_5_2_0 t)
theorem o4_5_5_0 (t : Nat → TypeId) (a b i e : Int) (h_a : 0 ≤ a ∧ a ≤ 255) (h_b : 0 ≤ b ∧ b ≤ 255) (h_i : -9223372036854775808 ≤ i ∧ i ≤ -1) (h_e : 0 ≤ e ∧ e ≤ 255) (hw : 1 + a % 5 = 5) (hh : 1 + b % 5 = 5) : Known Tryd.prog (tabG t) 4 [.agg ⟨[.int .u8 a, .int .u8 b]⟩, .int .i64 i, .int .u8 e] (.bool true) := by
  exact p4_5_5_0_0 t a b i e h_a h_b h_i h_e hw hh 
theorem o4_5_5_1 (t : Nat → TypeId) (a b i e : Int) (h_a : 0 ≤ a ∧ a ≤ 255) (h_b : 0 ≤ b ∧ b ≤ 255) (h_i : 100 ≤ i ∧ i ≤ 9223372036854775807) (h_e : 0 ≤ e ∧ e ≤ 255) (hw : 1 + a % 5 = 5) (hh : 1 + b % 5 = 5) : Known Tryd.prog (tabG t) 4 [.agg ⟨[.int .u8 a, .int .u8 b]⟩, .int .i64 i, .int .u8 e] (.bool true) := by
  exact p4_5_5_1_0 t a b i e h_a h_b h_i h_e hw hh 
theorem o4_5_5_2 (t : Nat → TypeId) (a b i e : Int) (h_a : 0 ≤ a ∧ a ≤ 255) (h_b : 0 ≤ b ∧ b ≤ 255) (h_i : 0 ≤ i ∧ i ≤ 99) (h_e : 3 ≤ e ∧ e ≤ 255) (hw : 1 + a % 5 = 5) (hh : 1 + b % 5 = 5) : Known Tryd.prog (tabG t) 4 [.agg ⟨[.int .u8 a, .int .u8 b]⟩, .int .i64 i, .int .u8 e] (.bool true) := by
  exact p4_5_5_2_0 t a b i e h_a h_b h_i h_e hw hh 

end Go.Proofs.YtaacmbmnlhoghaaDoor
