/-
  Says: what small functions return.
-/
import Derived.Test.YtaacmbmnlhoghaaDoorKl
import Derived.Test.YtaacmbmnlhoghaaDoorVx25
import Derived.KernelRfl
set_option maxRecDepth 1000000
set_option linter.unusedVariables false
set_option linter.unusedSimpArgs false
namespace Go.Proofs.YtaacmbmnlhoghaaDoor
open Go Go.Vx
attribute [local instance] anyKeeps

theorem wid_i64 {n : Int} (h1 : -9223372036854775808 ≤ n) (h2 : n ≤ 9223372036854775807) : wrapF .i64 n = n := wrapF_id (k := .i64) h1 (show n < 9223372036854775808 by omega)
theorem wid_u8 {n : Int} (h1 : 0 ≤ n) (h2 : n ≤ 255) : wrapF .u8 n = n := wrapF_id (k := .u8) (show -(0 : Int) ≤ n by omega) (show n < 256 by omega)
def inR (lo hi x : Int) : Bool := match ltI x lo with
  | true => false
  | false => match ltI hi x with
    | true => false
    | false => true
theorem inR_spec {lo hi x : Int} (h : inR lo hi x = true) : lo ≤ x ∧ x ≤ hi := by
  unfold inR at h
  split at h
  · cases h
  · rename_i h1
    split at h
    · cases h
    · rename_i h2
      exact ⟨lt_f h1, lt_f h2⟩

theorem r29_0 (t : Nat → TypeId) : isVal (vi 1) (@run (tabPrims [(13, vy 0, vi 1, vt)] []) Tryd.prog (valOrc (fun _ => false) (tabG t) (ansT [])) 1000000 (.call 29 [va [vy 0,vy 1]] (tabG t))) = true := by kernel_rfl
theorem p29_0 (t : Nat → TypeId) (a b : Int) (c0 : ltI a 1 = true) : Known Tryd.prog (tabG t) 29 [.agg ⟨[.int .i64 a,.int .i64 b]⟩] (.int .i64 1) := by
  have d0 := lt_t c0
  exact path_calls (ρ := ofInts [(.i64, a), (.i64, b)]) (tabs_G t) (size_V t) (floor_V t) (ofInts_plain _) (bt := [(13, vy 0, vi 1, vt)]) (ct := []) ⟨bh_lss rfl rfl rfl rfl c0, trivial⟩ trivial (el := []) trivial (args := [va [vy 0,vy 1]]) (v := vi 1) rfl rfl (by kernel_rfl) (r29_0 t)

theorem r29_1 (t : Nat → TypeId) : isVal (vi 1) (@run (tabPrims [(13, vy 0, vi 1, vf), (13, vy 1, vi 1, vt)] []) Tryd.prog (valOrc (fun _ => false) (tabG t) (ansT [])) 1000000 (.call 29 [va [vy 0,vy 1]] (tabG t))) = true := by kernel_rfl
theorem p29_1 (t : Nat → TypeId) (a b : Int) (c0 : ltI a 1 = false) (c1 : ltI b 1 = true) : Known Tryd.prog (tabG t) 29 [.agg ⟨[.int .i64 a,.int .i64 b]⟩] (.int .i64 1) := by
  have d0 := lt_f c0
  have d1 := lt_t c1
  exact path_calls (ρ := ofInts [(.i64, a), (.i64, b)]) (tabs_G t) (size_V t) (floor_V t) (ofInts_plain _) (bt := [(13, vy 0, vi 1, vf), (13, vy 1, vi 1, vt)]) (ct := []) ⟨bh_lss rfl rfl rfl rfl c0, bh_lss rfl rfl rfl rfl c1, trivial⟩ trivial (el := []) trivial (args := [va [vy 0,vy 1]]) (v := vi 1) rfl rfl (by kernel_rfl) (r29_1 t)

theorem r29_2 (t : Nat → TypeId) : isVal (vi 1) (@run (tabPrims [(13, vy 0, vi 1, vf), (13, vy 1, vi 1, vf), (13, vi 256, vi 0, vf), (3, vi 256, vy 0, vy 2), (15, vy 1, vy 2, vt)] []) Tryd.prog (valOrc (fun _ => false) (tabG t) (ansT [])) 1000000 (.call 29 [va [vy 0,vy 1]] (tabG t))) = true := by kernel_rfl
theorem p29_2 (t : Nat → TypeId) (a b : Int) (c0 : ltI a 1 = false) (c1 : ltI b 1 = false) (c2 : ltI (256 / a) b = true) : Known Tryd.prog (tabG t) 29 [.agg ⟨[.int .i64 a,.int .i64 b]⟩] (.int .i64 1) := by
  have d0 := lt_f c0
  have d1 := lt_f c1
  have d2 := lt_t c2
  exact path_calls (ρ := ofInts [(.i64, a), (.i64, b), (.i64, (256 / a))]) (tabs_G t) (size_V t) (floor_V t) (ofInts_plain _) (bt := [(13, vy 0, vi 1, vf), (13, vy 1, vi 1, vf), (13, vi 256, vi 0, vf), (3, vi 256, vy 0, vy 2), (15, vy 1, vy 2, vt)]) (ct := []) ⟨bh_lss rfl rfl rfl rfl c0, bh_lss rfl rfl rfl rfl c1, bh_lss rfl rfl rfl rfl (show ltI 256 0 = false from lt_ff (by omega)), bh_quo (a := 256) (b := a) rfl rfl rfl rfl rfl (by omega) (by show _ < (9223372036854775808 : Int); omega) (by omega) rfl, bh_gtr rfl rfl rfl rfl c2, trivial⟩ trivial (el := []) trivial (args := [va [vy 0,vy 1]]) (v := vi 1) rfl rfl (by kernel_rfl) (r29_2 t)

theorem r29_3 (t : Nat → TypeId) : isVal (vi 0) (@run (tabPrims [(13, vy 0, vi 1, vf), (13, vy 1, vi 1, vf), (13, vi 256, vi 0, vf), (3, vi 256, vy 0, vy 2), (15, vy 1, vy 2, vf)] []) Tryd.prog (valOrc (fun _ => false) (tabG t) (ansT [])) 1000000 (.call 29 [va [vy 0,vy 1]] (tabG t))) = true := by kernel_rfl
theorem p29_3 (t : Nat → TypeId) (a b : Int) (c0 : ltI a 1 = false) (c1 : ltI b 1 = false) (c2 : ltI (256 / a) b = false) : Known Tryd.prog (tabG t) 29 [.agg ⟨[.int .i64 a,.int .i64 b]⟩] (.int .i64 0) := by
  have d0 := lt_f c0
  have d1 := lt_f c1
  have d2 := lt_f c2
  exact path_calls (ρ := ofInts [(.i64, a), (.i64, b), (.i64, (256 / a))]) (tabs_G t) (size_V t) (floor_V t) (ofInts_plain _) (bt := [(13, vy 0, vi 1, vf), (13, vy 1, vi 1, vf), (13, vi 256, vi 0, vf), (3, vi 256, vy 0, vy 2), (15, vy 1, vy 2, vf)]) (ct := []) ⟨bh_lss rfl rfl rfl rfl c0, bh_lss rfl rfl rfl rfl c1, bh_lss rfl rfl rfl rfl (show ltI 256 0 = false from lt_ff (by omega)), bh_quo (a := 256) (b := a) rfl rfl rfl rfl rfl (by omega) (by show _ < (9223372036854775808 : Int); omega) (by omega) rfl, bh_gtr rfl rfl rfl rfl c2, trivial⟩ trivial (el := []) trivial (args := [va [vy 0,vy 1]]) (v := vi 0) rfl rfl (by kernel_rfl) (r29_3 t)

/-- What function 29 returns. -/
def F29 (a b : Int) : Value := (match ltI a 1 with | true => .int .i64 1 | false => (match ltI b 1 with | true => .int .i64 1 | false => (match ltI (256 / a) b with | true => .int .i64 1 | false => .int .i64 0)))
theorem s29 (t : Nat → TypeId) (a b : Int) : Known Tryd.prog (tabG t) 29 [.agg ⟨[.int .i64 a,.int .i64 b]⟩] (F29 a b) := by
  unfold F29
  cases c0 : ltI a 1 with
  | true =>
    exact p29_0 t a b c0
  | false =>
    cases c1 : ltI b 1 with
    | true =>
      exact p29_1 t a b c0 c1
    | false =>
      cases c2 : ltI (256 / a) b with
      | true =>
        exact p29_2 t a b c0 c1 c2
      | false =>
        exact p29_3 t a b c0 c1 c2
theorem fl29 (a b : Int) : flat (F29 a b) = true := by
  unfold F29
  repeat' split
  all_goals rfl
noncomputable def A29 (args : List Value) : Option Value := match args with
  | [.agg ⟨[.int .i64 a,.int .i64 b]⟩] => some (F29 a b)
  | _ => none
theorem a29 (t : Nat → TypeId) [Syms] : AnsOk Tryd.prog (tabG t) (fnAns 29 A29) := fnAns_ok (tabs_G t) (by
  intro args v h
  unfold A29 at h
  split at h
  · cases h
    exact ⟨s29 t _ _, rfl, fl29 _ _⟩
  · cases h)

theorem r30_0 (t : Nat → TypeId) : isVal (vi 0) (@run (tabPrims [(13, vy 0, vi 1, vt)] []) Tryd.prog (valOrc (fun _ => false) (tabG t) (ansT [])) 1000000 (.call 30 [va [vy 0,vy 1]] (tabG t))) = true := by kernel_rfl
theorem p30_0 (t : Nat → TypeId) (a b : Int) (c0 : ltI a 1 = true) : Known Tryd.prog (tabG t) 30 [.agg ⟨[.int .i64 a,.int .i64 b]⟩] (.int .i64 0) := by
  have d0 := lt_t c0
  exact path_calls (ρ := ofInts [(.i64, a), (.i64, b)]) (tabs_G t) (size_V t) (floor_V t) (ofInts_plain _) (bt := [(13, vy 0, vi 1, vt)]) (ct := []) ⟨bh_lss rfl rfl rfl rfl c0, trivial⟩ trivial (el := []) trivial (args := [va [vy 0,vy 1]]) (v := vi 0) rfl rfl (by kernel_rfl) (r30_0 t)

theorem r30_1 (t : Nat → TypeId) : isVal (vi 0) (@run (tabPrims [(13, vy 0, vi 1, vf), (13, vy 1, vi 1, vt)] []) Tryd.prog (valOrc (fun _ => false) (tabG t) (ansT [])) 1000000 (.call 30 [va [vy 0,vy 1]] (tabG t))) = true := by kernel_rfl
theorem p30_1 (t : Nat → TypeId) (a b : Int) (c0 : ltI a 1 = false) (c1 : ltI b 1 = true) : Known Tryd.prog (tabG t) 30 [.agg ⟨[.int .i64 a,.int .i64 b]⟩] (.int .i64 0) := by
  have d0 := lt_f c0
  have d1 := lt_t c1
  exact path_calls (ρ := ofInts [(.i64, a), (.i64, b)]) (tabs_G t) (size_V t) (floor_V t) (ofInts_plain _) (bt := [(13, vy 0, vi 1, vf), (13, vy 1, vi 1, vt)]) (ct := []) ⟨bh_lss rfl rfl rfl rfl c0, bh_lss rfl rfl rfl rfl c1, trivial⟩ trivial (el := []) trivial (args := [va [vy 0,vy 1]]) (v := vi 0) rfl rfl (by kernel_rfl) (r30_1 t)

theorem r30_2 (t : Nat → TypeId) : isVal (vi 0) (@run (tabPrims [(13, vy 0, vi 1, vf), (13, vy 1, vi 1, vf), (13, vi 256, vi 0, vf), (3, vi 256, vy 0, vy 2), (15, vy 1, vy 2, vt)] []) Tryd.prog (valOrc (fun _ => false) (tabG t) (ansT [])) 1000000 (.call 30 [va [vy 0,vy 1]] (tabG t))) = true := by kernel_rfl
theorem p30_2 (t : Nat → TypeId) (a b : Int) (c0 : ltI a 1 = false) (c1 : ltI b 1 = false) (c2 : ltI (256 / a) b = true) : Known Tryd.prog (tabG t) 30 [.agg ⟨[.int .i64 a,.int .i64 b]⟩] (.int .i64 0) := by
  have d0 := lt_f c0
  have d1 := lt_f c1
  have d2 := lt_t c2
  exact path_calls (ρ := ofInts [(.i64, a), (.i64, b), (.i64, (256 / a))]) (tabs_G t) (size_V t) (floor_V t) (ofInts_plain _) (bt := [(13, vy 0, vi 1, vf), (13, vy 1, vi 1, vf), (13, vi 256, vi 0, vf), (3, vi 256, vy 0, vy 2), (15, vy 1, vy 2, vt)]) (ct := []) ⟨bh_lss rfl rfl rfl rfl c0, bh_lss rfl rfl rfl rfl c1, bh_lss rfl rfl rfl rfl (show ltI 256 0 = false from lt_ff (by omega)), bh_quo (a := 256) (b := a) rfl rfl rfl rfl rfl (by omega) (by show _ < (9223372036854775808 : Int); omega) (by omega) rfl, bh_gtr rfl rfl rfl rfl c2, trivial⟩ trivial (el := []) trivial (args := [va [vy 0,vy 1]]) (v := vi 0) rfl rfl (by kernel_rfl) (r30_2 t)

theorem r30_3 (t : Nat → TypeId) : isVal (vy 4) (@run (tabPrims [(13, vy 0, vi 1, vf), (13, vy 1, vi 1, vf), (13, vi 256, vi 0, vf), (3, vi 256, vy 0, vy 2), (15, vy 1, vy 2, vf), (2, vi 4, vy 0, vy 3), (2, vy 3, vy 1, vy 4)] []) Tryd.prog (valOrc (fun _ => false) (tabG t) (ansT [])) 1000000 (.call 30 [va [vy 0,vy 1]] (tabG t))) = true := by kernel_rfl
theorem p30_3 (t : Nat → TypeId) (a b : Int) (c0 : ltI a 1 = false) (c1 : ltI b 1 = false) (c2 : ltI (256 / a) b = false) : Known Tryd.prog (tabG t) 30 [.agg ⟨[.int .i64 a,.int .i64 b]⟩] (.int .i64 (wrapF .i64 (Int.mul (wrapF .i64 (Int.mul 4 a)) b))) := by
  have d0 := lt_f c0
  have d1 := lt_f c1
  have d2 := lt_f c2
  exact path_calls (ρ := ofInts [(.i64, a), (.i64, b), (.i64, (256 / a)), (.i64, (wrapF .i64 (Int.mul 4 a))), (.i64, (wrapF .i64 (Int.mul (wrapF .i64 (Int.mul 4 a)) b)))]) (tabs_G t) (size_V t) (floor_V t) (ofInts_plain _) (bt := [(13, vy 0, vi 1, vf), (13, vy 1, vi 1, vf), (13, vi 256, vi 0, vf), (3, vi 256, vy 0, vy 2), (15, vy 1, vy 2, vf), (2, vi 4, vy 0, vy 3), (2, vy 3, vy 1, vy 4)]) (ct := []) ⟨bh_lss rfl rfl rfl rfl c0, bh_lss rfl rfl rfl rfl c1, bh_lss rfl rfl rfl rfl (show ltI 256 0 = false from lt_ff (by omega)), bh_quo (a := 256) (b := a) rfl rfl rfl rfl rfl (by omega) (by show _ < (9223372036854775808 : Int); omega) (by omega) rfl, bh_gtr rfl rfl rfl rfl c2, bh_mul rfl rfl rfl rfl rfl rfl, bh_mul rfl rfl rfl rfl rfl rfl, trivial⟩ trivial (el := []) trivial (args := [va [vy 0,vy 1]]) (v := vy 4) rfl rfl (by kernel_rfl) (r30_3 t)

/-- What function 30 returns. -/
def F30 (a b : Int) : Value := (match ltI a 1 with | true => .int .i64 0 | false => (match ltI b 1 with | true => .int .i64 0 | false => (match ltI (256 / a) b with | true => .int .i64 0 | false => .int .i64 (wrapF .i64 (Int.mul (wrapF .i64 (Int.mul 4 a)) b)))))
theorem s30 (t : Nat → TypeId) (a b : Int) : Known Tryd.prog (tabG t) 30 [.agg ⟨[.int .i64 a,.int .i64 b]⟩] (F30 a b) := by
  unfold F30
  cases c0 : ltI a 1 with
  | true =>
    exact p30_0 t a b c0
  | false =>
    cases c1 : ltI b 1 with
    | true =>
      exact p30_1 t a b c0 c1
    | false =>
      cases c2 : ltI (256 / a) b with
      | true =>
        exact p30_2 t a b c0 c1 c2
      | false =>
        exact p30_3 t a b c0 c1 c2
theorem fl30 (a b : Int) : flat (F30 a b) = true := by
  unfold F30
  repeat' split
  all_goals rfl
noncomputable def A30 (args : List Value) : Option Value := match args with
  | [.agg ⟨[.int .i64 a,.int .i64 b]⟩] => some (F30 a b)
  | _ => none
theorem a30 (t : Nat → TypeId) [Syms] : AnsOk Tryd.prog (tabG t) (fnAns 30 A30) := fnAns_ok (tabs_G t) (by
  intro args v h
  unfold A30 at h
  split at h
  · cases h
    exact ⟨s30 t _ _, rfl, fl30 _ _⟩
  · cases h)

theorem r11_0 (t : Nat → TypeId) : isVal (vp [va [vi 0,vi 0,vu 0],vi 1]) (@run (tabPrims [(13, vy 0, vi 1, vt)] []) Tryd.prog (valOrc (fun _ => false) (tabG t) (ansT [])) 1000000 (.call 11 [va [vy 0,vy 1], vy 2] (tabG t))) = true := by kernel_rfl
theorem p11_0 (t : Nat → TypeId) (a b i : Int) (h_i : -9223372036854775808 ≤ i ∧ i ≤ 9223372036854775807) (c0 : ltI a 1 = true) : Known Tryd.prog (tabG t) 11 [.agg ⟨[.int .i64 a,.int .i64 b]⟩, .int .i64 i] (.tuple ⟨[.agg ⟨[.int .i64 0,.int .i64 0,.int .u8 0]⟩,.int .i64 1]⟩) := by
  obtain ⟨h1_i, h2_i⟩ := h_i
  have d0 := lt_t c0
  exact path_calls (ρ := ofInts [(.i64, a), (.i64, b), (.i64, i)]) (tabs_G t) (size_V t) (floor_V t) (ofInts_plain _) (bt := [(13, vy 0, vi 1, vt)]) (ct := []) ⟨bh_lss rfl rfl rfl rfl c0, trivial⟩ trivial (el := []) trivial (args := [va [vy 0,vy 1], vy 2]) (v := vp [va [vi 0,vi 0,vu 0],vi 1]) rfl rfl (by kernel_rfl) (r11_0 t)

theorem r11_1 (t : Nat → TypeId) : isVal (vp [va [vi 0,vi 0,vu 0],vi 1]) (@run (tabPrims [(13, vy 0, vi 1, vf), (13, vy 1, vi 1, vt)] []) Tryd.prog (valOrc (fun _ => false) (tabG t) (ansT [])) 1000000 (.call 11 [va [vy 0,vy 1], vy 2] (tabG t))) = true := by kernel_rfl
theorem p11_1 (t : Nat → TypeId) (a b i : Int) (h_i : -9223372036854775808 ≤ i ∧ i ≤ 9223372036854775807) (c0 : ltI a 1 = false) (c1 : ltI b 1 = true) : Known Tryd.prog (tabG t) 11 [.agg ⟨[.int .i64 a,.int .i64 b]⟩, .int .i64 i] (.tuple ⟨[.agg ⟨[.int .i64 0,.int .i64 0,.int .u8 0]⟩,.int .i64 1]⟩) := by
  obtain ⟨h1_i, h2_i⟩ := h_i
  have d0 := lt_f c0
  have d1 := lt_t c1
  exact path_calls (ρ := ofInts [(.i64, a), (.i64, b), (.i64, i)]) (tabs_G t) (size_V t) (floor_V t) (ofInts_plain _) (bt := [(13, vy 0, vi 1, vf), (13, vy 1, vi 1, vt)]) (ct := []) ⟨bh_lss rfl rfl rfl rfl c0, bh_lss rfl rfl rfl rfl c1, trivial⟩ trivial (el := []) trivial (args := [va [vy 0,vy 1], vy 2]) (v := vp [va [vi 0,vi 0,vu 0],vi 1]) rfl rfl (by kernel_rfl) (r11_1 t)

theorem r11_2 (t : Nat → TypeId) : isVal (vp [va [vi 0,vi 0,vu 0],vi 1]) (@run (tabPrims [(13, vy 0, vi 1, vf), (13, vy 1, vi 1, vf), (13, vi 256, vi 0, vf), (3, vi 256, vy 0, vy 3), (15, vy 1, vy 3, vt)] []) Tryd.prog (valOrc (fun _ => false) (tabG t) (ansT [])) 1000000 (.call 11 [va [vy 0,vy 1], vy 2] (tabG t))) = true := by kernel_rfl
theorem p11_2 (t : Nat → TypeId) (a b i : Int) (h_i : -9223372036854775808 ≤ i ∧ i ≤ 9223372036854775807) (c0 : ltI a 1 = false) (c1 : ltI b 1 = false) (c2 : ltI (256 / a) b = true) : Known Tryd.prog (tabG t) 11 [.agg ⟨[.int .i64 a,.int .i64 b]⟩, .int .i64 i] (.tuple ⟨[.agg ⟨[.int .i64 0,.int .i64 0,.int .u8 0]⟩,.int .i64 1]⟩) := by
  obtain ⟨h1_i, h2_i⟩ := h_i
  have d0 := lt_f c0
  have d1 := lt_f c1
  have d2 := lt_t c2
  exact path_calls (ρ := ofInts [(.i64, a), (.i64, b), (.i64, i), (.i64, (256 / a))]) (tabs_G t) (size_V t) (floor_V t) (ofInts_plain _) (bt := [(13, vy 0, vi 1, vf), (13, vy 1, vi 1, vf), (13, vi 256, vi 0, vf), (3, vi 256, vy 0, vy 3), (15, vy 1, vy 3, vt)]) (ct := []) ⟨bh_lss rfl rfl rfl rfl c0, bh_lss rfl rfl rfl rfl c1, bh_lss rfl rfl rfl rfl (show ltI 256 0 = false from lt_ff (by omega)), bh_quo (a := 256) (b := a) rfl rfl rfl rfl rfl (by omega) (by show _ < (9223372036854775808 : Int); omega) (by omega) rfl, bh_gtr rfl rfl rfl rfl c2, trivial⟩ trivial (el := []) trivial (args := [va [vy 0,vy 1], vy 2]) (v := vp [va [vi 0,vi 0,vu 0],vi 1]) rfl rfl (by kernel_rfl) (r11_2 t)

theorem r11_3 (t : Nat → TypeId) : isVal (vp [va [vi 0,vi 0,vu 0],vi 7]) (@run (tabPrims [(13, vy 0, vi 1, vf), (13, vy 1, vi 1, vf), (13, vi 256, vi 0, vf), (3, vi 256, vy 0, vy 3), (15, vy 1, vy 3, vf), (13, vy 2, vi 0, vt)] []) Tryd.prog (valOrc (fun _ => false) (tabG t) (ansT [])) 1000000 (.call 11 [va [vy 0,vy 1], vy 2] (tabG t))) = true := by kernel_rfl
theorem p11_3 (t : Nat → TypeId) (a b i : Int) (h_i : -9223372036854775808 ≤ i ∧ i ≤ 9223372036854775807) (c0 : ltI a 1 = false) (c1 : ltI b 1 = false) (c2 : ltI (256 / a) b = false) (c3 : ltI i 0 = true) : Known Tryd.prog (tabG t) 11 [.agg ⟨[.int .i64 a,.int .i64 b]⟩, .int .i64 i] (.tuple ⟨[.agg ⟨[.int .i64 0,.int .i64 0,.int .u8 0]⟩,.int .i64 7]⟩) := by
  obtain ⟨h1_i, h2_i⟩ := h_i
  have d0 := lt_f c0
  have d1 := lt_f c1
  have d2 := lt_f c2
  have d3 := lt_t c3
  exact path_calls (ρ := ofInts [(.i64, a), (.i64, b), (.i64, i), (.i64, (256 / a))]) (tabs_G t) (size_V t) (floor_V t) (ofInts_plain _) (bt := [(13, vy 0, vi 1, vf), (13, vy 1, vi 1, vf), (13, vi 256, vi 0, vf), (3, vi 256, vy 0, vy 3), (15, vy 1, vy 3, vf), (13, vy 2, vi 0, vt)]) (ct := []) ⟨bh_lss rfl rfl rfl rfl c0, bh_lss rfl rfl rfl rfl c1, bh_lss rfl rfl rfl rfl (show ltI 256 0 = false from lt_ff (by omega)), bh_quo (a := 256) (b := a) rfl rfl rfl rfl rfl (by omega) (by show _ < (9223372036854775808 : Int); omega) (by omega) rfl, bh_gtr rfl rfl rfl rfl c2, bh_lss rfl rfl rfl rfl c3, trivial⟩ trivial (el := []) trivial (args := [va [vy 0,vy 1], vy 2]) (v := vp [va [vi 0,vi 0,vu 0],vi 7]) rfl rfl (by kernel_rfl) (r11_3 t)

theorem r11_4 (t : Nat → TypeId) : isVal (vp [va [vi 0,vi 0,vu 0],vi 7]) (@run (tabPrims [(13, vy 0, vi 1, vf), (13, vy 1, vi 1, vf), (13, vi 256, vi 0, vf), (3, vi 256, vy 0, vy 3), (15, vy 1, vy 3, vf), (13, vy 2, vi 0, vf), (2, vi 4, vy 0, vy 4), (2, vy 4, vy 1, vy 5), (16, vy 2, vy 5, vt)] []) Tryd.prog (valOrc (fun _ => false) (tabG t) (ansT [])) 1000000 (.call 11 [va [vy 0,vy 1], vy 2] (tabG t))) = true := by kernel_rfl
theorem p11_4 (t : Nat → TypeId) (a b i : Int) (h_i : -9223372036854775808 ≤ i ∧ i ≤ 9223372036854775807) (c0 : ltI a 1 = false) (c1 : ltI b 1 = false) (c2 : ltI (256 / a) b = false) (c3 : ltI i 0 = false) (c4 : ltI i (wrapF .i64 (Int.mul (wrapF .i64 (Int.mul 4 a)) b)) = false) : Known Tryd.prog (tabG t) 11 [.agg ⟨[.int .i64 a,.int .i64 b]⟩, .int .i64 i] (.tuple ⟨[.agg ⟨[.int .i64 0,.int .i64 0,.int .u8 0]⟩,.int .i64 7]⟩) := by
  obtain ⟨h1_i, h2_i⟩ := h_i
  have d0 := lt_f c0
  have d1 := lt_f c1
  have d2 := lt_f c2
  have d3 := lt_f c3
  have d4 := lt_f c4
  exact path_calls (ρ := ofInts [(.i64, a), (.i64, b), (.i64, i), (.i64, (256 / a)), (.i64, (wrapF .i64 (Int.mul 4 a))), (.i64, (wrapF .i64 (Int.mul (wrapF .i64 (Int.mul 4 a)) b)))]) (tabs_G t) (size_V t) (floor_V t) (ofInts_plain _) (bt := [(13, vy 0, vi 1, vf), (13, vy 1, vi 1, vf), (13, vi 256, vi 0, vf), (3, vi 256, vy 0, vy 3), (15, vy 1, vy 3, vf), (13, vy 2, vi 0, vf), (2, vi 4, vy 0, vy 4), (2, vy 4, vy 1, vy 5), (16, vy 2, vy 5, vt)]) (ct := []) ⟨bh_lss rfl rfl rfl rfl c0, bh_lss rfl rfl rfl rfl c1, bh_lss rfl rfl rfl rfl (show ltI 256 0 = false from lt_ff (by omega)), bh_quo (a := 256) (b := a) rfl rfl rfl rfl rfl (by omega) (by show _ < (9223372036854775808 : Int); omega) (by omega) rfl, bh_gtr rfl rfl rfl rfl c2, bh_lss rfl rfl rfl rfl c3, bh_mul rfl rfl rfl rfl rfl rfl, bh_mul rfl rfl rfl rfl rfl rfl, bh_geqT rfl rfl rfl rfl c4, trivial⟩ trivial (el := []) trivial (args := [va [vy 0,vy 1], vy 2]) (v := vp [va [vi 0,vi 0,vu 0],vi 7]) rfl rfl (by kernel_rfl) (r11_4 t)

theorem r11_5 (t : Nat → TypeId) : isVal (vp [va [vy 7,vy 8,vy 10],vi 0]) (@run (tabPrims [(13, vy 0, vi 1, vf), (13, vy 1, vi 1, vf), (13, vi 256, vi 0, vf), (3, vi 256, vy 0, vy 3), (15, vy 1, vy 3, vf), (13, vy 2, vi 0, vf), (2, vi 4, vy 0, vy 4), (2, vy 4, vy 1, vy 5), (16, vy 2, vy 5, vf), (3, vy 2, vi 4, vy 6), (13, vy 6, vi 0, vf), (4, vy 6, vy 0, vy 7), (3, vy 6, vy 0, vy 8), (4, vy 2, vi 4, vy 9)] [(4, vy 9, vy 10)]) Tryd.prog (valOrc (fun _ => false) (tabG t) (ansT [])) 1000000 (.call 11 [va [vy 0,vy 1], vy 2] (tabG t))) = true := by kernel_rfl
theorem p11_5 (t : Nat → TypeId) (a b i : Int) (h_i : -9223372036854775808 ≤ i ∧ i ≤ 9223372036854775807) (c0 : ltI a 1 = false) (c1 : ltI b 1 = false) (c2 : ltI (256 / a) b = false) (c3 : ltI i 0 = false) (c4 : ltI i (wrapF .i64 (Int.mul (wrapF .i64 (Int.mul 4 a)) b)) = true) : Known Tryd.prog (tabG t) 11 [.agg ⟨[.int .i64 a,.int .i64 b]⟩, .int .i64 i] (.tuple ⟨[.agg ⟨[.int .i64 ((i / 4) % a),.int .i64 ((i / 4) / a),.int .u8 (wrapF .u8 (i % 4))]⟩,.int .i64 0]⟩) := by
  obtain ⟨h1_i, h2_i⟩ := h_i
  have d0 := lt_f c0
  have d1 := lt_f c1
  have d2 := lt_f c2
  have d3 := lt_f c3
  have d4 := lt_t c4
  have w10 : (wrapF .u8 (i % 4)) = (i % 4) := wid_u8 (n := (i % 4)) (by omega) (by omega)
  exact path_calls (ρ := ofInts [(.i64, a), (.i64, b), (.i64, i), (.i64, (256 / a)), (.i64, (wrapF .i64 (Int.mul 4 a))), (.i64, (wrapF .i64 (Int.mul (wrapF .i64 (Int.mul 4 a)) b))), (.i64, (i / 4)), (.i64, ((i / 4) % a)), (.i64, ((i / 4) / a)), (.i64, (i % 4)), (.u8, (wrapF .u8 (i % 4)))]) (tabs_G t) (size_V t) (floor_V t) (ofInts_plain _) (bt := [(13, vy 0, vi 1, vf), (13, vy 1, vi 1, vf), (13, vi 256, vi 0, vf), (3, vi 256, vy 0, vy 3), (15, vy 1, vy 3, vf), (13, vy 2, vi 0, vf), (2, vi 4, vy 0, vy 4), (2, vy 4, vy 1, vy 5), (16, vy 2, vy 5, vf), (3, vy 2, vi 4, vy 6), (13, vy 6, vi 0, vf), (4, vy 6, vy 0, vy 7), (3, vy 6, vy 0, vy 8), (4, vy 2, vi 4, vy 9)]) (ct := [(4, vy 9, vy 10)]) ⟨bh_lss rfl rfl rfl rfl c0, bh_lss rfl rfl rfl rfl c1, bh_lss rfl rfl rfl rfl (show ltI 256 0 = false from lt_ff (by omega)), bh_quo (a := 256) (b := a) rfl rfl rfl rfl rfl (by omega) (by show _ < (9223372036854775808 : Int); omega) (by omega) rfl, bh_gtr rfl rfl rfl rfl c2, bh_lss rfl rfl rfl rfl c3, bh_mul rfl rfl rfl rfl rfl rfl, bh_mul rfl rfl rfl rfl rfl rfl, bh_geqF rfl rfl rfl rfl c4, bh_quo (a := i) (b := 4) rfl rfl rfl rfl rfl (by omega) (by show _ < (9223372036854775808 : Int); omega) (by omega) rfl, bh_lss rfl rfl rfl rfl (show ltI (i / 4) 0 = false from lt_ff (by omega)), bh_rem (a := (i / 4)) (b := a) rfl rfl rfl rfl rfl (by omega) (by omega) rfl, bh_quo (a := (i / 4)) (b := a) rfl rfl rfl rfl rfl (by omega) (by show _ < (9223372036854775808 : Int); omega) (by omega) rfl, bh_rem (a := i) (b := 4) rfl rfl rfl rfl rfl (by omega) (by omega) rfl, trivial⟩ ⟨ch_conv rfl rfl rfl rfl rfl, trivial⟩ (el := []) trivial (args := [va [vy 0,vy 1], vy 2]) (v := vp [va [vy 7,vy 8,vy 10],vi 0]) rfl rfl (by kernel_rfl) (r11_5 t)

/-- What function 11 returns. -/
def F11 (a b i : Int) : Value := (match ltI a 1 with | true => .tuple ⟨[.agg ⟨[.int .i64 0,.int .i64 0,.int .u8 0]⟩,.int .i64 1]⟩ | false => (match ltI b 1 with | true => .tuple ⟨[.agg ⟨[.int .i64 0,.int .i64 0,.int .u8 0]⟩,.int .i64 1]⟩ | false => (match ltI (256 / a) b with | true => .tuple ⟨[.agg ⟨[.int .i64 0,.int .i64 0,.int .u8 0]⟩,.int .i64 1]⟩ | false => (match ltI i 0 with | true => .tuple ⟨[.agg ⟨[.int .i64 0,.int .i64 0,.int .u8 0]⟩,.int .i64 7]⟩ | false => (match ltI i (wrapF .i64 (Int.mul (wrapF .i64 (Int.mul 4 a)) b)) with | true => .tuple ⟨[.agg ⟨[.int .i64 ((i / 4) % a),.int .i64 ((i / 4) / a),.int .u8 (wrapF .u8 (i % 4))]⟩,.int .i64 0]⟩ | false => .tuple ⟨[.agg ⟨[.int .i64 0,.int .i64 0,.int .u8 0]⟩,.int .i64 7]⟩)))))
theorem s11 (t : Nat → TypeId) (a b i : Int) (h_i : -9223372036854775808 ≤ i ∧ i ≤ 9223372036854775807) : Known Tryd.prog (tabG t) 11 [.agg ⟨[.int .i64 a,.int .i64 b]⟩, .int .i64 i] (F11 a b i) := by
  unfold F11
  cases c0 : ltI a 1 with
  | true =>
    exact p11_0 t a b i h_i c0
  | false =>
    cases c1 : ltI b 1 with
    | true =>
      exact p11_1 t a b i h_i c0 c1
    | false =>
      cases c2 : ltI (256 / a) b with
      | true =>
        exact p11_2 t a b i h_i c0 c1 c2
      | false =>
        cases c3 : ltI i 0 with
        | true =>
          exact p11_3 t a b i h_i c0 c1 c2 c3
        | false =>
          cases c4 : ltI i (wrapF .i64 (Int.mul (wrapF .i64 (Int.mul 4 a)) b)) with
          | true =>
            exact p11_5 t a b i h_i c0 c1 c2 c3 c4
          | false =>
            exact p11_4 t a b i h_i c0 c1 c2 c3 c4
theorem fl11 (a b i : Int) : flat (F11 a b i) = true := by
  unfold F11
  repeat' split
  all_goals rfl
noncomputable def A11 (args : List Value) : Option Value := match args with
  | [.agg ⟨[.int .i64 a,.int .i64 b]⟩, .int .i64 i] => (match inR (-9223372036854775808) 9223372036854775807 i with | true => some (F11 a b i) | false => none)
  | _ => none
theorem a11 (t : Nat → TypeId) [Syms] : AnsOk Tryd.prog (tabG t) (fnAns 11 A11) := fnAns_ok (tabs_G t) (by
  intro args v h
  unfold A11 at h
  split at h
  · split at h
    · rename_i hr_i
      cases h
      exact ⟨s11 t _ _ _ (inR_spec hr_i), rfl, fl11 _ _ _⟩
    · cases h
  · cases h)

theorem r12_0 (t : Nat → TypeId) : isVal (vp [vi 0,vi 1]) (@run (tabPrims [(13, vy 0, vi 1, vt)] []) Tryd.prog (valOrc (fun _ => false) (tabG t) (ansT [])) 1000000 (.call 12 [va [vy 0,vy 1], va [vy 2,vy 3,vy 4]] (tabG t))) = true := by kernel_rfl
theorem p12_0 (t : Nat → TypeId) (a b x y q : Int) (h_q : 0 ≤ q ∧ q ≤ 255) (c0 : ltI a 1 = true) : Known Tryd.prog (tabG t) 12 [.agg ⟨[.int .i64 a,.int .i64 b]⟩, .agg ⟨[.int .i64 x,.int .i64 y,.int .u8 q]⟩] (.tuple ⟨[.int .i64 0,.int .i64 1]⟩) := by
  obtain ⟨h1_q, h2_q⟩ := h_q
  have d0 := lt_t c0
  exact path_calls (ρ := ofInts [(.i64, a), (.i64, b), (.i64, x), (.i64, y), (.u8, q)]) (tabs_G t) (size_V t) (floor_V t) (ofInts_plain _) (bt := [(13, vy 0, vi 1, vt)]) (ct := []) ⟨bh_lss rfl rfl rfl rfl c0, trivial⟩ trivial (el := []) trivial (args := [va [vy 0,vy 1], va [vy 2,vy 3,vy 4]]) (v := vp [vi 0,vi 1]) rfl rfl (by kernel_rfl) (r12_0 t)

theorem r12_1 (t : Nat → TypeId) : isVal (vp [vi 0,vi 1]) (@run (tabPrims [(13, vy 0, vi 1, vf), (13, vy 1, vi 1, vt)] []) Tryd.prog (valOrc (fun _ => false) (tabG t) (ansT [])) 1000000 (.call 12 [va [vy 0,vy 1], va [vy 2,vy 3,vy 4]] (tabG t))) = true := by kernel_rfl
theorem p12_1 (t : Nat → TypeId) (a b x y q : Int) (h_q : 0 ≤ q ∧ q ≤ 255) (c0 : ltI a 1 = false) (c1 : ltI b 1 = true) : Known Tryd.prog (tabG t) 12 [.agg ⟨[.int .i64 a,.int .i64 b]⟩, .agg ⟨[.int .i64 x,.int .i64 y,.int .u8 q]⟩] (.tuple ⟨[.int .i64 0,.int .i64 1]⟩) := by
  obtain ⟨h1_q, h2_q⟩ := h_q
  have d0 := lt_f c0
  have d1 := lt_t c1
  exact path_calls (ρ := ofInts [(.i64, a), (.i64, b), (.i64, x), (.i64, y), (.u8, q)]) (tabs_G t) (size_V t) (floor_V t) (ofInts_plain _) (bt := [(13, vy 0, vi 1, vf), (13, vy 1, vi 1, vt)]) (ct := []) ⟨bh_lss rfl rfl rfl rfl c0, bh_lss rfl rfl rfl rfl c1, trivial⟩ trivial (el := []) trivial (args := [va [vy 0,vy 1], va [vy 2,vy 3,vy 4]]) (v := vp [vi 0,vi 1]) rfl rfl (by kernel_rfl) (r12_1 t)

theorem r12_2 (t : Nat → TypeId) : isVal (vp [vi 0,vi 1]) (@run (tabPrims [(13, vy 0, vi 1, vf), (13, vy 1, vi 1, vf), (13, vi 256, vi 0, vf), (3, vi 256, vy 0, vy 5), (15, vy 1, vy 5, vt)] []) Tryd.prog (valOrc (fun _ => false) (tabG t) (ansT [])) 1000000 (.call 12 [va [vy 0,vy 1], va [vy 2,vy 3,vy 4]] (tabG t))) = true := by kernel_rfl
theorem p12_2 (t : Nat → TypeId) (a b x y q : Int) (h_q : 0 ≤ q ∧ q ≤ 255) (c0 : ltI a 1 = false) (c1 : ltI b 1 = false) (c2 : ltI (256 / a) b = true) : Known Tryd.prog (tabG t) 12 [.agg ⟨[.int .i64 a,.int .i64 b]⟩, .agg ⟨[.int .i64 x,.int .i64 y,.int .u8 q]⟩] (.tuple ⟨[.int .i64 0,.int .i64 1]⟩) := by
  obtain ⟨h1_q, h2_q⟩ := h_q
  have d0 := lt_f c0
  have d1 := lt_f c1
  have d2 := lt_t c2
  exact path_calls (ρ := ofInts [(.i64, a), (.i64, b), (.i64, x), (.i64, y), (.u8, q), (.i64, (256 / a))]) (tabs_G t) (size_V t) (floor_V t) (ofInts_plain _) (bt := [(13, vy 0, vi 1, vf), (13, vy 1, vi 1, vf), (13, vi 256, vi 0, vf), (3, vi 256, vy 0, vy 5), (15, vy 1, vy 5, vt)]) (ct := []) ⟨bh_lss rfl rfl rfl rfl c0, bh_lss rfl rfl rfl rfl c1, bh_lss rfl rfl rfl rfl (show ltI 256 0 = false from lt_ff (by omega)), bh_quo (a := 256) (b := a) rfl rfl rfl rfl rfl (by omega) (by show _ < (9223372036854775808 : Int); omega) (by omega) rfl, bh_gtr rfl rfl rfl rfl c2, trivial⟩ trivial (el := []) trivial (args := [va [vy 0,vy 1], va [vy 2,vy 3,vy 4]]) (v := vp [vi 0,vi 1]) rfl rfl (by kernel_rfl) (r12_2 t)

theorem r12_3 (t : Nat → TypeId) : isVal (vp [vi 0,vi 7]) (@run (tabPrims [(13, vy 0, vi 1, vf), (13, vy 1, vi 1, vf), (13, vi 256, vi 0, vf), (3, vi 256, vy 0, vy 5), (15, vy 1, vy 5, vf), (16, vy 4, vu 4, vt)] []) Tryd.prog (valOrc (fun _ => false) (tabG t) (ansT [])) 1000000 (.call 12 [va [vy 0,vy 1], va [vy 2,vy 3,vy 4]] (tabG t))) = true := by kernel_rfl
theorem p12_3 (t : Nat → TypeId) (a b x y q : Int) (h_q : 0 ≤ q ∧ q ≤ 255) (c0 : ltI a 1 = false) (c1 : ltI b 1 = false) (c2 : ltI (256 / a) b = false) (c3 : ltI q 4 = false) : Known Tryd.prog (tabG t) 12 [.agg ⟨[.int .i64 a,.int .i64 b]⟩, .agg ⟨[.int .i64 x,.int .i64 y,.int .u8 q]⟩] (.tuple ⟨[.int .i64 0,.int .i64 7]⟩) := by
  obtain ⟨h1_q, h2_q⟩ := h_q
  have d0 := lt_f c0
  have d1 := lt_f c1
  have d2 := lt_f c2
  have d3 := lt_f c3
  exact path_calls (ρ := ofInts [(.i64, a), (.i64, b), (.i64, x), (.i64, y), (.u8, q), (.i64, (256 / a))]) (tabs_G t) (size_V t) (floor_V t) (ofInts_plain _) (bt := [(13, vy 0, vi 1, vf), (13, vy 1, vi 1, vf), (13, vi 256, vi 0, vf), (3, vi 256, vy 0, vy 5), (15, vy 1, vy 5, vf), (16, vy 4, vu 4, vt)]) (ct := []) ⟨bh_lss rfl rfl rfl rfl c0, bh_lss rfl rfl rfl rfl c1, bh_lss rfl rfl rfl rfl (show ltI 256 0 = false from lt_ff (by omega)), bh_quo (a := 256) (b := a) rfl rfl rfl rfl rfl (by omega) (by show _ < (9223372036854775808 : Int); omega) (by omega) rfl, bh_gtr rfl rfl rfl rfl c2, bh_geqT rfl rfl rfl rfl c3, trivial⟩ trivial (el := []) trivial (args := [va [vy 0,vy 1], va [vy 2,vy 3,vy 4]]) (v := vp [vi 0,vi 7]) rfl rfl (by kernel_rfl) (r12_3 t)

theorem r12_4 (t : Nat → TypeId) : isVal (vp [vy 10,vi 0]) (@run (tabPrims [(13, vy 0, vi 1, vf), (13, vy 1, vi 1, vf), (13, vi 256, vi 0, vf), (3, vi 256, vy 0, vy 5), (15, vy 1, vy 5, vf), (16, vy 4, vu 4, vf), (14, vn 4095, vy 2, vt), (14, vy 2, vi 4096, vt), (14, vn 4095, vy 3, vt), (14, vy 3, vi 4096, vt), (14, vi 0, vy 2, vt), (13, vy 2, vy 0, vt), (14, vi 0, vy 3, vt), (13, vy 3, vy 1, vt), (2, vy 3, vy 0, vy 6), (0, vy 6, vy 2, vy 7), (2, vi 4, vy 7, vy 8), (0, vy 8, vy 9, vy 10)] [(3, vy 4, vy 9)]) Tryd.prog (valOrc (fun _ => false) (tabG t) (ansT [])) 1000000 (.call 12 [va [vy 0,vy 1], va [vy 2,vy 3,vy 4]] (tabG t))) = true := by kernel_rfl
theorem p12_4 (t : Nat → TypeId) (a b x y q : Int) (h_q : 0 ≤ q ∧ q ≤ 255) (c0 : ltI a 1 = false) (c1 : ltI b 1 = false) (c2 : ltI (256 / a) b = false) (c3 : ltI q 4 = true) (c4 : ltI x (-4096) = false) (c5 : ltI 4096 x = false) (c6 : ltI y (-4096) = false) (c7 : ltI 4096 y = false) (c8 : ltI x 0 = false) (c9 : ltI x a = true) (c10 : ltI y 0 = false) (c11 : ltI y b = true) : Known Tryd.prog (tabG t) 12 [.agg ⟨[.int .i64 a,.int .i64 b]⟩, .agg ⟨[.int .i64 x,.int .i64 y,.int .u8 q]⟩] (.tuple ⟨[.int .i64 (wrapF .i64 (Int.add (wrapF .i64 (Int.mul 4 (wrapF .i64 (Int.add (wrapF .i64 (Int.mul y a)) x)))) q)),.int .i64 0]⟩) := by
  obtain ⟨h1_q, h2_q⟩ := h_q
  have d0 := lt_f c0
  have d1 := lt_f c1
  have d2 := lt_f c2
  have d3 := lt_t c3
  have d4 := lt_f c4
  have d5 := lt_f c5
  have d6 := lt_f c6
  have d7 := lt_f c7
  have d8 := lt_f c8
  have d9 := lt_t c9
  have d10 := lt_f c10
  have d11 := lt_t c11
  exact path_calls (ρ := ofInts [(.i64, a), (.i64, b), (.i64, x), (.i64, y), (.u8, q), (.i64, (256 / a)), (.i64, (wrapF .i64 (Int.mul y a))), (.i64, (wrapF .i64 (Int.add (wrapF .i64 (Int.mul y a)) x))), (.i64, (wrapF .i64 (Int.mul 4 (wrapF .i64 (Int.add (wrapF .i64 (Int.mul y a)) x))))), (.i64, q), (.i64, (wrapF .i64 (Int.add (wrapF .i64 (Int.mul 4 (wrapF .i64 (Int.add (wrapF .i64 (Int.mul y a)) x)))) q)))]) (tabs_G t) (size_V t) (floor_V t) (ofInts_plain _) (bt := [(13, vy 0, vi 1, vf), (13, vy 1, vi 1, vf), (13, vi 256, vi 0, vf), (3, vi 256, vy 0, vy 5), (15, vy 1, vy 5, vf), (16, vy 4, vu 4, vf), (14, vn 4095, vy 2, vt), (14, vy 2, vi 4096, vt), (14, vn 4095, vy 3, vt), (14, vy 3, vi 4096, vt), (14, vi 0, vy 2, vt), (13, vy 2, vy 0, vt), (14, vi 0, vy 3, vt), (13, vy 3, vy 1, vt), (2, vy 3, vy 0, vy 6), (0, vy 6, vy 2, vy 7), (2, vi 4, vy 7, vy 8), (0, vy 8, vy 9, vy 10)]) (ct := [(3, vy 4, vy 9)]) ⟨bh_lss rfl rfl rfl rfl c0, bh_lss rfl rfl rfl rfl c1, bh_lss rfl rfl rfl rfl (show ltI 256 0 = false from lt_ff (by omega)), bh_quo (a := 256) (b := a) rfl rfl rfl rfl rfl (by omega) (by show _ < (9223372036854775808 : Int); omega) (by omega) rfl, bh_gtr rfl rfl rfl rfl c2, bh_geqF rfl rfl rfl rfl c3, bh_leqT rfl rfl rfl rfl c4, bh_leqT rfl rfl rfl rfl c5, bh_leqT rfl rfl rfl rfl c6, bh_leqT rfl rfl rfl rfl c7, bh_leqT rfl rfl rfl rfl c8, bh_lss rfl rfl rfl rfl c9, bh_leqT rfl rfl rfl rfl c10, bh_lss rfl rfl rfl rfl c11, bh_mul rfl rfl rfl rfl rfl rfl, bh_add rfl rfl rfl rfl rfl rfl, bh_mul rfl rfl rfl rfl rfl rfl, bh_add rfl rfl rfl rfl rfl rfl, trivial⟩ ⟨b6_conv (a := q) (c := q) rfl rfl rfl rfl rfl (by omega) (by omega) (by omega), trivial⟩ (el := []) trivial (args := [va [vy 0,vy 1], va [vy 2,vy 3,vy 4]]) (v := vp [vy 10,vi 0]) rfl rfl (by kernel_rfl) (r12_4 t)

theorem r12_5 (t : Nat → TypeId) : isVal (vp [vi 0,vi 7]) (@run (tabPrims [(13, vy 0, vi 1, vf), (13, vy 1, vi 1, vf), (13, vi 256, vi 0, vf), (3, vi 256, vy 0, vy 5), (15, vy 1, vy 5, vf), (16, vy 4, vu 4, vf), (14, vn 4095, vy 2, vt), (14, vy 2, vi 4096, vt), (14, vn 4095, vy 3, vt), (14, vy 3, vi 4096, vt), (14, vi 0, vy 2, vt), (13, vy 2, vy 0, vt), (14, vi 0, vy 3, vt), (13, vy 3, vy 1, vf)] []) Tryd.prog (valOrc (fun _ => false) (tabG t) (ansT [])) 1000000 (.call 12 [va [vy 0,vy 1], va [vy 2,vy 3,vy 4]] (tabG t))) = true := by kernel_rfl
theorem p12_5 (t : Nat → TypeId) (a b x y q : Int) (h_q : 0 ≤ q ∧ q ≤ 255) (c0 : ltI a 1 = false) (c1 : ltI b 1 = false) (c2 : ltI (256 / a) b = false) (c3 : ltI q 4 = true) (c4 : ltI x (-4096) = false) (c5 : ltI 4096 x = false) (c6 : ltI y (-4096) = false) (c7 : ltI 4096 y = false) (c8 : ltI x 0 = false) (c9 : ltI x a = true) (c10 : ltI y 0 = false) (c11 : ltI y b = false) : Known Tryd.prog (tabG t) 12 [.agg ⟨[.int .i64 a,.int .i64 b]⟩, .agg ⟨[.int .i64 x,.int .i64 y,.int .u8 q]⟩] (.tuple ⟨[.int .i64 0,.int .i64 7]⟩) := by
  obtain ⟨h1_q, h2_q⟩ := h_q
  have d0 := lt_f c0
  have d1 := lt_f c1
  have d2 := lt_f c2
  have d3 := lt_t c3
  have d4 := lt_f c4
  have d5 := lt_f c5
  have d6 := lt_f c6
  have d7 := lt_f c7
  have d8 := lt_f c8
  have d9 := lt_t c9
  have d10 := lt_f c10
  have d11 := lt_f c11
  exact path_calls (ρ := ofInts [(.i64, a), (.i64, b), (.i64, x), (.i64, y), (.u8, q), (.i64, (256 / a))]) (tabs_G t) (size_V t) (floor_V t) (ofInts_plain _) (bt := [(13, vy 0, vi 1, vf), (13, vy 1, vi 1, vf), (13, vi 256, vi 0, vf), (3, vi 256, vy 0, vy 5), (15, vy 1, vy 5, vf), (16, vy 4, vu 4, vf), (14, vn 4095, vy 2, vt), (14, vy 2, vi 4096, vt), (14, vn 4095, vy 3, vt), (14, vy 3, vi 4096, vt), (14, vi 0, vy 2, vt), (13, vy 2, vy 0, vt), (14, vi 0, vy 3, vt), (13, vy 3, vy 1, vf)]) (ct := []) ⟨bh_lss rfl rfl rfl rfl c0, bh_lss rfl rfl rfl rfl c1, bh_lss rfl rfl rfl rfl (show ltI 256 0 = false from lt_ff (by omega)), bh_quo (a := 256) (b := a) rfl rfl rfl rfl rfl (by omega) (by show _ < (9223372036854775808 : Int); omega) (by omega) rfl, bh_gtr rfl rfl rfl rfl c2, bh_geqF rfl rfl rfl rfl c3, bh_leqT rfl rfl rfl rfl c4, bh_leqT rfl rfl rfl rfl c5, bh_leqT rfl rfl rfl rfl c6, bh_leqT rfl rfl rfl rfl c7, bh_leqT rfl rfl rfl rfl c8, bh_lss rfl rfl rfl rfl c9, bh_leqT rfl rfl rfl rfl c10, bh_lss rfl rfl rfl rfl c11, trivial⟩ trivial (el := []) trivial (args := [va [vy 0,vy 1], va [vy 2,vy 3,vy 4]]) (v := vp [vi 0,vi 7]) rfl rfl (by kernel_rfl) (r12_5 t)

theorem r12_6 (t : Nat → TypeId) : isVal (vp [vi 0,vi 7]) (@run (tabPrims [(13, vy 0, vi 1, vf), (13, vy 1, vi 1, vf), (13, vi 256, vi 0, vf), (3, vi 256, vy 0, vy 5), (15, vy 1, vy 5, vf), (16, vy 4, vu 4, vf), (14, vn 4095, vy 2, vt), (14, vy 2, vi 4096, vt), (14, vn 4095, vy 3, vt), (14, vy 3, vi 4096, vt), (14, vi 0, vy 2, vt), (13, vy 2, vy 0, vt), (14, vi 0, vy 3, vf)] []) Tryd.prog (valOrc (fun _ => false) (tabG t) (ansT [])) 1000000 (.call 12 [va [vy 0,vy 1], va [vy 2,vy 3,vy 4]] (tabG t))) = true := by kernel_rfl
theorem p12_6 (t : Nat → TypeId) (a b x y q : Int) (h_q : 0 ≤ q ∧ q ≤ 255) (c0 : ltI a 1 = false) (c1 : ltI b 1 = false) (c2 : ltI (256 / a) b = false) (c3 : ltI q 4 = true) (c4 : ltI x (-4096) = false) (c5 : ltI 4096 x = false) (c6 : ltI y (-4096) = false) (c7 : ltI 4096 y = false) (c8 : ltI x 0 = false) (c9 : ltI x a = true) (c10 : ltI y 0 = true) : Known Tryd.prog (tabG t) 12 [.agg ⟨[.int .i64 a,.int .i64 b]⟩, .agg ⟨[.int .i64 x,.int .i64 y,.int .u8 q]⟩] (.tuple ⟨[.int .i64 0,.int .i64 7]⟩) := by
  obtain ⟨h1_q, h2_q⟩ := h_q
  have d0 := lt_f c0
  have d1 := lt_f c1
  have d2 := lt_f c2
  have d3 := lt_t c3
  have d4 := lt_f c4
  have d5 := lt_f c5
  have d6 := lt_f c6
  have d7 := lt_f c7
  have d8 := lt_f c8
  have d9 := lt_t c9
  have d10 := lt_t c10
  exact path_calls (ρ := ofInts [(.i64, a), (.i64, b), (.i64, x), (.i64, y), (.u8, q), (.i64, (256 / a))]) (tabs_G t) (size_V t) (floor_V t) (ofInts_plain _) (bt := [(13, vy 0, vi 1, vf), (13, vy 1, vi 1, vf), (13, vi 256, vi 0, vf), (3, vi 256, vy 0, vy 5), (15, vy 1, vy 5, vf), (16, vy 4, vu 4, vf), (14, vn 4095, vy 2, vt), (14, vy 2, vi 4096, vt), (14, vn 4095, vy 3, vt), (14, vy 3, vi 4096, vt), (14, vi 0, vy 2, vt), (13, vy 2, vy 0, vt), (14, vi 0, vy 3, vf)]) (ct := []) ⟨bh_lss rfl rfl rfl rfl c0, bh_lss rfl rfl rfl rfl c1, bh_lss rfl rfl rfl rfl (show ltI 256 0 = false from lt_ff (by omega)), bh_quo (a := 256) (b := a) rfl rfl rfl rfl rfl (by omega) (by show _ < (9223372036854775808 : Int); omega) (by omega) rfl, bh_gtr rfl rfl rfl rfl c2, bh_geqF rfl rfl rfl rfl c3, bh_leqT rfl rfl rfl rfl c4, bh_leqT rfl rfl rfl rfl c5, bh_leqT rfl rfl rfl rfl c6, bh_leqT rfl rfl rfl rfl c7, bh_leqT rfl rfl rfl rfl c8, bh_lss rfl rfl rfl rfl c9, bh_leqF rfl rfl rfl rfl c10, trivial⟩ trivial (el := []) trivial (args := [va [vy 0,vy 1], va [vy 2,vy 3,vy 4]]) (v := vp [vi 0,vi 7]) rfl rfl (by kernel_rfl) (r12_6 t)

theorem r12_7 (t : Nat → TypeId) : isVal (vp [vi 0,vi 7]) (@run (tabPrims [(13, vy 0, vi 1, vf), (13, vy 1, vi 1, vf), (13, vi 256, vi 0, vf), (3, vi 256, vy 0, vy 5), (15, vy 1, vy 5, vf), (16, vy 4, vu 4, vf), (14, vn 4095, vy 2, vt), (14, vy 2, vi 4096, vt), (14, vn 4095, vy 3, vt), (14, vy 3, vi 4096, vt), (14, vi 0, vy 2, vt), (13, vy 2, vy 0, vf)] []) Tryd.prog (valOrc (fun _ => false) (tabG t) (ansT [])) 1000000 (.call 12 [va [vy 0,vy 1], va [vy 2,vy 3,vy 4]] (tabG t))) = true := by kernel_rfl
theorem p12_7 (t : Nat → TypeId) (a b x y q : Int) (h_q : 0 ≤ q ∧ q ≤ 255) (c0 : ltI a 1 = false) (c1 : ltI b 1 = false) (c2 : ltI (256 / a) b = false) (c3 : ltI q 4 = true) (c4 : ltI x (-4096) = false) (c5 : ltI 4096 x = false) (c6 : ltI y (-4096) = false) (c7 : ltI 4096 y = false) (c8 : ltI x 0 = false) (c9 : ltI x a = false) : Known Tryd.prog (tabG t) 12 [.agg ⟨[.int .i64 a,.int .i64 b]⟩, .agg ⟨[.int .i64 x,.int .i64 y,.int .u8 q]⟩] (.tuple ⟨[.int .i64 0,.int .i64 7]⟩) := by
  obtain ⟨h1_q, h2_q⟩ := h_q
  have d0 := lt_f c0
  have d1 := lt_f c1
  have d2 := lt_f c2
  have d3 := lt_t c3
  have d4 := lt_f c4
  have d5 := lt_f c5
  have d6 := lt_f c6
  have d7 := lt_f c7
  have d8 := lt_f c8
  have d9 := lt_f c9
  exact path_calls (ρ := ofInts [(.i64, a), (.i64, b), (.i64, x), (.i64, y), (.u8, q), (.i64, (256 / a))]) (tabs_G t) (size_V t) (floor_V t) (ofInts_plain _) (bt := [(13, vy 0, vi 1, vf), (13, vy 1, vi 1, vf), (13, vi 256, vi 0, vf), (3, vi 256, vy 0, vy 5), (15, vy 1, vy 5, vf), (16, vy 4, vu 4, vf), (14, vn 4095, vy 2, vt), (14, vy 2, vi 4096, vt), (14, vn 4095, vy 3, vt), (14, vy 3, vi 4096, vt), (14, vi 0, vy 2, vt), (13, vy 2, vy 0, vf)]) (ct := []) ⟨bh_lss rfl rfl rfl rfl c0, bh_lss rfl rfl rfl rfl c1, bh_lss rfl rfl rfl rfl (show ltI 256 0 = false from lt_ff (by omega)), bh_quo (a := 256) (b := a) rfl rfl rfl rfl rfl (by omega) (by show _ < (9223372036854775808 : Int); omega) (by omega) rfl, bh_gtr rfl rfl rfl rfl c2, bh_geqF rfl rfl rfl rfl c3, bh_leqT rfl rfl rfl rfl c4, bh_leqT rfl rfl rfl rfl c5, bh_leqT rfl rfl rfl rfl c6, bh_leqT rfl rfl rfl rfl c7, bh_leqT rfl rfl rfl rfl c8, bh_lss rfl rfl rfl rfl c9, trivial⟩ trivial (el := []) trivial (args := [va [vy 0,vy 1], va [vy 2,vy 3,vy 4]]) (v := vp [vi 0,vi 7]) rfl rfl (by kernel_rfl) (r12_7 t)

theorem r12_8 (t : Nat → TypeId) : isVal (vp [vi 0,vi 7]) (@run (tabPrims [(13, vy 0, vi 1, vf), (13, vy 1, vi 1, vf), (13, vi 256, vi 0, vf), (3, vi 256, vy 0, vy 5), (15, vy 1, vy 5, vf), (16, vy 4, vu 4, vf), (14, vn 4095, vy 2, vt), (14, vy 2, vi 4096, vt), (14, vn 4095, vy 3, vt), (14, vy 3, vi 4096, vt), (14, vi 0, vy 2, vf)] []) Tryd.prog (valOrc (fun _ => false) (tabG t) (ansT [])) 1000000 (.call 12 [va [vy 0,vy 1], va [vy 2,vy 3,vy 4]] (tabG t))) = true := by kernel_rfl
theorem p12_8 (t : Nat → TypeId) (a b x y q : Int) (h_q : 0 ≤ q ∧ q ≤ 255) (c0 : ltI a 1 = false) (c1 : ltI b 1 = false) (c2 : ltI (256 / a) b = false) (c3 : ltI q 4 = true) (c4 : ltI x (-4096) = false) (c5 : ltI 4096 x = false) (c6 : ltI y (-4096) = false) (c7 : ltI 4096 y = false) (c8 : ltI x 0 = true) : Known Tryd.prog (tabG t) 12 [.agg ⟨[.int .i64 a,.int .i64 b]⟩, .agg ⟨[.int .i64 x,.int .i64 y,.int .u8 q]⟩] (.tuple ⟨[.int .i64 0,.int .i64 7]⟩) := by
  obtain ⟨h1_q, h2_q⟩ := h_q
  have d0 := lt_f c0
  have d1 := lt_f c1
  have d2 := lt_f c2
  have d3 := lt_t c3
  have d4 := lt_f c4
  have d5 := lt_f c5
  have d6 := lt_f c6
  have d7 := lt_f c7
  have d8 := lt_t c8
  exact path_calls (ρ := ofInts [(.i64, a), (.i64, b), (.i64, x), (.i64, y), (.u8, q), (.i64, (256 / a))]) (tabs_G t) (size_V t) (floor_V t) (ofInts_plain _) (bt := [(13, vy 0, vi 1, vf), (13, vy 1, vi 1, vf), (13, vi 256, vi 0, vf), (3, vi 256, vy 0, vy 5), (15, vy 1, vy 5, vf), (16, vy 4, vu 4, vf), (14, vn 4095, vy 2, vt), (14, vy 2, vi 4096, vt), (14, vn 4095, vy 3, vt), (14, vy 3, vi 4096, vt), (14, vi 0, vy 2, vf)]) (ct := []) ⟨bh_lss rfl rfl rfl rfl c0, bh_lss rfl rfl rfl rfl c1, bh_lss rfl rfl rfl rfl (show ltI 256 0 = false from lt_ff (by omega)), bh_quo (a := 256) (b := a) rfl rfl rfl rfl rfl (by omega) (by show _ < (9223372036854775808 : Int); omega) (by omega) rfl, bh_gtr rfl rfl rfl rfl c2, bh_geqF rfl rfl rfl rfl c3, bh_leqT rfl rfl rfl rfl c4, bh_leqT rfl rfl rfl rfl c5, bh_leqT rfl rfl rfl rfl c6, bh_leqT rfl rfl rfl rfl c7, bh_leqF rfl rfl rfl rfl c8, trivial⟩ trivial (el := []) trivial (args := [va [vy 0,vy 1], va [vy 2,vy 3,vy 4]]) (v := vp [vi 0,vi 7]) rfl rfl (by kernel_rfl) (r12_8 t)

theorem r12_9 (t : Nat → TypeId) : isVal (vp [vi 0,vi 7]) (@run (tabPrims [(13, vy 0, vi 1, vf), (13, vy 1, vi 1, vf), (13, vi 256, vi 0, vf), (3, vi 256, vy 0, vy 5), (15, vy 1, vy 5, vf), (16, vy 4, vu 4, vf), (14, vn 4095, vy 2, vt), (14, vy 2, vi 4096, vt), (14, vn 4095, vy 3, vt), (14, vy 3, vi 4096, vf)] []) Tryd.prog (valOrc (fun _ => false) (tabG t) (ansT [])) 1000000 (.call 12 [va [vy 0,vy 1], va [vy 2,vy 3,vy 4]] (tabG t))) = true := by kernel_rfl
theorem p12_9 (t : Nat → TypeId) (a b x y q : Int) (h_q : 0 ≤ q ∧ q ≤ 255) (c0 : ltI a 1 = false) (c1 : ltI b 1 = false) (c2 : ltI (256 / a) b = false) (c3 : ltI q 4 = true) (c4 : ltI x (-4096) = false) (c5 : ltI 4096 x = false) (c6 : ltI y (-4096) = false) (c7 : ltI 4096 y = true) : Known Tryd.prog (tabG t) 12 [.agg ⟨[.int .i64 a,.int .i64 b]⟩, .agg ⟨[.int .i64 x,.int .i64 y,.int .u8 q]⟩] (.tuple ⟨[.int .i64 0,.int .i64 7]⟩) := by
  obtain ⟨h1_q, h2_q⟩ := h_q
  have d0 := lt_f c0
  have d1 := lt_f c1
  have d2 := lt_f c2
  have d3 := lt_t c3
  have d4 := lt_f c4
  have d5 := lt_f c5
  have d6 := lt_f c6
  have d7 := lt_t c7
  exact path_calls (ρ := ofInts [(.i64, a), (.i64, b), (.i64, x), (.i64, y), (.u8, q), (.i64, (256 / a))]) (tabs_G t) (size_V t) (floor_V t) (ofInts_plain _) (bt := [(13, vy 0, vi 1, vf), (13, vy 1, vi 1, vf), (13, vi 256, vi 0, vf), (3, vi 256, vy 0, vy 5), (15, vy 1, vy 5, vf), (16, vy 4, vu 4, vf), (14, vn 4095, vy 2, vt), (14, vy 2, vi 4096, vt), (14, vn 4095, vy 3, vt), (14, vy 3, vi 4096, vf)]) (ct := []) ⟨bh_lss rfl rfl rfl rfl c0, bh_lss rfl rfl rfl rfl c1, bh_lss rfl rfl rfl rfl (show ltI 256 0 = false from lt_ff (by omega)), bh_quo (a := 256) (b := a) rfl rfl rfl rfl rfl (by omega) (by show _ < (9223372036854775808 : Int); omega) (by omega) rfl, bh_gtr rfl rfl rfl rfl c2, bh_geqF rfl rfl rfl rfl c3, bh_leqT rfl rfl rfl rfl c4, bh_leqT rfl rfl rfl rfl c5, bh_leqT rfl rfl rfl rfl c6, bh_leqF rfl rfl rfl rfl c7, trivial⟩ trivial (el := []) trivial (args := [va [vy 0,vy 1], va [vy 2,vy 3,vy 4]]) (v := vp [vi 0,vi 7]) rfl rfl (by kernel_rfl) (r12_9 t)

theorem r12_10 (t : Nat → TypeId) : isVal (vp [vi 0,vi 7]) (@run (tabPrims [(13, vy 0, vi 1, vf), (13, vy 1, vi 1, vf), (13, vi 256, vi 0, vf), (3, vi 256, vy 0, vy 5), (15, vy 1, vy 5, vf), (16, vy 4, vu 4, vf), (14, vn 4095, vy 2, vt), (14, vy 2, vi 4096, vt), (14, vn 4095, vy 3, vf)] []) Tryd.prog (valOrc (fun _ => false) (tabG t) (ansT [])) 1000000 (.call 12 [va [vy 0,vy 1], va [vy 2,vy 3,vy 4]] (tabG t))) = true := by kernel_rfl
theorem p12_10 (t : Nat → TypeId) (a b x y q : Int) (h_q : 0 ≤ q ∧ q ≤ 255) (c0 : ltI a 1 = false) (c1 : ltI b 1 = false) (c2 : ltI (256 / a) b = false) (c3 : ltI q 4 = true) (c4 : ltI x (-4096) = false) (c5 : ltI 4096 x = false) (c6 : ltI y (-4096) = true) : Known Tryd.prog (tabG t) 12 [.agg ⟨[.int .i64 a,.int .i64 b]⟩, .agg ⟨[.int .i64 x,.int .i64 y,.int .u8 q]⟩] (.tuple ⟨[.int .i64 0,.int .i64 7]⟩) := by
  obtain ⟨h1_q, h2_q⟩ := h_q
  have d0 := lt_f c0
  have d1 := lt_f c1
  have d2 := lt_f c2
  have d3 := lt_t c3
  have d4 := lt_f c4
  have d5 := lt_f c5
  have d6 := lt_t c6
  exact path_calls (ρ := ofInts [(.i64, a), (.i64, b), (.i64, x), (.i64, y), (.u8, q), (.i64, (256 / a))]) (tabs_G t) (size_V t) (floor_V t) (ofInts_plain _) (bt := [(13, vy 0, vi 1, vf), (13, vy 1, vi 1, vf), (13, vi 256, vi 0, vf), (3, vi 256, vy 0, vy 5), (15, vy 1, vy 5, vf), (16, vy 4, vu 4, vf), (14, vn 4095, vy 2, vt), (14, vy 2, vi 4096, vt), (14, vn 4095, vy 3, vf)]) (ct := []) ⟨bh_lss rfl rfl rfl rfl c0, bh_lss rfl rfl rfl rfl c1, bh_lss rfl rfl rfl rfl (show ltI 256 0 = false from lt_ff (by omega)), bh_quo (a := 256) (b := a) rfl rfl rfl rfl rfl (by omega) (by show _ < (9223372036854775808 : Int); omega) (by omega) rfl, bh_gtr rfl rfl rfl rfl c2, bh_geqF rfl rfl rfl rfl c3, bh_leqT rfl rfl rfl rfl c4, bh_leqT rfl rfl rfl rfl c5, bh_leqF rfl rfl rfl rfl c6, trivial⟩ trivial (el := []) trivial (args := [va [vy 0,vy 1], va [vy 2,vy 3,vy 4]]) (v := vp [vi 0,vi 7]) rfl rfl (by kernel_rfl) (r12_10 t)

theorem r12_11 (t : Nat → TypeId) : isVal (vp [vi 0,vi 7]) (@run (tabPrims [(13, vy 0, vi 1, vf), (13, vy 1, vi 1, vf), (13, vi 256, vi 0, vf), (3, vi 256, vy 0, vy 5), (15, vy 1, vy 5, vf), (16, vy 4, vu 4, vf), (14, vn 4095, vy 2, vt), (14, vy 2, vi 4096, vf)] []) Tryd.prog (valOrc (fun _ => false) (tabG t) (ansT [])) 1000000 (.call 12 [va [vy 0,vy 1], va [vy 2,vy 3,vy 4]] (tabG t))) = true := by kernel_rfl
theorem p12_11 (t : Nat → TypeId) (a b x y q : Int) (h_q : 0 ≤ q ∧ q ≤ 255) (c0 : ltI a 1 = false) (c1 : ltI b 1 = false) (c2 : ltI (256 / a) b = false) (c3 : ltI q 4 = true) (c4 : ltI x (-4096) = false) (c5 : ltI 4096 x = true) : Known Tryd.prog (tabG t) 12 [.agg ⟨[.int .i64 a,.int .i64 b]⟩, .agg ⟨[.int .i64 x,.int .i64 y,.int .u8 q]⟩] (.tuple ⟨[.int .i64 0,.int .i64 7]⟩) := by
  obtain ⟨h1_q, h2_q⟩ := h_q
  have d0 := lt_f c0
  have d1 := lt_f c1
  have d2 := lt_f c2
  have d3 := lt_t c3
  have d4 := lt_f c4
  have d5 := lt_t c5
  exact path_calls (ρ := ofInts [(.i64, a), (.i64, b), (.i64, x), (.i64, y), (.u8, q), (.i64, (256 / a))]) (tabs_G t) (size_V t) (floor_V t) (ofInts_plain _) (bt := [(13, vy 0, vi 1, vf), (13, vy 1, vi 1, vf), (13, vi 256, vi 0, vf), (3, vi 256, vy 0, vy 5), (15, vy 1, vy 5, vf), (16, vy 4, vu 4, vf), (14, vn 4095, vy 2, vt), (14, vy 2, vi 4096, vf)]) (ct := []) ⟨bh_lss rfl rfl rfl rfl c0, bh_lss rfl rfl rfl rfl c1, bh_lss rfl rfl rfl rfl (show ltI 256 0 = false from lt_ff (by omega)), bh_quo (a := 256) (b := a) rfl rfl rfl rfl rfl (by omega) (by show _ < (9223372036854775808 : Int); omega) (by omega) rfl, bh_gtr rfl rfl rfl rfl c2, bh_geqF rfl rfl rfl rfl c3, bh_leqT rfl rfl rfl rfl c4, bh_leqF rfl rfl rfl rfl c5, trivial⟩ trivial (el := []) trivial (args := [va [vy 0,vy 1], va [vy 2,vy 3,vy 4]]) (v := vp [vi 0,vi 7]) rfl rfl (by kernel_rfl) (r12_11 t)

theorem r12_12 (t : Nat → TypeId) : isVal (vp [vi 0,vi 7]) (@run (tabPrims [(13, vy 0, vi 1, vf), (13, vy 1, vi 1, vf), (13, vi 256, vi 0, vf), (3, vi 256, vy 0, vy 5), (15, vy 1, vy 5, vf), (16, vy 4, vu 4, vf), (14, vn 4095, vy 2, vf)] []) Tryd.prog (valOrc (fun _ => false) (tabG t) (ansT [])) 1000000 (.call 12 [va [vy 0,vy 1], va [vy 2,vy 3,vy 4]] (tabG t))) = true := by kernel_rfl
theorem p12_12 (t : Nat → TypeId) (a b x y q : Int) (h_q : 0 ≤ q ∧ q ≤ 255) (c0 : ltI a 1 = false) (c1 : ltI b 1 = false) (c2 : ltI (256 / a) b = false) (c3 : ltI q 4 = true) (c4 : ltI x (-4096) = true) : Known Tryd.prog (tabG t) 12 [.agg ⟨[.int .i64 a,.int .i64 b]⟩, .agg ⟨[.int .i64 x,.int .i64 y,.int .u8 q]⟩] (.tuple ⟨[.int .i64 0,.int .i64 7]⟩) := by
  obtain ⟨h1_q, h2_q⟩ := h_q
  have d0 := lt_f c0
  have d1 := lt_f c1
  have d2 := lt_f c2
  have d3 := lt_t c3
  have d4 := lt_t c4
  exact path_calls (ρ := ofInts [(.i64, a), (.i64, b), (.i64, x), (.i64, y), (.u8, q), (.i64, (256 / a))]) (tabs_G t) (size_V t) (floor_V t) (ofInts_plain _) (bt := [(13, vy 0, vi 1, vf), (13, vy 1, vi 1, vf), (13, vi 256, vi 0, vf), (3, vi 256, vy 0, vy 5), (15, vy 1, vy 5, vf), (16, vy 4, vu 4, vf), (14, vn 4095, vy 2, vf)]) (ct := []) ⟨bh_lss rfl rfl rfl rfl c0, bh_lss rfl rfl rfl rfl c1, bh_lss rfl rfl rfl rfl (show ltI 256 0 = false from lt_ff (by omega)), bh_quo (a := 256) (b := a) rfl rfl rfl rfl rfl (by omega) (by show _ < (9223372036854775808 : Int); omega) (by omega) rfl, bh_gtr rfl rfl rfl rfl c2, bh_geqF rfl rfl rfl rfl c3, bh_leqF rfl rfl rfl rfl c4, trivial⟩ trivial (el := []) trivial (args := [va [vy 0,vy 1], va [vy 2,vy 3,vy 4]]) (v := vp [vi 0,vi 7]) rfl rfl (by kernel_rfl) (r12_12 t)

/-- What function 12 returns. -/
def F12 (a b x y q : Int) : Value := (match ltI a 1 with | true => .tuple ⟨[.int .i64 0,.int .i64 1]⟩ | false => (match ltI b 1 with | true => .tuple ⟨[.int .i64 0,.int .i64 1]⟩ | false => (match ltI (256 / a) b with | true => .tuple ⟨[.int .i64 0,.int .i64 1]⟩ | false => (match ltI q 4 with | true => (match ltI x (-4096) with | true => .tuple ⟨[.int .i64 0,.int .i64 7]⟩ | false => (match ltI 4096 x with | true => .tuple ⟨[.int .i64 0,.int .i64 7]⟩ | false => (match ltI y (-4096) with | true => .tuple ⟨[.int .i64 0,.int .i64 7]⟩ | false => (match ltI 4096 y with | true => .tuple ⟨[.int .i64 0,.int .i64 7]⟩ | false => (match ltI x 0 with | true => .tuple ⟨[.int .i64 0,.int .i64 7]⟩ | false => (match ltI x a with | true => (match ltI y 0 with | true => .tuple ⟨[.int .i64 0,.int .i64 7]⟩ | false => (match ltI y b with | true => .tuple ⟨[.int .i64 (wrapF .i64 (Int.add (wrapF .i64 (Int.mul 4 (wrapF .i64 (Int.add (wrapF .i64 (Int.mul y a)) x)))) q)),.int .i64 0]⟩ | false => .tuple ⟨[.int .i64 0,.int .i64 7]⟩)) | false => .tuple ⟨[.int .i64 0,.int .i64 7]⟩)))))) | false => .tuple ⟨[.int .i64 0,.int .i64 7]⟩))))
theorem s12 (t : Nat → TypeId) (a b x y q : Int) (h_q : 0 ≤ q ∧ q ≤ 255) : Known Tryd.prog (tabG t) 12 [.agg ⟨[.int .i64 a,.int .i64 b]⟩, .agg ⟨[.int .i64 x,.int .i64 y,.int .u8 q]⟩] (F12 a b x y q) := by
  unfold F12
  cases c0 : ltI a 1 with
  | true =>
    exact p12_0 t a b x y q h_q c0
  | false =>
    cases c1 : ltI b 1 with
    | true =>
      exact p12_1 t a b x y q h_q c0 c1
    | false =>
      cases c2 : ltI (256 / a) b with
      | true =>
        exact p12_2 t a b x y q h_q c0 c1 c2
      | false =>
        cases c3 : ltI q 4 with
        | true =>
          cases c4 : ltI x (-4096) with
          | true =>
            exact p12_12 t a b x y q h_q c0 c1 c2 c3 c4
          | false =>
            cases c5 : ltI 4096 x with
            | true =>
              exact p12_11 t a b x y q h_q c0 c1 c2 c3 c4 c5
            | false =>
              cases c6 : ltI y (-4096) with
              | true =>
                exact p12_10 t a b x y q h_q c0 c1 c2 c3 c4 c5 c6
              | false =>
                cases c7 : ltI 4096 y with
                | true =>
                  exact p12_9 t a b x y q h_q c0 c1 c2 c3 c4 c5 c6 c7
                | false =>
                  cases c8 : ltI x 0 with
                  | true =>
                    exact p12_8 t a b x y q h_q c0 c1 c2 c3 c4 c5 c6 c7 c8
                  | false =>
                    cases c9 : ltI x a with
                    | true =>
                      cases c10 : ltI y 0 with
                      | true =>
                        exact p12_6 t a b x y q h_q c0 c1 c2 c3 c4 c5 c6 c7 c8 c9 c10
                      | false =>
                        cases c11 : ltI y b with
                        | true =>
                          exact p12_4 t a b x y q h_q c0 c1 c2 c3 c4 c5 c6 c7 c8 c9 c10 c11
                        | false =>
                          exact p12_5 t a b x y q h_q c0 c1 c2 c3 c4 c5 c6 c7 c8 c9 c10 c11
                    | false =>
                      exact p12_7 t a b x y q h_q c0 c1 c2 c3 c4 c5 c6 c7 c8 c9
        | false =>
          exact p12_3 t a b x y q h_q c0 c1 c2 c3
theorem fl12 (a b x y q : Int) : flat (F12 a b x y q) = true := by
  unfold F12
  repeat' split
  all_goals rfl
noncomputable def A12 (args : List Value) : Option Value := match args with
  | [.agg ⟨[.int .i64 a,.int .i64 b]⟩, .agg ⟨[.int .i64 x,.int .i64 y,.int .u8 q]⟩] => (match inR 0 255 q with | true => some (F12 a b x y q) | false => none)
  | _ => none
theorem a12 (t : Nat → TypeId) [Syms] : AnsOk Tryd.prog (tabG t) (fnAns 12 A12) := fnAns_ok (tabs_G t) (by
  intro args v h
  unfold A12 at h
  split at h
  · split at h
    · rename_i hr_q
      cases h
      exact ⟨s12 t _ _ _ _ _ (inR_spec hr_q), rfl, fl12 _ _ _ _ _⟩
    · cases h
  · cases h)

theorem r13_0 (t : Nat → TypeId) : isVal (vn 0) (@run (tabPrims [(13, vy 2, vi 0, vt)] []) Tryd.prog (valOrc (fun _ => false) (tabG t) (ansT [])) 1000000 (.call 13 [va [vy 0,vy 1], va [vy 2,vy 3,vy 4]] (tabG t))) = true := by kernel_rfl
theorem p13_0 (t : Nat → TypeId) (a b x y q : Int) (h_q : 0 ≤ q ∧ q ≤ 255) (c0 : ltI x 0 = true) : Known Tryd.prog (tabG t) 13 [.agg ⟨[.int .i64 a,.int .i64 b]⟩, .agg ⟨[.int .i64 x,.int .i64 y,.int .u8 q]⟩] (.int .i64 (-1)) := by
  obtain ⟨h1_q, h2_q⟩ := h_q
  have d0 := lt_t c0
  exact path_calls (ρ := ofInts [(.i64, a), (.i64, b), (.i64, x), (.i64, y), (.u8, q)]) (tabs_G t) (size_V t) (floor_V t) (ofInts_plain _) (bt := [(13, vy 2, vi 0, vt)]) (ct := []) ⟨bh_lss rfl rfl rfl rfl c0, trivial⟩ trivial (el := []) trivial (args := [va [vy 0,vy 1], va [vy 2,vy 3,vy 4]]) (v := vn 0) rfl rfl (by kernel_rfl) (r13_0 t)

theorem r13_1 (t : Nat → TypeId) : isVal (vn 0) (@run (tabPrims [(13, vy 2, vi 0, vf), (13, vy 3, vi 0, vt)] []) Tryd.prog (valOrc (fun _ => false) (tabG t) (ansT [])) 1000000 (.call 13 [va [vy 0,vy 1], va [vy 2,vy 3,vy 4]] (tabG t))) = true := by kernel_rfl
theorem p13_1 (t : Nat → TypeId) (a b x y q : Int) (h_q : 0 ≤ q ∧ q ≤ 255) (c0 : ltI x 0 = false) (c1 : ltI y 0 = true) : Known Tryd.prog (tabG t) 13 [.agg ⟨[.int .i64 a,.int .i64 b]⟩, .agg ⟨[.int .i64 x,.int .i64 y,.int .u8 q]⟩] (.int .i64 (-1)) := by
  obtain ⟨h1_q, h2_q⟩ := h_q
  have d0 := lt_f c0
  have d1 := lt_t c1
  exact path_calls (ρ := ofInts [(.i64, a), (.i64, b), (.i64, x), (.i64, y), (.u8, q)]) (tabs_G t) (size_V t) (floor_V t) (ofInts_plain _) (bt := [(13, vy 2, vi 0, vf), (13, vy 3, vi 0, vt)]) (ct := []) ⟨bh_lss rfl rfl rfl rfl c0, bh_lss rfl rfl rfl rfl c1, trivial⟩ trivial (el := []) trivial (args := [va [vy 0,vy 1], va [vy 2,vy 3,vy 4]]) (v := vn 0) rfl rfl (by kernel_rfl) (r13_1 t)

theorem r13_2 (t : Nat → TypeId) : isVal (vn 0) (@run (tabPrims [(13, vy 2, vi 0, vf), (13, vy 3, vi 0, vf), (16, vy 2, vy 0, vt)] []) Tryd.prog (valOrc (fun _ => false) (tabG t) (ansT [])) 1000000 (.call 13 [va [vy 0,vy 1], va [vy 2,vy 3,vy 4]] (tabG t))) = true := by kernel_rfl
theorem p13_2 (t : Nat → TypeId) (a b x y q : Int) (h_q : 0 ≤ q ∧ q ≤ 255) (c0 : ltI x 0 = false) (c1 : ltI y 0 = false) (c2 : ltI x a = false) : Known Tryd.prog (tabG t) 13 [.agg ⟨[.int .i64 a,.int .i64 b]⟩, .agg ⟨[.int .i64 x,.int .i64 y,.int .u8 q]⟩] (.int .i64 (-1)) := by
  obtain ⟨h1_q, h2_q⟩ := h_q
  have d0 := lt_f c0
  have d1 := lt_f c1
  have d2 := lt_f c2
  exact path_calls (ρ := ofInts [(.i64, a), (.i64, b), (.i64, x), (.i64, y), (.u8, q)]) (tabs_G t) (size_V t) (floor_V t) (ofInts_plain _) (bt := [(13, vy 2, vi 0, vf), (13, vy 3, vi 0, vf), (16, vy 2, vy 0, vt)]) (ct := []) ⟨bh_lss rfl rfl rfl rfl c0, bh_lss rfl rfl rfl rfl c1, bh_geqT rfl rfl rfl rfl c2, trivial⟩ trivial (el := []) trivial (args := [va [vy 0,vy 1], va [vy 2,vy 3,vy 4]]) (v := vn 0) rfl rfl (by kernel_rfl) (r13_2 t)

theorem r13_3 (t : Nat → TypeId) : isVal (vn 0) (@run (tabPrims [(13, vy 2, vi 0, vf), (13, vy 3, vi 0, vf), (16, vy 2, vy 0, vf), (16, vy 3, vy 1, vt)] []) Tryd.prog (valOrc (fun _ => false) (tabG t) (ansT [])) 1000000 (.call 13 [va [vy 0,vy 1], va [vy 2,vy 3,vy 4]] (tabG t))) = true := by kernel_rfl
theorem p13_3 (t : Nat → TypeId) (a b x y q : Int) (h_q : 0 ≤ q ∧ q ≤ 255) (c0 : ltI x 0 = false) (c1 : ltI y 0 = false) (c2 : ltI x a = true) (c3 : ltI y b = false) : Known Tryd.prog (tabG t) 13 [.agg ⟨[.int .i64 a,.int .i64 b]⟩, .agg ⟨[.int .i64 x,.int .i64 y,.int .u8 q]⟩] (.int .i64 (-1)) := by
  obtain ⟨h1_q, h2_q⟩ := h_q
  have d0 := lt_f c0
  have d1 := lt_f c1
  have d2 := lt_t c2
  have d3 := lt_f c3
  exact path_calls (ρ := ofInts [(.i64, a), (.i64, b), (.i64, x), (.i64, y), (.u8, q)]) (tabs_G t) (size_V t) (floor_V t) (ofInts_plain _) (bt := [(13, vy 2, vi 0, vf), (13, vy 3, vi 0, vf), (16, vy 2, vy 0, vf), (16, vy 3, vy 1, vt)]) (ct := []) ⟨bh_lss rfl rfl rfl rfl c0, bh_lss rfl rfl rfl rfl c1, bh_geqF rfl rfl rfl rfl c2, bh_geqT rfl rfl rfl rfl c3, trivial⟩ trivial (el := []) trivial (args := [va [vy 0,vy 1], va [vy 2,vy 3,vy 4]]) (v := vn 0) rfl rfl (by kernel_rfl) (r13_3 t)

theorem r13_4 (t : Nat → TypeId) : isVal (vn 0) (@run (tabPrims [(13, vy 2, vi 0, vf), (13, vy 3, vi 0, vf), (16, vy 2, vy 0, vf), (16, vy 3, vy 1, vf), (15, vy 4, vu 3, vt)] []) Tryd.prog (valOrc (fun _ => false) (tabG t) (ansT [])) 1000000 (.call 13 [va [vy 0,vy 1], va [vy 2,vy 3,vy 4]] (tabG t))) = true := by kernel_rfl
theorem p13_4 (t : Nat → TypeId) (a b x y q : Int) (h_q : 0 ≤ q ∧ q ≤ 255) (c0 : ltI x 0 = false) (c1 : ltI y 0 = false) (c2 : ltI x a = true) (c3 : ltI y b = true) (c4 : ltI 3 q = true) : Known Tryd.prog (tabG t) 13 [.agg ⟨[.int .i64 a,.int .i64 b]⟩, .agg ⟨[.int .i64 x,.int .i64 y,.int .u8 q]⟩] (.int .i64 (-1)) := by
  obtain ⟨h1_q, h2_q⟩ := h_q
  have d0 := lt_f c0
  have d1 := lt_f c1
  have d2 := lt_t c2
  have d3 := lt_t c3
  have d4 := lt_t c4
  exact path_calls (ρ := ofInts [(.i64, a), (.i64, b), (.i64, x), (.i64, y), (.u8, q)]) (tabs_G t) (size_V t) (floor_V t) (ofInts_plain _) (bt := [(13, vy 2, vi 0, vf), (13, vy 3, vi 0, vf), (16, vy 2, vy 0, vf), (16, vy 3, vy 1, vf), (15, vy 4, vu 3, vt)]) (ct := []) ⟨bh_lss rfl rfl rfl rfl c0, bh_lss rfl rfl rfl rfl c1, bh_geqF rfl rfl rfl rfl c2, bh_geqF rfl rfl rfl rfl c3, bh_gtr rfl rfl rfl rfl c4, trivial⟩ trivial (el := []) trivial (args := [va [vy 0,vy 1], va [vy 2,vy 3,vy 4]]) (v := vn 0) rfl rfl (by kernel_rfl) (r13_4 t)

theorem r13_5 (t : Nat → TypeId) : isVal (vy 10) (@run (tabPrims [(13, vy 2, vi 0, vf), (13, vy 3, vi 0, vf), (16, vy 2, vy 0, vf), (16, vy 3, vy 1, vf), (15, vy 4, vu 3, vf), (2, vi 4, vy 0, vy 5), (2, vy 5, vy 3, vy 6), (2, vi 4, vy 2, vy 7), (0, vy 6, vy 7, vy 8), (0, vy 8, vy 9, vy 10)] [(3, vy 4, vy 9)]) Tryd.prog (valOrc (fun _ => false) (tabG t) (ansT [])) 1000000 (.call 13 [va [vy 0,vy 1], va [vy 2,vy 3,vy 4]] (tabG t))) = true := by kernel_rfl
theorem p13_5 (t : Nat → TypeId) (a b x y q : Int) (h_q : 0 ≤ q ∧ q ≤ 255) (c0 : ltI x 0 = false) (c1 : ltI y 0 = false) (c2 : ltI x a = true) (c3 : ltI y b = true) (c4 : ltI 3 q = false) : Known Tryd.prog (tabG t) 13 [.agg ⟨[.int .i64 a,.int .i64 b]⟩, .agg ⟨[.int .i64 x,.int .i64 y,.int .u8 q]⟩] (.int .i64 (wrapF .i64 (Int.add (wrapF .i64 (Int.add (wrapF .i64 (Int.mul (wrapF .i64 (Int.mul 4 a)) y)) (wrapF .i64 (Int.mul 4 x)))) q))) := by
  obtain ⟨h1_q, h2_q⟩ := h_q
  have d0 := lt_f c0
  have d1 := lt_f c1
  have d2 := lt_t c2
  have d3 := lt_t c3
  have d4 := lt_f c4
  exact path_calls (ρ := ofInts [(.i64, a), (.i64, b), (.i64, x), (.i64, y), (.u8, q), (.i64, (wrapF .i64 (Int.mul 4 a))), (.i64, (wrapF .i64 (Int.mul (wrapF .i64 (Int.mul 4 a)) y))), (.i64, (wrapF .i64 (Int.mul 4 x))), (.i64, (wrapF .i64 (Int.add (wrapF .i64 (Int.mul (wrapF .i64 (Int.mul 4 a)) y)) (wrapF .i64 (Int.mul 4 x))))), (.i64, q), (.i64, (wrapF .i64 (Int.add (wrapF .i64 (Int.add (wrapF .i64 (Int.mul (wrapF .i64 (Int.mul 4 a)) y)) (wrapF .i64 (Int.mul 4 x)))) q)))]) (tabs_G t) (size_V t) (floor_V t) (ofInts_plain _) (bt := [(13, vy 2, vi 0, vf), (13, vy 3, vi 0, vf), (16, vy 2, vy 0, vf), (16, vy 3, vy 1, vf), (15, vy 4, vu 3, vf), (2, vi 4, vy 0, vy 5), (2, vy 5, vy 3, vy 6), (2, vi 4, vy 2, vy 7), (0, vy 6, vy 7, vy 8), (0, vy 8, vy 9, vy 10)]) (ct := [(3, vy 4, vy 9)]) ⟨bh_lss rfl rfl rfl rfl c0, bh_lss rfl rfl rfl rfl c1, bh_geqF rfl rfl rfl rfl c2, bh_geqF rfl rfl rfl rfl c3, bh_gtr rfl rfl rfl rfl c4, bh_mul rfl rfl rfl rfl rfl rfl, bh_mul rfl rfl rfl rfl rfl rfl, bh_mul rfl rfl rfl rfl rfl rfl, bh_add rfl rfl rfl rfl rfl rfl, bh_add rfl rfl rfl rfl rfl rfl, trivial⟩ ⟨b6_conv (a := q) (c := q) rfl rfl rfl rfl rfl (by omega) (by omega) (by omega), trivial⟩ (el := []) trivial (args := [va [vy 0,vy 1], va [vy 2,vy 3,vy 4]]) (v := vy 10) rfl rfl (by kernel_rfl) (r13_5 t)

/-- What function 13 returns. -/
def F13 (a b x y q : Int) : Value := (match ltI x 0 with | true => .int .i64 (-1) | false => (match ltI y 0 with | true => .int .i64 (-1) | false => (match ltI x a with | true => (match ltI y b with | true => (match ltI 3 q with | true => .int .i64 (-1) | false => .int .i64 (wrapF .i64 (Int.add (wrapF .i64 (Int.add (wrapF .i64 (Int.mul (wrapF .i64 (Int.mul 4 a)) y)) (wrapF .i64 (Int.mul 4 x)))) q))) | false => .int .i64 (-1)) | false => .int .i64 (-1))))
theorem s13 (t : Nat → TypeId) (a b x y q : Int) (h_q : 0 ≤ q ∧ q ≤ 255) : Known Tryd.prog (tabG t) 13 [.agg ⟨[.int .i64 a,.int .i64 b]⟩, .agg ⟨[.int .i64 x,.int .i64 y,.int .u8 q]⟩] (F13 a b x y q) := by
  unfold F13
  cases c0 : ltI x 0 with
  | true =>
    exact p13_0 t a b x y q h_q c0
  | false =>
    cases c1 : ltI y 0 with
    | true =>
      exact p13_1 t a b x y q h_q c0 c1
    | false =>
      cases c2 : ltI x a with
      | true =>
        cases c3 : ltI y b with
        | true =>
          cases c4 : ltI 3 q with
          | true =>
            exact p13_4 t a b x y q h_q c0 c1 c2 c3 c4
          | false =>
            exact p13_5 t a b x y q h_q c0 c1 c2 c3 c4
        | false =>
          exact p13_3 t a b x y q h_q c0 c1 c2 c3
      | false =>
        exact p13_2 t a b x y q h_q c0 c1 c2
theorem fl13 (a b x y q : Int) : flat (F13 a b x y q) = true := by
  unfold F13
  repeat' split
  all_goals rfl
noncomputable def A13 (args : List Value) : Option Value := match args with
  | [.agg ⟨[.int .i64 a,.int .i64 b]⟩, .agg ⟨[.int .i64 x,.int .i64 y,.int .u8 q]⟩] => (match inR 0 255 q with | true => some (F13 a b x y q) | false => none)
  | _ => none
theorem a13 (t : Nat → TypeId) [Syms] : AnsOk Tryd.prog (tabG t) (fnAns 13 A13) := fnAns_ok (tabs_G t) (by
  intro args v h
  unfold A13 at h
  split at h
  · split at h
    · rename_i hr_q
      cases h
      exact ⟨s13 t _ _ _ _ _ (inR_spec hr_q), rfl, fl13 _ _ _ _ _⟩
    · cases h
  · cases h)

theorem r8_0 (t : Nat → TypeId) : isVal (va [vy 4,vy 7]) (@run (tabPrims [(13, vy 0, vu 0, vf), (4, vy 0, vu 5, vy 2), (0, vi 1, vy 3, vy 4), (13, vy 1, vu 0, vf), (4, vy 1, vu 5, vy 5), (0, vi 1, vy 6, vy 7)] [(3, vy 2, vy 3), (3, vy 5, vy 6)]) Tryd.prog (valOrc (fun _ => false) (tabG t) (ansT [])) 1000000 (.call 8 [va [vy 0,vy 1]] (tabG t))) = true := by kernel_rfl
theorem p8_0 (t : Nat → TypeId) (a b : Int) (h_a : 0 ≤ a ∧ a ≤ 255) (h_b : 0 ≤ b ∧ b ≤ 255)  : Known Tryd.prog (tabG t) 8 [.agg ⟨[.int .u8 a,.int .u8 b]⟩] (.agg ⟨[.int .i64 (wrapF .i64 (Int.add 1 (wrapF .i64 (a % 5)))),.int .i64 (wrapF .i64 (Int.add 1 (wrapF .i64 (b % 5))))]⟩) := by
  obtain ⟨h1_a, h2_a⟩ := h_a
  obtain ⟨h1_b, h2_b⟩ := h_b
  have w3 : (wrapF .i64 (a % 5)) = (a % 5) := wid_i64 (n := (a % 5)) (by omega) (by omega)
  have w4 : (wrapF .i64 (Int.add 1 (wrapF .i64 (a % 5)))) = 1 + (wrapF .i64 (a % 5)) := wid_i64 (n := 1 + (wrapF .i64 (a % 5))) (by omega) (by omega)
  have w6 : (wrapF .i64 (b % 5)) = (b % 5) := wid_i64 (n := (b % 5)) (by omega) (by omega)
  have w7 : (wrapF .i64 (Int.add 1 (wrapF .i64 (b % 5)))) = 1 + (wrapF .i64 (b % 5)) := wid_i64 (n := 1 + (wrapF .i64 (b % 5))) (by omega) (by omega)
  exact path_calls (ρ := ofInts [(.u8, a), (.u8, b), (.u8, (a % 5)), (.i64, (wrapF .i64 (a % 5))), (.i64, (wrapF .i64 (Int.add 1 (wrapF .i64 (a % 5))))), (.u8, (b % 5)), (.i64, (wrapF .i64 (b % 5))), (.i64, (wrapF .i64 (Int.add 1 (wrapF .i64 (b % 5)))))]) (tabs_G t) (size_V t) (floor_V t) (ofInts_plain _) (bt := [(13, vy 0, vu 0, vf), (4, vy 0, vu 5, vy 2), (0, vi 1, vy 3, vy 4), (13, vy 1, vu 0, vf), (4, vy 1, vu 5, vy 5), (0, vi 1, vy 6, vy 7)]) (ct := [(3, vy 2, vy 3), (3, vy 5, vy 6)]) ⟨bh_lss rfl rfl rfl rfl (show ltI a 0 = false from lt_ff (by omega)), bh_rem (a := a) (b := 5) rfl rfl rfl rfl rfl (by omega) (by omega) rfl, bh_add rfl rfl rfl rfl rfl rfl, bh_lss rfl rfl rfl rfl (show ltI b 0 = false from lt_ff (by omega)), bh_rem (a := b) (b := 5) rfl rfl rfl rfl rfl (by omega) (by omega) rfl, bh_add rfl rfl rfl rfl rfl rfl, trivial⟩ ⟨ch_conv rfl rfl rfl rfl rfl, ch_conv rfl rfl rfl rfl rfl, trivial⟩ (el := []) trivial (args := [va [vy 0,vy 1]]) (v := va [vy 4,vy 7]) rfl rfl (by kernel_rfl) (r8_0 t)

/-- What function 8 returns. -/
def F8 (a b : Int) : Value := .agg ⟨[.int .i64 (wrapF .i64 (Int.add 1 (wrapF .i64 (a % 5)))),.int .i64 (wrapF .i64 (Int.add 1 (wrapF .i64 (b % 5))))]⟩
theorem s8 (t : Nat → TypeId) (a b : Int) (h_a : 0 ≤ a ∧ a ≤ 255) (h_b : 0 ≤ b ∧ b ≤ 255) : Known Tryd.prog (tabG t) 8 [.agg ⟨[.int .u8 a,.int .u8 b]⟩] (F8 a b) := by
  unfold F8
  exact p8_0 t a b h_a h_b 
theorem fl8 (a b : Int) : flat (F8 a b) = true := by
  unfold F8
  repeat' split
  all_goals rfl
noncomputable def A8 (args : List Value) : Option Value := match args with
  | [.agg ⟨[.int .u8 a,.int .u8 b]⟩] => (match inR 0 255 a with | true => (match inR 0 255 b with | true => some (F8 a b) | false => none) | false => none)
  | _ => none
theorem a8 (t : Nat → TypeId) [Syms] : AnsOk Tryd.prog (tabG t) (fnAns 8 A8) := fnAns_ok (tabs_G t) (by
  intro args v h
  unfold A8 at h
  split at h
  · split at h
    · rename_i hr_a
      split at h
      · rename_i hr_b
        cases h
        exact ⟨s8 t _ _ (inR_spec hr_a) (inR_spec hr_b), rfl, fl8 _ _⟩
      · cases h
    · cases h
  · cases h)

end Go.Proofs.YtaacmbmnlhoghaaDoor
