/-
  Says: what small functions return.
-/
import Derived.Test.YtdnekeegpenioaaDoorKl
import Derived.Test.YtdnekeegpenioaaDoorVx24
import Derived.KernelRfl
set_option maxRecDepth 1000000
set_option linter.unusedVariables false
set_option linter.unusedSimpArgs false
namespace Go.Proofs.YtdnekeegpenioaaDoor
open Go Go.Vx
attribute [local instance] anyKeeps

theorem wid_i64 {n : Int} (h1 : -9223372036854775808 ≤ n) (h2 : n ≤ 9223372036854775807) : wrapF .i64 n = n := wrapF_id (k := .i64) h1 (show n < 9223372036854775808 by omega)
theorem wid_u8 {n : Int} (h1 : 0 ≤ n) (h2 : n ≤ 255) : wrapF .u8 n = n := wrapF_id (k := .u8) (show -(0 : Int) ≤ n by omega) (show n < 256 by omega)
def inR (lo hi x : Int) : Bool := match ltI x lo with
  | true => false
  | false => match ltI hi x with
    | true => false
    | false => true
theorem inR_spec {lo hi x : Int} (h : inR lo hi x = true) : lo ≤ x ∧ x ≤ hi := by
  unfold inR at h
  split at h
  · cases h
  · rename_i h1
    split at h
    · cases h
    · rename_i h2
      exact ⟨lt_f h1, lt_f h2⟩

theorem r30_0 (t : Nat → TypeId) : isVal (vt) (@run (tabPrims [(14, vu 1, vy 0, vt), (14, vy 0, vu 3, vt)] []) Tryd.prog (valOrc (fun _ => false) (tabG t) (ansT [])) 1000000 (.call 30 [vy 0] (tabG t))) = true := by kernel_rfl
theorem p30_0 (t : Nat → TypeId) (k : Int) (h_k : 0 ≤ k ∧ k ≤ 255) (c0 : ltI k 1 = false) (c1 : ltI 3 k = false) : Known Tryd.prog (tabG t) 30 [.int .u8 k] (.bool true) := by
  have h1_k := h_k.1
  have h2_k := h_k.2
  have d0 := lt_f c0
  have d1 := lt_f c1
  exact path_calls (ρ := ofInts [(.u8, k)]) (tabs_G t) (size_V t) (floor_V t) (ofInts_plain _) (bt := [(14, vu 1, vy 0, vt), (14, vy 0, vu 3, vt)]) (ct := []) ⟨bh_leqT rfl rfl rfl rfl c0, bh_leqT rfl rfl rfl rfl c1, trivial⟩ trivial (el := []) trivial (args := [vy 0]) (v := vt) rfl rfl (by kernel_rfl) (r30_0 t)

theorem r30_1 (t : Nat → TypeId) : isVal (vf) (@run (tabPrims [(14, vu 1, vy 0, vt), (14, vy 0, vu 3, vf)] []) Tryd.prog (valOrc (fun _ => false) (tabG t) (ansT [])) 1000000 (.call 30 [vy 0] (tabG t))) = true := by kernel_rfl
theorem p30_1 (t : Nat → TypeId) (k : Int) (h_k : 0 ≤ k ∧ k ≤ 255) (c0 : ltI k 1 = false) (c1 : ltI 3 k = true) : Known Tryd.prog (tabG t) 30 [.int .u8 k] (.bool false) := by
  have h1_k := h_k.1
  have h2_k := h_k.2
  have d0 := lt_f c0
  have d1 := lt_t c1
  exact path_calls (ρ := ofInts [(.u8, k)]) (tabs_G t) (size_V t) (floor_V t) (ofInts_plain _) (bt := [(14, vu 1, vy 0, vt), (14, vy 0, vu 3, vf)]) (ct := []) ⟨bh_leqT rfl rfl rfl rfl c0, bh_leqF rfl rfl rfl rfl c1, trivial⟩ trivial (el := []) trivial (args := [vy 0]) (v := vf) rfl rfl (by kernel_rfl) (r30_1 t)

theorem r30_2 (t : Nat → TypeId) : isVal (vf) (@run (tabPrims [(14, vu 1, vy 0, vf)] []) Tryd.prog (valOrc (fun _ => false) (tabG t) (ansT [])) 1000000 (.call 30 [vy 0] (tabG t))) = true := by kernel_rfl
theorem p30_2 (t : Nat → TypeId) (k : Int) (h_k : 0 ≤ k ∧ k ≤ 255) (c0 : ltI k 1 = true) : Known Tryd.prog (tabG t) 30 [.int .u8 k] (.bool false) := by
  have h1_k := h_k.1
  have h2_k := h_k.2
  have d0 := lt_t c0
  exact path_calls (ρ := ofInts [(.u8, k)]) (tabs_G t) (size_V t) (floor_V t) (ofInts_plain _) (bt := [(14, vu 1, vy 0, vf)]) (ct := []) ⟨bh_leqF rfl rfl rfl rfl c0, trivial⟩ trivial (el := []) trivial (args := [vy 0]) (v := vf) rfl rfl (by kernel_rfl) (r30_2 t)

/-- What function 30 returns. -/
def F30 (k : Int) : Value := (match ltI k 1 with | true => .bool false | false => (match ltI 3 k with | true => .bool false | false => .bool true))
theorem s30 (t : Nat → TypeId) (k : Int) (h_k : 0 ≤ k ∧ k ≤ 255) : Known Tryd.prog (tabG t) 30 [.int .u8 k] (F30 k) := by
  unfold F30
  cases c0 : ltI k 1 with
  | true =>
    exact p30_2 t k h_k c0
  | false =>
    cases c1 : ltI 3 k with
    | true =>
      exact p30_1 t k h_k c0 c1
    | false =>
      exact p30_0 t k h_k c0 c1
theorem fl30 (k : Int) : flat (F30 k) = true := by
  unfold F30
  repeat' split
  all_goals rfl
noncomputable def A30 (args : List Value) : Option Value := match args with
  | [.int .u8 k] => (match inR 0 255 k with | true => some (F30 k) | false => none)
  | _ => none
theorem a30 (t : Nat → TypeId) [Syms] : AnsOk Tryd.prog (tabG t) (fnAns 30 A30) := fnAns_ok (tabs_G t) (by
  intro args v h
  unfold A30 at h
  split at h
  · split at h
    · rename_i hr_k
      cases h
      exact ⟨s30 t _ (inR_spec hr_k), rfl, fl30 _⟩
    · cases h
  · cases h)

theorem r32_0 (t : Nat → TypeId) : isVal (va [vy 0,vy 1]) (@run (tabPrims [] []) Tryd.prog (valOrc (fun _ => false) (tabG t) (ansT [])) 1000000 (.call 32 [va [vy 0,vy 1,vy 2]] (tabG t))) = true := by kernel_rfl
theorem p32_0 (t : Nat → TypeId) (c e k : Int) (h_e : 0 ≤ e ∧ e ≤ 255) (h_k : 0 ≤ k ∧ k ≤ 255)  : Known Tryd.prog (tabG t) 32 [.agg ⟨[.int .i64 c,.int .u8 e,.int .u8 k]⟩] (.agg ⟨[.int .i64 c,.int .u8 e]⟩) := by
  have h1_e := h_e.1
  have h2_e := h_e.2
  have h1_k := h_k.1
  have h2_k := h_k.2
  exact path_calls (ρ := ofInts [(.i64, c), (.u8, e), (.u8, k)]) (tabs_G t) (size_V t) (floor_V t) (ofInts_plain _) (bt := []) (ct := []) trivial trivial (el := []) trivial (args := [va [vy 0,vy 1,vy 2]]) (v := va [vy 0,vy 1]) rfl rfl (by kernel_rfl) (r32_0 t)

/-- What function 32 returns. -/
def F32 (c e k : Int) : Value := .agg ⟨[.int .i64 c,.int .u8 e]⟩
theorem s32 (t : Nat → TypeId) (c e k : Int) (h_e : 0 ≤ e ∧ e ≤ 255) (h_k : 0 ≤ k ∧ k ≤ 255) : Known Tryd.prog (tabG t) 32 [.agg ⟨[.int .i64 c,.int .u8 e,.int .u8 k]⟩] (F32 c e k) := by
  unfold F32
  exact p32_0 t c e k h_e h_k 
theorem fl32 (c e k : Int) : flat (F32 c e k) = true := by
  unfold F32
  repeat' split
  all_goals rfl
noncomputable def A32 (args : List Value) : Option Value := match args with
  | [.agg ⟨[.int .i64 c,.int .u8 e,.int .u8 k]⟩] => (match inR 0 255 e with | true => (match inR 0 255 k with | true => some (F32 c e k) | false => none) | false => none)
  | _ => none
theorem a32 (t : Nat → TypeId) [Syms] : AnsOk Tryd.prog (tabG t) (fnAns 32 A32) := fnAns_ok (tabs_G t) (by
  intro args v h
  unfold A32 at h
  split at h
  · split at h
    · rename_i hr_e
      split at h
      · rename_i hr_k
        cases h
        exact ⟨s32 t _ _ _ (inR_spec hr_e) (inR_spec hr_k), rfl, fl32 _ _ _⟩
      · cases h
    · cases h
  · cases h)

theorem r33_0 (t : Nat → TypeId) : isVal (vn 0) (@run (tabPrims [(12, vy 0, vy 0, vf), (12, vy 2, vy 2, vf), (13, vy 0, vy 2, vt), (12, vy 1, vy 1, vf), (12, vy 3, vy 3, vf), (13, vy 1, vy 3, vt)] []) Tryd.prog (valOrc (fun _ => false) (tabG t) (ansT [])) 1000000 (.call 33 [va [vy 0,vy 1], va [vy 2,vy 3]] (tabG t))) = true := by kernel_rfl
theorem p33_0 (t : Nat → TypeId) (c e x y : Int) (h_e : 0 ≤ e ∧ e ≤ 255) (h_y : 0 ≤ y ∧ y ≤ 255) (c0 : ltI c x = true) (c1 : ltI e y = true) : Known Tryd.prog (tabG t) 33 [.agg ⟨[.int .i64 c,.int .u8 e]⟩, .agg ⟨[.int .i64 x,.int .u8 y]⟩] (.int .i64 (-1)) := by
  have h1_e := h_e.1
  have h2_e := h_e.2
  have h1_y := h_y.1
  have h2_y := h_y.2
  have d0 := lt_t c0
  have d1 := lt_t c1
  exact path_calls (ρ := ofInts [(.i64, c), (.u8, e), (.i64, x), (.u8, y)]) (tabs_G t) (size_V t) (floor_V t) (ofInts_plain _) (bt := [(12, vy 0, vy 0, vf), (12, vy 2, vy 2, vf), (13, vy 0, vy 2, vt), (12, vy 1, vy 1, vf), (12, vy 3, vy 3, vf), (13, vy 1, vy 3, vt)]) (ct := []) ⟨bh_neqF rfl rfl rfl rfl (show eqI c c = true from eq_tt (by omega)), bh_neqF rfl rfl rfl rfl (show eqI x x = true from eq_tt (by omega)), bh_lss rfl rfl rfl rfl c0, bh_neqF rfl rfl rfl rfl (show eqI e e = true from eq_tt (by omega)), bh_neqF rfl rfl rfl rfl (show eqI y y = true from eq_tt (by omega)), bh_lss rfl rfl rfl rfl c1, trivial⟩ trivial (el := []) trivial (args := [va [vy 0,vy 1], va [vy 2,vy 3]]) (v := vn 0) rfl rfl (by kernel_rfl) (r33_0 t)

theorem r33_1 (t : Nat → TypeId) : isVal (vn 0) (@run (tabPrims [(12, vy 0, vy 0, vf), (12, vy 2, vy 2, vf), (13, vy 0, vy 2, vt), (12, vy 1, vy 1, vf), (12, vy 3, vy 3, vf), (13, vy 1, vy 3, vf), (15, vy 1, vy 3, vt)] []) Tryd.prog (valOrc (fun _ => false) (tabG t) (ansT [])) 1000000 (.call 33 [va [vy 0,vy 1], va [vy 2,vy 3]] (tabG t))) = true := by kernel_rfl
theorem p33_1 (t : Nat → TypeId) (c e x y : Int) (h_e : 0 ≤ e ∧ e ≤ 255) (h_y : 0 ≤ y ∧ y ≤ 255) (c0 : ltI c x = true) (c1 : ltI e y = false) (c2 : ltI y e = true) : Known Tryd.prog (tabG t) 33 [.agg ⟨[.int .i64 c,.int .u8 e]⟩, .agg ⟨[.int .i64 x,.int .u8 y]⟩] (.int .i64 (-1)) := by
  have h1_e := h_e.1
  have h2_e := h_e.2
  have h1_y := h_y.1
  have h2_y := h_y.2
  have d0 := lt_t c0
  have d1 := lt_f c1
  have d2 := lt_t c2
  exact path_calls (ρ := ofInts [(.i64, c), (.u8, e), (.i64, x), (.u8, y)]) (tabs_G t) (size_V t) (floor_V t) (ofInts_plain _) (bt := [(12, vy 0, vy 0, vf), (12, vy 2, vy 2, vf), (13, vy 0, vy 2, vt), (12, vy 1, vy 1, vf), (12, vy 3, vy 3, vf), (13, vy 1, vy 3, vf), (15, vy 1, vy 3, vt)]) (ct := []) ⟨bh_neqF rfl rfl rfl rfl (show eqI c c = true from eq_tt (by omega)), bh_neqF rfl rfl rfl rfl (show eqI x x = true from eq_tt (by omega)), bh_lss rfl rfl rfl rfl c0, bh_neqF rfl rfl rfl rfl (show eqI e e = true from eq_tt (by omega)), bh_neqF rfl rfl rfl rfl (show eqI y y = true from eq_tt (by omega)), bh_lss rfl rfl rfl rfl c1, bh_gtr rfl rfl rfl rfl c2, trivial⟩ trivial (el := []) trivial (args := [va [vy 0,vy 1], va [vy 2,vy 3]]) (v := vn 0) rfl rfl (by kernel_rfl) (r33_1 t)

theorem r33_2 (t : Nat → TypeId) : isVal (vn 0) (@run (tabPrims [(12, vy 0, vy 0, vf), (12, vy 2, vy 2, vf), (13, vy 0, vy 2, vt), (12, vy 1, vy 1, vf), (12, vy 3, vy 3, vf), (13, vy 1, vy 3, vf), (15, vy 1, vy 3, vf)] []) Tryd.prog (valOrc (fun _ => false) (tabG t) (ansT [])) 1000000 (.call 33 [va [vy 0,vy 1], va [vy 2,vy 3]] (tabG t))) = true := by kernel_rfl
theorem p33_2 (t : Nat → TypeId) (c e x y : Int) (h_e : 0 ≤ e ∧ e ≤ 255) (h_y : 0 ≤ y ∧ y ≤ 255) (c0 : ltI c x = true) (c1 : ltI e y = false) (c2 : ltI y e = false) : Known Tryd.prog (tabG t) 33 [.agg ⟨[.int .i64 c,.int .u8 e]⟩, .agg ⟨[.int .i64 x,.int .u8 y]⟩] (.int .i64 (-1)) := by
  have h1_e := h_e.1
  have h2_e := h_e.2
  have h1_y := h_y.1
  have h2_y := h_y.2
  have d0 := lt_t c0
  have d1 := lt_f c1
  have d2 := lt_f c2
  exact path_calls (ρ := ofInts [(.i64, c), (.u8, e), (.i64, x), (.u8, y)]) (tabs_G t) (size_V t) (floor_V t) (ofInts_plain _) (bt := [(12, vy 0, vy 0, vf), (12, vy 2, vy 2, vf), (13, vy 0, vy 2, vt), (12, vy 1, vy 1, vf), (12, vy 3, vy 3, vf), (13, vy 1, vy 3, vf), (15, vy 1, vy 3, vf)]) (ct := []) ⟨bh_neqF rfl rfl rfl rfl (show eqI c c = true from eq_tt (by omega)), bh_neqF rfl rfl rfl rfl (show eqI x x = true from eq_tt (by omega)), bh_lss rfl rfl rfl rfl c0, bh_neqF rfl rfl rfl rfl (show eqI e e = true from eq_tt (by omega)), bh_neqF rfl rfl rfl rfl (show eqI y y = true from eq_tt (by omega)), bh_lss rfl rfl rfl rfl c1, bh_gtr rfl rfl rfl rfl c2, trivial⟩ trivial (el := []) trivial (args := [va [vy 0,vy 1], va [vy 2,vy 3]]) (v := vn 0) rfl rfl (by kernel_rfl) (r33_2 t)

theorem r33_3 (t : Nat → TypeId) : isVal (vi 1) (@run (tabPrims [(12, vy 0, vy 0, vf), (12, vy 2, vy 2, vf), (13, vy 0, vy 2, vf), (15, vy 0, vy 2, vt), (12, vy 1, vy 1, vf), (12, vy 3, vy 3, vf), (13, vy 1, vy 3, vt)] []) Tryd.prog (valOrc (fun _ => false) (tabG t) (ansT [])) 1000000 (.call 33 [va [vy 0,vy 1], va [vy 2,vy 3]] (tabG t))) = true := by kernel_rfl
theorem p33_3 (t : Nat → TypeId) (c e x y : Int) (h_e : 0 ≤ e ∧ e ≤ 255) (h_y : 0 ≤ y ∧ y ≤ 255) (c0 : ltI c x = false) (c1 : ltI x c = true) (c2 : ltI e y = true) : Known Tryd.prog (tabG t) 33 [.agg ⟨[.int .i64 c,.int .u8 e]⟩, .agg ⟨[.int .i64 x,.int .u8 y]⟩] (.int .i64 1) := by
  have h1_e := h_e.1
  have h2_e := h_e.2
  have h1_y := h_y.1
  have h2_y := h_y.2
  have d0 := lt_f c0
  have d1 := lt_t c1
  have d2 := lt_t c2
  exact path_calls (ρ := ofInts [(.i64, c), (.u8, e), (.i64, x), (.u8, y)]) (tabs_G t) (size_V t) (floor_V t) (ofInts_plain _) (bt := [(12, vy 0, vy 0, vf), (12, vy 2, vy 2, vf), (13, vy 0, vy 2, vf), (15, vy 0, vy 2, vt), (12, vy 1, vy 1, vf), (12, vy 3, vy 3, vf), (13, vy 1, vy 3, vt)]) (ct := []) ⟨bh_neqF rfl rfl rfl rfl (show eqI c c = true from eq_tt (by omega)), bh_neqF rfl rfl rfl rfl (show eqI x x = true from eq_tt (by omega)), bh_lss rfl rfl rfl rfl c0, bh_gtr rfl rfl rfl rfl c1, bh_neqF rfl rfl rfl rfl (show eqI e e = true from eq_tt (by omega)), bh_neqF rfl rfl rfl rfl (show eqI y y = true from eq_tt (by omega)), bh_lss rfl rfl rfl rfl c2, trivial⟩ trivial (el := []) trivial (args := [va [vy 0,vy 1], va [vy 2,vy 3]]) (v := vi 1) rfl rfl (by kernel_rfl) (r33_3 t)

theorem r33_4 (t : Nat → TypeId) : isVal (vi 1) (@run (tabPrims [(12, vy 0, vy 0, vf), (12, vy 2, vy 2, vf), (13, vy 0, vy 2, vf), (15, vy 0, vy 2, vt), (12, vy 1, vy 1, vf), (12, vy 3, vy 3, vf), (13, vy 1, vy 3, vf), (15, vy 1, vy 3, vt)] []) Tryd.prog (valOrc (fun _ => false) (tabG t) (ansT [])) 1000000 (.call 33 [va [vy 0,vy 1], va [vy 2,vy 3]] (tabG t))) = true := by kernel_rfl
theorem p33_4 (t : Nat → TypeId) (c e x y : Int) (h_e : 0 ≤ e ∧ e ≤ 255) (h_y : 0 ≤ y ∧ y ≤ 255) (c0 : ltI c x = false) (c1 : ltI x c = true) (c2 : ltI e y = false) (c3 : ltI y e = true) : Known Tryd.prog (tabG t) 33 [.agg ⟨[.int .i64 c,.int .u8 e]⟩, .agg ⟨[.int .i64 x,.int .u8 y]⟩] (.int .i64 1) := by
  have h1_e := h_e.1
  have h2_e := h_e.2
  have h1_y := h_y.1
  have h2_y := h_y.2
  have d0 := lt_f c0
  have d1 := lt_t c1
  have d2 := lt_f c2
  have d3 := lt_t c3
  exact path_calls (ρ := ofInts [(.i64, c), (.u8, e), (.i64, x), (.u8, y)]) (tabs_G t) (size_V t) (floor_V t) (ofInts_plain _) (bt := [(12, vy 0, vy 0, vf), (12, vy 2, vy 2, vf), (13, vy 0, vy 2, vf), (15, vy 0, vy 2, vt), (12, vy 1, vy 1, vf), (12, vy 3, vy 3, vf), (13, vy 1, vy 3, vf), (15, vy 1, vy 3, vt)]) (ct := []) ⟨bh_neqF rfl rfl rfl rfl (show eqI c c = true from eq_tt (by omega)), bh_neqF rfl rfl rfl rfl (show eqI x x = true from eq_tt (by omega)), bh_lss rfl rfl rfl rfl c0, bh_gtr rfl rfl rfl rfl c1, bh_neqF rfl rfl rfl rfl (show eqI e e = true from eq_tt (by omega)), bh_neqF rfl rfl rfl rfl (show eqI y y = true from eq_tt (by omega)), bh_lss rfl rfl rfl rfl c2, bh_gtr rfl rfl rfl rfl c3, trivial⟩ trivial (el := []) trivial (args := [va [vy 0,vy 1], va [vy 2,vy 3]]) (v := vi 1) rfl rfl (by kernel_rfl) (r33_4 t)

theorem r33_5 (t : Nat → TypeId) : isVal (vi 1) (@run (tabPrims [(12, vy 0, vy 0, vf), (12, vy 2, vy 2, vf), (13, vy 0, vy 2, vf), (15, vy 0, vy 2, vt), (12, vy 1, vy 1, vf), (12, vy 3, vy 3, vf), (13, vy 1, vy 3, vf), (15, vy 1, vy 3, vf)] []) Tryd.prog (valOrc (fun _ => false) (tabG t) (ansT [])) 1000000 (.call 33 [va [vy 0,vy 1], va [vy 2,vy 3]] (tabG t))) = true := by kernel_rfl
theorem p33_5 (t : Nat → TypeId) (c e x y : Int) (h_e : 0 ≤ e ∧ e ≤ 255) (h_y : 0 ≤ y ∧ y ≤ 255) (c0 : ltI c x = false) (c1 : ltI x c = true) (c2 : ltI e y = false) (c3 : ltI y e = false) : Known Tryd.prog (tabG t) 33 [.agg ⟨[.int .i64 c,.int .u8 e]⟩, .agg ⟨[.int .i64 x,.int .u8 y]⟩] (.int .i64 1) := by
  have h1_e := h_e.1
  have h2_e := h_e.2
  have h1_y := h_y.1
  have h2_y := h_y.2
  have d0 := lt_f c0
  have d1 := lt_t c1
  have d2 := lt_f c2
  have d3 := lt_f c3
  exact path_calls (ρ := ofInts [(.i64, c), (.u8, e), (.i64, x), (.u8, y)]) (tabs_G t) (size_V t) (floor_V t) (ofInts_plain _) (bt := [(12, vy 0, vy 0, vf), (12, vy 2, vy 2, vf), (13, vy 0, vy 2, vf), (15, vy 0, vy 2, vt), (12, vy 1, vy 1, vf), (12, vy 3, vy 3, vf), (13, vy 1, vy 3, vf), (15, vy 1, vy 3, vf)]) (ct := []) ⟨bh_neqF rfl rfl rfl rfl (show eqI c c = true from eq_tt (by omega)), bh_neqF rfl rfl rfl rfl (show eqI x x = true from eq_tt (by omega)), bh_lss rfl rfl rfl rfl c0, bh_gtr rfl rfl rfl rfl c1, bh_neqF rfl rfl rfl rfl (show eqI e e = true from eq_tt (by omega)), bh_neqF rfl rfl rfl rfl (show eqI y y = true from eq_tt (by omega)), bh_lss rfl rfl rfl rfl c2, bh_gtr rfl rfl rfl rfl c3, trivial⟩ trivial (el := []) trivial (args := [va [vy 0,vy 1], va [vy 2,vy 3]]) (v := vi 1) rfl rfl (by kernel_rfl) (r33_5 t)

theorem r33_6 (t : Nat → TypeId) : isVal (vn 0) (@run (tabPrims [(12, vy 0, vy 0, vf), (12, vy 2, vy 2, vf), (13, vy 0, vy 2, vf), (15, vy 0, vy 2, vf), (12, vy 1, vy 1, vf), (12, vy 3, vy 3, vf), (13, vy 1, vy 3, vt)] []) Tryd.prog (valOrc (fun _ => false) (tabG t) (ansT [])) 1000000 (.call 33 [va [vy 0,vy 1], va [vy 2,vy 3]] (tabG t))) = true := by kernel_rfl
theorem p33_6 (t : Nat → TypeId) (c e x y : Int) (h_e : 0 ≤ e ∧ e ≤ 255) (h_y : 0 ≤ y ∧ y ≤ 255) (c0 : ltI c x = false) (c1 : ltI x c = false) (c2 : ltI e y = true) : Known Tryd.prog (tabG t) 33 [.agg ⟨[.int .i64 c,.int .u8 e]⟩, .agg ⟨[.int .i64 x,.int .u8 y]⟩] (.int .i64 (-1)) := by
  have h1_e := h_e.1
  have h2_e := h_e.2
  have h1_y := h_y.1
  have h2_y := h_y.2
  have d0 := lt_f c0
  have d1 := lt_f c1
  have d2 := lt_t c2
  exact path_calls (ρ := ofInts [(.i64, c), (.u8, e), (.i64, x), (.u8, y)]) (tabs_G t) (size_V t) (floor_V t) (ofInts_plain _) (bt := [(12, vy 0, vy 0, vf), (12, vy 2, vy 2, vf), (13, vy 0, vy 2, vf), (15, vy 0, vy 2, vf), (12, vy 1, vy 1, vf), (12, vy 3, vy 3, vf), (13, vy 1, vy 3, vt)]) (ct := []) ⟨bh_neqF rfl rfl rfl rfl (show eqI c c = true from eq_tt (by omega)), bh_neqF rfl rfl rfl rfl (show eqI x x = true from eq_tt (by omega)), bh_lss rfl rfl rfl rfl c0, bh_gtr rfl rfl rfl rfl c1, bh_neqF rfl rfl rfl rfl (show eqI e e = true from eq_tt (by omega)), bh_neqF rfl rfl rfl rfl (show eqI y y = true from eq_tt (by omega)), bh_lss rfl rfl rfl rfl c2, trivial⟩ trivial (el := []) trivial (args := [va [vy 0,vy 1], va [vy 2,vy 3]]) (v := vn 0) rfl rfl (by kernel_rfl) (r33_6 t)

theorem r33_7 (t : Nat → TypeId) : isVal (vi 1) (@run (tabPrims [(12, vy 0, vy 0, vf), (12, vy 2, vy 2, vf), (13, vy 0, vy 2, vf), (15, vy 0, vy 2, vf), (12, vy 1, vy 1, vf), (12, vy 3, vy 3, vf), (13, vy 1, vy 3, vf), (15, vy 1, vy 3, vt)] []) Tryd.prog (valOrc (fun _ => false) (tabG t) (ansT [])) 1000000 (.call 33 [va [vy 0,vy 1], va [vy 2,vy 3]] (tabG t))) = true := by kernel_rfl
theorem p33_7 (t : Nat → TypeId) (c e x y : Int) (h_e : 0 ≤ e ∧ e ≤ 255) (h_y : 0 ≤ y ∧ y ≤ 255) (c0 : ltI c x = false) (c1 : ltI x c = false) (c2 : ltI e y = false) (c3 : ltI y e = true) : Known Tryd.prog (tabG t) 33 [.agg ⟨[.int .i64 c,.int .u8 e]⟩, .agg ⟨[.int .i64 x,.int .u8 y]⟩] (.int .i64 1) := by
  have h1_e := h_e.1
  have h2_e := h_e.2
  have h1_y := h_y.1
  have h2_y := h_y.2
  have d0 := lt_f c0
  have d1 := lt_f c1
  have d2 := lt_f c2
  have d3 := lt_t c3
  exact path_calls (ρ := ofInts [(.i64, c), (.u8, e), (.i64, x), (.u8, y)]) (tabs_G t) (size_V t) (floor_V t) (ofInts_plain _) (bt := [(12, vy 0, vy 0, vf), (12, vy 2, vy 2, vf), (13, vy 0, vy 2, vf), (15, vy 0, vy 2, vf), (12, vy 1, vy 1, vf), (12, vy 3, vy 3, vf), (13, vy 1, vy 3, vf), (15, vy 1, vy 3, vt)]) (ct := []) ⟨bh_neqF rfl rfl rfl rfl (show eqI c c = true from eq_tt (by omega)), bh_neqF rfl rfl rfl rfl (show eqI x x = true from eq_tt (by omega)), bh_lss rfl rfl rfl rfl c0, bh_gtr rfl rfl rfl rfl c1, bh_neqF rfl rfl rfl rfl (show eqI e e = true from eq_tt (by omega)), bh_neqF rfl rfl rfl rfl (show eqI y y = true from eq_tt (by omega)), bh_lss rfl rfl rfl rfl c2, bh_gtr rfl rfl rfl rfl c3, trivial⟩ trivial (el := []) trivial (args := [va [vy 0,vy 1], va [vy 2,vy 3]]) (v := vi 1) rfl rfl (by kernel_rfl) (r33_7 t)

theorem r33_8 (t : Nat → TypeId) : isVal (vi 0) (@run (tabPrims [(12, vy 0, vy 0, vf), (12, vy 2, vy 2, vf), (13, vy 0, vy 2, vf), (15, vy 0, vy 2, vf), (12, vy 1, vy 1, vf), (12, vy 3, vy 3, vf), (13, vy 1, vy 3, vf), (15, vy 1, vy 3, vf)] []) Tryd.prog (valOrc (fun _ => false) (tabG t) (ansT [])) 1000000 (.call 33 [va [vy 0,vy 1], va [vy 2,vy 3]] (tabG t))) = true := by kernel_rfl
theorem p33_8 (t : Nat → TypeId) (c e x y : Int) (h_e : 0 ≤ e ∧ e ≤ 255) (h_y : 0 ≤ y ∧ y ≤ 255) (c0 : ltI c x = false) (c1 : ltI x c = false) (c2 : ltI e y = false) (c3 : ltI y e = false) : Known Tryd.prog (tabG t) 33 [.agg ⟨[.int .i64 c,.int .u8 e]⟩, .agg ⟨[.int .i64 x,.int .u8 y]⟩] (.int .i64 0) := by
  have h1_e := h_e.1
  have h2_e := h_e.2
  have h1_y := h_y.1
  have h2_y := h_y.2
  have d0 := lt_f c0
  have d1 := lt_f c1
  have d2 := lt_f c2
  have d3 := lt_f c3
  exact path_calls (ρ := ofInts [(.i64, c), (.u8, e), (.i64, x), (.u8, y)]) (tabs_G t) (size_V t) (floor_V t) (ofInts_plain _) (bt := [(12, vy 0, vy 0, vf), (12, vy 2, vy 2, vf), (13, vy 0, vy 2, vf), (15, vy 0, vy 2, vf), (12, vy 1, vy 1, vf), (12, vy 3, vy 3, vf), (13, vy 1, vy 3, vf), (15, vy 1, vy 3, vf)]) (ct := []) ⟨bh_neqF rfl rfl rfl rfl (show eqI c c = true from eq_tt (by omega)), bh_neqF rfl rfl rfl rfl (show eqI x x = true from eq_tt (by omega)), bh_lss rfl rfl rfl rfl c0, bh_gtr rfl rfl rfl rfl c1, bh_neqF rfl rfl rfl rfl (show eqI e e = true from eq_tt (by omega)), bh_neqF rfl rfl rfl rfl (show eqI y y = true from eq_tt (by omega)), bh_lss rfl rfl rfl rfl c2, bh_gtr rfl rfl rfl rfl c3, trivial⟩ trivial (el := []) trivial (args := [va [vy 0,vy 1], va [vy 2,vy 3]]) (v := vi 0) rfl rfl (by kernel_rfl) (r33_8 t)

/-- What function 33 returns. -/
def F33 (c e x y : Int) : Value := (match ltI c x with | true => (match ltI e y with | true => .int .i64 (-1) | false => (match ltI y e with | true => .int .i64 (-1) | false => .int .i64 (-1))) | false => (match ltI x c with | true => (match ltI e y with | true => .int .i64 1 | false => (match ltI y e with | true => .int .i64 1 | false => .int .i64 1)) | false => (match ltI e y with | true => .int .i64 (-1) | false => (match ltI y e with | true => .int .i64 1 | false => .int .i64 0))))
theorem s33 (t : Nat → TypeId) (c e x y : Int) (h_e : 0 ≤ e ∧ e ≤ 255) (h_y : 0 ≤ y ∧ y ≤ 255) : Known Tryd.prog (tabG t) 33 [.agg ⟨[.int .i64 c,.int .u8 e]⟩, .agg ⟨[.int .i64 x,.int .u8 y]⟩] (F33 c e x y) := by
  unfold F33
  cases c0 : ltI c x with
  | true =>
    cases c1 : ltI e y with
    | true =>
      exact p33_0 t c e x y h_e h_y c0 c1
    | false =>
      cases c2 : ltI y e with
      | true =>
        exact p33_1 t c e x y h_e h_y c0 c1 c2
      | false =>
        exact p33_2 t c e x y h_e h_y c0 c1 c2
  | false =>
    cases c1 : ltI x c with
    | true =>
      cases c2 : ltI e y with
      | true =>
        exact p33_3 t c e x y h_e h_y c0 c1 c2
      | false =>
        cases c3 : ltI y e with
        | true =>
          exact p33_4 t c e x y h_e h_y c0 c1 c2 c3
        | false =>
          exact p33_5 t c e x y h_e h_y c0 c1 c2 c3
    | false =>
      cases c2 : ltI e y with
      | true =>
        exact p33_6 t c e x y h_e h_y c0 c1 c2
      | false =>
        cases c3 : ltI y e with
        | true =>
          exact p33_7 t c e x y h_e h_y c0 c1 c2 c3
        | false =>
          exact p33_8 t c e x y h_e h_y c0 c1 c2 c3
theorem fl33 (c e x y : Int) : flat (F33 c e x y) = true := by
  unfold F33
  repeat' split
  all_goals rfl
noncomputable def A33 (args : List Value) : Option Value := match args with
  | [.agg ⟨[.int .i64 c,.int .u8 e]⟩, .agg ⟨[.int .i64 x,.int .u8 y]⟩] => (match inR 0 255 e with | true => (match inR 0 255 y with | true => some (F33 c e x y) | false => none) | false => none)
  | _ => none
theorem a33 (t : Nat → TypeId) [Syms] : AnsOk Tryd.prog (tabG t) (fnAns 33 A33) := fnAns_ok (tabs_G t) (by
  intro args v h
  unfold A33 at h
  split at h
  · split at h
    · rename_i hr_e
      split at h
      · rename_i hr_y
        cases h
        exact ⟨s33 t _ _ _ _ (inR_spec hr_e) (inR_spec hr_y), rfl, fl33 _ _ _ _⟩
      · cases h
    · cases h
  · cases h)

end Go.Proofs.YtdnekeegpenioaaDoor
