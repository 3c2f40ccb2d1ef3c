/-
  Says: what small functions return.
-/
import Derived.Test.YtbghfcllicfnpaaGreatDoorKl
import Derived.Test.YtbghfcllicfnpaaGreatDoorVx24
import Derived.KernelRfl
set_option maxRecDepth 1000000
set_option linter.unusedVariables false
set_option linter.unusedSimpArgs false
namespace Go.Proofs.YtbghfcllicfnpaaGreatDoor
open Go Go.Vx
attribute [local instance] anyKeeps

theorem wid_i64 {n : Int} (h1 : -9223372036854775808 ≤ n) (h2 : n ≤ 9223372036854775807) : wrapF .i64 n = n := wrapF_id (k := .i64) h1 (show n < 9223372036854775808 by omega)
theorem wid_u8 {n : Int} (h1 : 0 ≤ n) (h2 : n ≤ 255) : wrapF .u8 n = n := wrapF_id (k := .u8) (show -(0 : Int) ≤ n by omega) (show n < 256 by omega)
def inR (lo hi x : Int) : Bool := match ltI x lo with
  | true => false
  | false => match ltI hi x with
    | true => false
    | false => true
theorem inR_spec {lo hi x : Int} (h : inR lo hi x = true) : lo ≤ x ∧ x ≤ hi := by
  unfold inR at h
  split at h
  · cases h
  · rename_i h1
    split at h
    · cases h
    · rename_i h2
      exact ⟨lt_f h1, lt_f h2⟩

theorem r60_0 (t : Nat → TypeId) : isVal (vt) (@run (tabPrims [(14, vu 1, vy 0, vt), (14, vy 0, vu 3, vt)] []) Tryz.prog (valOrc (fun _ => false) (tabG t) (ansT [])) 1000000 (.call 60 [vy 0] (tabG t))) = true := by kernel_rfl
theorem p60_0 (t : Nat → TypeId) (k : Int) (h_k : 0 ≤ k ∧ k ≤ 255) (c0 : ltI k 1 = false) (c1 : ltI 3 k = false) : Known Tryz.prog (tabG t) 60 [.int .u8 k] (.bool true) := by
  have h1_k := h_k.1
  have h2_k := h_k.2
  have d0 := lt_f c0
  have d1 := lt_f c1
  exact path_calls (ρ := ofInts [(.u8, k)]) (tabs_G t) (size_V t) (floor_V t) (ofInts_plain _) (bt := [(14, vu 1, vy 0, vt), (14, vy 0, vu 3, vt)]) (ct := []) ⟨bh_leqT rfl rfl rfl rfl c0, bh_leqT rfl rfl rfl rfl c1, trivial⟩ trivial (el := []) trivial (args := [vy 0]) (v := vt) rfl rfl (by kernel_rfl) (r60_0 t)

theorem r60_1 (t : Nat → TypeId) : isVal (vf) (@run (tabPrims [(14, vu 1, vy 0, vt), (14, vy 0, vu 3, vf)] []) Tryz.prog (valOrc (fun _ => false) (tabG t) (ansT [])) 1000000 (.call 60 [vy 0] (tabG t))) = true := by kernel_rfl
theorem p60_1 (t : Nat → TypeId) (k : Int) (h_k : 0 ≤ k ∧ k ≤ 255) (c0 : ltI k 1 = false) (c1 : ltI 3 k = true) : Known Tryz.prog (tabG t) 60 [.int .u8 k] (.bool false) := by
  have h1_k := h_k.1
  have h2_k := h_k.2
  have d0 := lt_f c0
  have d1 := lt_t c1
  exact path_calls (ρ := ofInts [(.u8, k)]) (tabs_G t) (size_V t) (floor_V t) (ofInts_plain _) (bt := [(14, vu 1, vy 0, vt), (14, vy 0, vu 3, vf)]) (ct := []) ⟨bh_leqT rfl rfl rfl rfl c0, bh_leqF rfl rfl rfl rfl c1, trivial⟩ trivial (el := []) trivial (args := [vy 0]) (v := vf) rfl rfl (by kernel_rfl) (r60_1 t)

theorem r60_2 (t : Nat → TypeId) : isVal (vf) (@run (tabPrims [(14, vu 1, vy 0, vf)] []) Tryz.prog (valOrc (fun _ => false) (tabG t) (ansT [])) 1000000 (.call 60 [vy 0] (tabG t))) = true := by kernel_rfl
theorem p60_2 (t : Nat → TypeId) (k : Int) (h_k : 0 ≤ k ∧ k ≤ 255) (c0 : ltI k 1 = true) : Known Tryz.prog (tabG t) 60 [.int .u8 k] (.bool false) := by
  have h1_k := h_k.1
  have h2_k := h_k.2
  have d0 := lt_t c0
  exact path_calls (ρ := ofInts [(.u8, k)]) (tabs_G t) (size_V t) (floor_V t) (ofInts_plain _) (bt := [(14, vu 1, vy 0, vf)]) (ct := []) ⟨bh_leqF rfl rfl rfl rfl c0, trivial⟩ trivial (el := []) trivial (args := [vy 0]) (v := vf) rfl rfl (by kernel_rfl) (r60_2 t)

/-- What function 60 returns. -/
def F60 (k : Int) : Value := (match ltI k 1 with | true => .bool false | false => (match ltI 3 k with | true => .bool false | false => .bool true))
theorem s60 (t : Nat → TypeId) (k : Int) (h_k : 0 ≤ k ∧ k ≤ 255) : Known Tryz.prog (tabG t) 60 [.int .u8 k] (F60 k) := by
  unfold F60
  cases c0 : ltI k 1 with
  | true =>
    exact p60_2 t k h_k c0
  | false =>
    cases c1 : ltI 3 k with
    | true =>
      exact p60_1 t k h_k c0 c1
    | false =>
      exact p60_0 t k h_k c0 c1
theorem fl60 (k : Int) : flat (F60 k) = true := by
  unfold F60
  repeat' split
  all_goals rfl
noncomputable def A60 (args : List Value) : Option Value := match args with
  | [.int .u8 k] => (match inR 0 255 k with | true => some (F60 k) | false => none)
  | _ => none
theorem a60 (t : Nat → TypeId) [Syms] : AnsOk Tryz.prog (tabG t) (fnAns 60 A60) := fnAns_ok (tabs_G t) (by
  intro args v h
  unfold A60 at h
  split at h
  · split at h
    · rename_i hr_k
      cases h
      exact ⟨s60 t _ (inR_spec hr_k), rfl, fl60 _⟩
    · cases h
  · cases h)

theorem r46_0 (t : Nat → TypeId) : isVal (va [vy 0,vy 1]) (@run (tabPrims [] []) Tryz.prog (valOrc (fun _ => false) (tabG t) (ansT [])) 1000000 (.call 46 [va [vy 0,vy 1,vy 2]] (tabG t))) = true := by kernel_rfl
theorem p46_0 (t : Nat → TypeId) (c e k : Int) (h_e : 0 ≤ e ∧ e ≤ 255) (h_k : 0 ≤ k ∧ k ≤ 255)  : Known Tryz.prog (tabG t) 46 [.agg ⟨[.int .i64 c,.int .u8 e,.int .u8 k]⟩] (.agg ⟨[.int .i64 c,.int .u8 e]⟩) := by
  have h1_e := h_e.1
  have h2_e := h_e.2
  have h1_k := h_k.1
  have h2_k := h_k.2
  exact path_calls (ρ := ofInts [(.i64, c), (.u8, e), (.u8, k)]) (tabs_G t) (size_V t) (floor_V t) (ofInts_plain _) (bt := []) (ct := []) trivial trivial (el := []) trivial (args := [va [vy 0,vy 1,vy 2]]) (v := va [vy 0,vy 1]) rfl rfl (by kernel_rfl) (r46_0 t)

/-- What function 46 returns. -/
def F46 (c e k : Int) : Value := .agg ⟨[.int .i64 c,.int .u8 e]⟩
theorem s46 (t : Nat → TypeId) (c e k : Int) (h_e : 0 ≤ e ∧ e ≤ 255) (h_k : 0 ≤ k ∧ k ≤ 255) : Known Tryz.prog (tabG t) 46 [.agg ⟨[.int .i64 c,.int .u8 e,.int .u8 k]⟩] (F46 c e k) := by
  unfold F46
  exact p46_0 t c e k h_e h_k 
theorem fl46 (c e k : Int) : flat (F46 c e k) = true := by
  unfold F46
  repeat' split
  all_goals rfl
noncomputable def A46 (args : List Value) : Option Value := match args with
  | [.agg ⟨[.int .i64 c,.int .u8 e,.int .u8 k]⟩] => (match inR 0 255 e with | true => (match inR 0 255 k with | true => some (F46 c e k) | false => none) | false => none)
  | _ => none
theorem a46 (t : Nat → TypeId) [Syms] : AnsOk Tryz.prog (tabG t) (fnAns 46 A46) := fnAns_ok (tabs_G t) (by
  intro args v h
  unfold A46 at h
  split at h
  · split at h
    · rename_i hr_e
      split at h
      · rename_i hr_k
        cases h
        exact ⟨s46 t _ _ _ (inR_spec hr_e) (inR_spec hr_k), rfl, fl46 _ _ _⟩
      · cases h
    · cases h
  · cases h)

theorem r50_0 (t : Nat → TypeId) : isVal (vn 0) (@run (tabPrims [(12, vy 0, vy 0, vf), (12, vy 2, vy 2, vf), (13, vy 0, vy 2, vt), (12, vy 1, vy 1, vf), (12, vy 3, vy 3, vf), (13, vy 1, vy 3, vt)] []) Tryz.prog (valOrc (fun _ => false) (tabG t) (ansT [])) 1000000 (.call 50 [va [vy 0,vy 1], va [vy 2,vy 3]] (tabG t))) = true := by kernel_rfl
theorem p50_0 (t : Nat → TypeId) (c e x y : Int) (h_e : 0 ≤ e ∧ e ≤ 255) (h_y : 0 ≤ y ∧ y ≤ 255) (c0 : ltI c x = true) (c1 : ltI e y = true) : Known Tryz.prog (tabG t) 50 [.agg ⟨[.int .i64 c,.int .u8 e]⟩, .agg ⟨[.int .i64 x,.int .u8 y]⟩] (.int .i64 (-1)) := by
  have h1_e := h_e.1
  have h2_e := h_e.2
  have h1_y := h_y.1
  have h2_y := h_y.2
  have d0 := lt_t c0
  have d1 := lt_t c1
  exact path_calls (ρ := ofInts [(.i64, c), (.u8, e), (.i64, x), (.u8, y)]) (tabs_G t) (size_V t) (floor_V t) (ofInts_plain _) (bt := [(12, vy 0, vy 0, vf), (12, vy 2, vy 2, vf), (13, vy 0, vy 2, vt), (12, vy 1, vy 1, vf), (12, vy 3, vy 3, vf), (13, vy 1, vy 3, vt)]) (ct := []) ⟨bh_neqF rfl rfl rfl rfl (show eqI c c = true from eq_tt (by omega)), bh_neqF rfl rfl rfl rfl (show eqI x x = true from eq_tt (by omega)), bh_lss rfl rfl rfl rfl c0, bh_neqF rfl rfl rfl rfl (show eqI e e = true from eq_tt (by omega)), bh_neqF rfl rfl rfl rfl (show eqI y y = true from eq_tt (by omega)), bh_lss rfl rfl rfl rfl c1, trivial⟩ trivial (el := []) trivial (args := [va [vy 0,vy 1], va [vy 2,vy 3]]) (v := vn 0) rfl rfl (by kernel_rfl) (r50_0 t)

theorem r50_1 (t : Nat → TypeId) : isVal (vn 0) (@run (tabPrims [(12, vy 0, vy 0, vf), (12, vy 2, vy 2, vf), (13, vy 0, vy 2, vt), (12, vy 1, vy 1, vf), (12, vy 3, vy 3, vf), (13, vy 1, vy 3, vf), (15, vy 1, vy 3, vt)] []) Tryz.prog (valOrc (fun _ => false) (tabG t) (ansT [])) 1000000 (.call 50 [va [vy 0,vy 1], va [vy 2,vy 3]] (tabG t))) = true := by kernel_rfl
theorem p50_1 (t : Nat → TypeId) (c e x y : Int) (h_e : 0 ≤ e ∧ e ≤ 255) (h_y : 0 ≤ y ∧ y ≤ 255) (c0 : ltI c x = true) (c1 : ltI e y = false) (c2 : ltI y e = true) : Known Tryz.prog (tabG t) 50 [.agg ⟨[.int .i64 c,.int .u8 e]⟩, .agg ⟨[.int .i64 x,.int .u8 y]⟩] (.int .i64 (-1)) := by
  have h1_e := h_e.1
  have h2_e := h_e.2
  have h1_y := h_y.1
  have h2_y := h_y.2
  have d0 := lt_t c0
  have d1 := lt_f c1
  have d2 := lt_t c2
  exact path_calls (ρ := ofInts [(.i64, c), (.u8, e), (.i64, x), (.u8, y)]) (tabs_G t) (size_V t) (floor_V t) (ofInts_plain _) (bt := [(12, vy 0, vy 0, vf), (12, vy 2, vy 2, vf), (13, vy 0, vy 2, vt), (12, vy 1, vy 1, vf), (12, vy 3, vy 3, vf), (13, vy 1, vy 3, vf), (15, vy 1, vy 3, vt)]) (ct := []) ⟨bh_neqF rfl rfl rfl rfl (show eqI c c = true from eq_tt (by omega)), bh_neqF rfl rfl rfl rfl (show eqI x x = true from eq_tt (by omega)), bh_lss rfl rfl rfl rfl c0, bh_neqF rfl rfl rfl rfl (show eqI e e = true from eq_tt (by omega)), bh_neqF rfl rfl rfl rfl (show eqI y y = true from eq_tt (by omega)), bh_lss rfl rfl rfl rfl c1, bh_gtr rfl rfl rfl rfl c2, trivial⟩ trivial (el := []) trivial (args := [va [vy 0,vy 1], va [vy 2,vy 3]]) (v := vn 0) rfl rfl (by kernel_rfl) (r50_1 t)

theorem r50_2 (t : Nat → TypeId) : isVal (vn 0) (@run (tabPrims [(12, vy 0, vy 0, vf), (12, vy 2, vy 2, vf), (13, vy 0, vy 2, vt), (12, vy 1, vy 1, vf), (12, vy 3, vy 3, vf), (13, vy 1, vy 3, vf), (15, vy 1, vy 3, vf)] []) Tryz.prog (valOrc (fun _ => false) (tabG t) (ansT [])) 1000000 (.call 50 [va [vy 0,vy 1], va [vy 2,vy 3]] (tabG t))) = true := by kernel_rfl
theorem p50_2 (t : Nat → TypeId) (c e x y : Int) (h_e : 0 ≤ e ∧ e ≤ 255) (h_y : 0 ≤ y ∧ y ≤ 255) (c0 : ltI c x = true) (c1 : ltI e y = false) (c2 : ltI y e = false) : Known Tryz.prog (tabG t) 50 [.agg ⟨[.int .i64 c,.int .u8 e]⟩, .agg ⟨[.int .i64 x,.int .u8 y]⟩] (.int .i64 (-1)) := by
  have h1_e := h_e.1
  have h2_e := h_e.2
  have h1_y := h_y.1
  have h2_y := h_y.2
  have d0 := lt_t c0
  have d1 := lt_f c1
  have d2 := lt_f c2
  exact path_calls (ρ := ofInts [(.i64, c), (.u8, e), (.i64, x), (.u8, y)]) (tabs_G t) (size_V t) (floor_V t) (ofInts_plain _) (bt := [(12, vy 0, vy 0, vf), (12, vy 2, vy 2, vf), (13, vy 0, vy 2, vt), (12, vy 1, vy 1, vf), (12, vy 3, vy 3, vf), (13, vy 1, vy 3, vf), (15, vy 1, vy 3, vf)]) (ct := []) ⟨bh_neqF rfl rfl rfl rfl (show eqI c c = true from eq_tt (by omega)), bh_neqF rfl rfl rfl rfl (show eqI x x = true from eq_tt (by omega)), bh_lss rfl rfl rfl rfl c0, bh_neqF rfl rfl rfl rfl (show eqI e e = true from eq_tt (by omega)), bh_neqF rfl rfl rfl rfl (show eqI y y = true from eq_tt (by omega)), bh_lss rfl rfl rfl rfl c1, bh_gtr rfl rfl rfl rfl c2, trivial⟩ trivial (el := []) trivial (args := [va [vy 0,vy 1], va [vy 2,vy 3]]) (v := vn 0) rfl rfl (by kernel_rfl) (r50_2 t)

theorem r50_3 (t : Nat → TypeId) : isVal (vi 1) (@run (tabPrims [(12, vy 0, vy 0, vf), (12, vy 2, vy 2, vf), (13, vy 0, vy 2, vf), (15, vy 0, vy 2, vt), (12, vy 1, vy 1, vf), (12, vy 3, vy 3, vf), (13, vy 1, vy 3, vt)] []) Tryz.prog (valOrc (fun _ => false) (tabG t) (ansT [])) 1000000 (.call 50 [va [vy 0,vy 1], va [vy 2,vy 3]] (tabG t))) = true := by kernel_rfl
theorem p50_3 (t : Nat → TypeId) (c e x y : Int) (h_e : 0 ≤ e ∧ e ≤ 255) (h_y : 0 ≤ y ∧ y ≤ 255) (c0 : ltI c x = false) (c1 : ltI x c = true) (c2 : ltI e y = true) : Known Tryz.prog (tabG t) 50 [.agg ⟨[.int .i64 c,.int .u8 e]⟩, .agg ⟨[.int .i64 x,.int .u8 y]⟩] (.int .i64 1) := by
  have h1_e := h_e.1
  have h2_e := h_e.2
  have h1_y := h_y.1
  have h2_y := h_y.2
  have d0 := lt_f c0
  have d1 := lt_t c1
  have d2 := lt_t c2
  exact path_calls (ρ := ofInts [(.i64, c), (.u8, e), (.i64, x), (.u8, y)]) (tabs_G t) (size_V t) (floor_V t) (ofInts_plain _) (bt := [(12, vy 0, vy 0, vf), (12, vy 2, vy 2, vf), (13, vy 0, vy 2, vf), (15, vy 0, vy 2, vt), (12, vy 1, vy 1, vf), (12, vy 3, vy 3, vf), (13, vy 1, vy 3, vt)]) (ct := []) ⟨bh_neqF rfl rfl rfl rfl (show eqI c c = true from eq_tt (by omega)), bh_neqF rfl rfl rfl rfl (show eqI x x = true from eq_tt (by omega)), bh_lss rfl rfl rfl rfl c0, bh_gtr rfl rfl rfl rfl c1, bh_neqF rfl rfl rfl rfl (show eqI e e = true from eq_tt (by omega)), bh_neqF rfl rfl rfl rfl (show eqI y y = true from eq_tt (by omega)), bh_lss rfl rfl rfl rfl c2, trivial⟩ trivial (el := []) trivial (args := [va [vy 0,vy 1], va [vy 2,vy 3]]) (v := vi 1) rfl rfl (by kernel_rfl) (r50_3 t)

theorem r50_4 (t : Nat → TypeId) : isVal (vi 1) (@run (tabPrims [(12, vy 0, vy 0, vf), (12, vy 2, vy 2, vf), (13, vy 0, vy 2, vf), (15, vy 0, vy 2, vt), (12, vy 1, vy 1, vf), (12, vy 3, vy 3, vf), (13, vy 1, vy 3, vf), (15, vy 1, vy 3, vt)] []) Tryz.prog (valOrc (fun _ => false) (tabG t) (ansT [])) 1000000 (.call 50 [va [vy 0,vy 1], va [vy 2,vy 3]] (tabG t))) = true := by kernel_rfl
theorem p50_4 (t : Nat → TypeId) (c e x y : Int) (h_e : 0 ≤ e ∧ e ≤ 255) (h_y : 0 ≤ y ∧ y ≤ 255) (c0 : ltI c x = false) (c1 : ltI x c = true) (c2 : ltI e y = false) (c3 : ltI y e = true) : Known Tryz.prog (tabG t) 50 [.agg ⟨[.int .i64 c,.int .u8 e]⟩, .agg ⟨[.int .i64 x,.int .u8 y]⟩] (.int .i64 1) := by
  have h1_e := h_e.1
  have h2_e := h_e.2
  have h1_y := h_y.1
  have h2_y := h_y.2
  have d0 := lt_f c0
  have d1 := lt_t c1
  have d2 := lt_f c2
  have d3 := lt_t c3
  exact path_calls (ρ := ofInts [(.i64, c), (.u8, e), (.i64, x), (.u8, y)]) (tabs_G t) (size_V t) (floor_V t) (ofInts_plain _) (bt := [(12, vy 0, vy 0, vf), (12, vy 2, vy 2, vf), (13, vy 0, vy 2, vf), (15, vy 0, vy 2, vt), (12, vy 1, vy 1, vf), (12, vy 3, vy 3, vf), (13, vy 1, vy 3, vf), (15, vy 1, vy 3, vt)]) (ct := []) ⟨bh_neqF rfl rfl rfl rfl (show eqI c c = true from eq_tt (by omega)), bh_neqF rfl rfl rfl rfl (show eqI x x = true from eq_tt (by omega)), bh_lss rfl rfl rfl rfl c0, bh_gtr rfl rfl rfl rfl c1, bh_neqF rfl rfl rfl rfl (show eqI e e = true from eq_tt (by omega)), bh_neqF rfl rfl rfl rfl (show eqI y y = true from eq_tt (by omega)), bh_lss rfl rfl rfl rfl c2, bh_gtr rfl rfl rfl rfl c3, trivial⟩ trivial (el := []) trivial (args := [va [vy 0,vy 1], va [vy 2,vy 3]]) (v := vi 1) rfl rfl (by kernel_rfl) (r50_4 t)

theorem r50_5 (t : Nat → TypeId) : isVal (vi 1) (@run (tabPrims [(12, vy 0, vy 0, vf), (12, vy 2, vy 2, vf), (13, vy 0, vy 2, vf), (15, vy 0, vy 2, vt), (12, vy 1, vy 1, vf), (12, vy 3, vy 3, vf), (13, vy 1, vy 3, vf), (15, vy 1, vy 3, vf)] []) Tryz.prog (valOrc (fun _ => false) (tabG t) (ansT [])) 1000000 (.call 50 [va [vy 0,vy 1], va [vy 2,vy 3]] (tabG t))) = true := by kernel_rfl
theorem p50_5 (t : Nat → TypeId) (c e x y : Int) (h_e : 0 ≤ e ∧ e ≤ 255) (h_y : 0 ≤ y ∧ y ≤ 255) (c0 : ltI c x = false) (c1 : ltI x c = true) (c2 : ltI e y = false) (c3 : ltI y e = false) : Known Tryz.prog (tabG t) 50 [.agg ⟨[.int .i64 c,.int .u8 e]⟩, .agg ⟨[.int .i64 x,.int .u8 y]⟩] (.int .i64 1) := by
  have h1_e := h_e.1
  have h2_e := h_e.2
  have h1_y := h_y.1
  have h2_y := h_y.2
  have d0 := lt_f c0
  have d1 := lt_t c1
  have d2 := lt_f c2
  have d3 := lt_f c3
  exact path_calls (ρ := ofInts [(.i64, c), (.u8, e), (.i64, x), (.u8, y)]) (tabs_G t) (size_V t) (floor_V t) (ofInts_plain _) (bt := [(12, vy 0, vy 0, vf), (12, vy 2, vy 2, vf), (13, vy 0, vy 2, vf), (15, vy 0, vy 2, vt), (12, vy 1, vy 1, vf), (12, vy 3, vy 3, vf), (13, vy 1, vy 3, vf), (15, vy 1, vy 3, vf)]) (ct := []) ⟨bh_neqF rfl rfl rfl rfl (show eqI c c = true from eq_tt (by omega)), bh_neqF rfl rfl rfl rfl (show eqI x x = true from eq_tt (by omega)), bh_lss rfl rfl rfl rfl c0, bh_gtr rfl rfl rfl rfl c1, bh_neqF rfl rfl rfl rfl (show eqI e e = true from eq_tt (by omega)), bh_neqF rfl rfl rfl rfl (show eqI y y = true from eq_tt (by omega)), bh_lss rfl rfl rfl rfl c2, bh_gtr rfl rfl rfl rfl c3, trivial⟩ trivial (el := []) trivial (args := [va [vy 0,vy 1], va [vy 2,vy 3]]) (v := vi 1) rfl rfl (by kernel_rfl) (r50_5 t)

theorem r50_6 (t : Nat → TypeId) : isVal (vn 0) (@run (tabPrims [(12, vy 0, vy 0, vf), (12, vy 2, vy 2, vf), (13, vy 0, vy 2, vf), (15, vy 0, vy 2, vf), (12, vy 1, vy 1, vf), (12, vy 3, vy 3, vf), (13, vy 1, vy 3, vt)] []) Tryz.prog (valOrc (fun _ => false) (tabG t) (ansT [])) 1000000 (.call 50 [va [vy 0,vy 1], va [vy 2,vy 3]] (tabG t))) = true := by kernel_rfl
theorem p50_6 (t : Nat → TypeId) (c e x y : Int) (h_e : 0 ≤ e ∧ e ≤ 255) (h_y : 0 ≤ y ∧ y ≤ 255) (c0 : ltI c x = false) (c1 : ltI x c = false) (c2 : ltI e y = true) : Known Tryz.prog (tabG t) 50 [.agg ⟨[.int .i64 c,.int .u8 e]⟩, .agg ⟨[.int .i64 x,.int .u8 y]⟩] (.int .i64 (-1)) := by
  have h1_e := h_e.1
  have h2_e := h_e.2
  have h1_y := h_y.1
  have h2_y := h_y.2
  have d0 := lt_f c0
  have d1 := lt_f c1
  have d2 := lt_t c2
  exact path_calls (ρ := ofInts [(.i64, c), (.u8, e), (.i64, x), (.u8, y)]) (tabs_G t) (size_V t) (floor_V t) (ofInts_plain _) (bt := [(12, vy 0, vy 0, vf), (12, vy 2, vy 2, vf), (13, vy 0, vy 2, vf), (15, vy 0, vy 2, vf), (12, vy 1, vy 1, vf), (12, vy 3, vy 3, vf), (13, vy 1, vy 3, vt)]) (ct := []) ⟨bh_neqF rfl rfl rfl rfl (show eqI c c = true from eq_tt (by omega)), bh_neqF rfl rfl rfl rfl (show eqI x x = true from eq_tt (by omega)), bh_lss rfl rfl rfl rfl c0, bh_gtr rfl rfl rfl rfl c1, bh_neqF rfl rfl rfl rfl (show eqI e e = true from eq_tt (by omega)), bh_neqF rfl rfl rfl rfl (show eqI y y = true from eq_tt (by omega)), bh_lss rfl rfl rfl rfl c2, trivial⟩ trivial (el := []) trivial (args := [va [vy 0,vy 1], va [vy 2,vy 3]]) (v := vn 0) rfl rfl (by kernel_rfl) (r50_6 t)

theorem r50_7 (t : Nat → TypeId) : isVal (vi 1) (@run (tabPrims [(12, vy 0, vy 0, vf), (12, vy 2, vy 2, vf), (13, vy 0, vy 2, vf), (15, vy 0, vy 2, vf), (12, vy 1, vy 1, vf), (12, vy 3, vy 3, vf), (13, vy 1, vy 3, vf), (15, vy 1, vy 3, vt)] []) Tryz.prog (valOrc (fun _ => false) (tabG t) (ansT [])) 1000000 (.call 50 [va [vy 0,vy 1], va [vy 2,vy 3]] (tabG t))) = true := by kernel_rfl
theorem p50_7 (t : Nat → TypeId) (c e x y : Int) (h_e : 0 ≤ e ∧ e ≤ 255) (h_y : 0 ≤ y ∧ y ≤ 255) (c0 : ltI c x = false) (c1 : ltI x c = false) (c2 : ltI e y = false) (c3 : ltI y e = true) : Known Tryz.prog (tabG t) 50 [.agg ⟨[.int .i64 c,.int .u8 e]⟩, .agg ⟨[.int .i64 x,.int .u8 y]⟩] (.int .i64 1) := by
  have h1_e := h_e.1
  have h2_e := h_e.2
  have h1_y := h_y.1
  have h2_y := h_y.2
  have d0 := lt_f c0
  have d1 := lt_f c1
  have d2 := lt_f c2
  have d3 := lt_t c3
  exact path_calls (ρ := ofInts [(.i64, c), (.u8, e), (.i64, x), (.u8, y)]) (tabs_G t) (size_V t) (floor_V t) (ofInts_plain _) (bt := [(12, vy 0, vy 0, vf), (12, vy 2, vy 2, vf), (13, vy 0, vy 2, vf), (15, vy 0, vy 2, vf), (12, vy 1, vy 1, vf), (12, vy 3, vy 3, vf), (13, vy 1, vy 3, vf), (15, vy 1, vy 3, vt)]) (ct := []) ⟨bh_neqF rfl rfl rfl rfl (show eqI c c = true from eq_tt (by omega)), bh_neqF rfl rfl rfl rfl (show eqI x x = true from eq_tt (by omega)), bh_lss rfl rfl rfl rfl c0, bh_gtr rfl rfl rfl rfl c1, bh_neqF rfl rfl rfl rfl (show eqI e e = true from eq_tt (by omega)), bh_neqF rfl rfl rfl rfl (show eqI y y = true from eq_tt (by omega)), bh_lss rfl rfl rfl rfl c2, bh_gtr rfl rfl rfl rfl c3, trivial⟩ trivial (el := []) trivial (args := [va [vy 0,vy 1], va [vy 2,vy 3]]) (v := vi 1) rfl rfl (by kernel_rfl) (r50_7 t)

theorem r50_8 (t : Nat → TypeId) : isVal (vi 0) (@run (tabPrims [(12, vy 0, vy 0, vf), (12, vy 2, vy 2, vf), (13, vy 0, vy 2, vf), (15, vy 0, vy 2, vf), (12, vy 1, vy 1, vf), (12, vy 3, vy 3, vf), (13, vy 1, vy 3, vf), (15, vy 1, vy 3, vf)] []) Tryz.prog (valOrc (fun _ => false) (tabG t) (ansT [])) 1000000 (.call 50 [va [vy 0,vy 1], va [vy 2,vy 3]] (tabG t))) = true := by kernel_rfl
theorem p50_8 (t : Nat → TypeId) (c e x y : Int) (h_e : 0 ≤ e ∧ e ≤ 255) (h_y : 0 ≤ y ∧ y ≤ 255) (c0 : ltI c x = false) (c1 : ltI x c = false) (c2 : ltI e y = false) (c3 : ltI y e = false) : Known Tryz.prog (tabG t) 50 [.agg ⟨[.int .i64 c,.int .u8 e]⟩, .agg ⟨[.int .i64 x,.int .u8 y]⟩] (.int .i64 0) := by
  have h1_e := h_e.1
  have h2_e := h_e.2
  have h1_y := h_y.1
  have h2_y := h_y.2
  have d0 := lt_f c0
  have d1 := lt_f c1
  have d2 := lt_f c2
  have d3 := lt_f c3
  exact path_calls (ρ := ofInts [(.i64, c), (.u8, e), (.i64, x), (.u8, y)]) (tabs_G t) (size_V t) (floor_V t) (ofInts_plain _) (bt := [(12, vy 0, vy 0, vf), (12, vy 2, vy 2, vf), (13, vy 0, vy 2, vf), (15, vy 0, vy 2, vf), (12, vy 1, vy 1, vf), (12, vy 3, vy 3, vf), (13, vy 1, vy 3, vf), (15, vy 1, vy 3, vf)]) (ct := []) ⟨bh_neqF rfl rfl rfl rfl (show eqI c c = true from eq_tt (by omega)), bh_neqF rfl rfl rfl rfl (show eqI x x = true from eq_tt (by omega)), bh_lss rfl rfl rfl rfl c0, bh_gtr rfl rfl rfl rfl c1, bh_neqF rfl rfl rfl rfl (show eqI e e = true from eq_tt (by omega)), bh_neqF rfl rfl rfl rfl (show eqI y y = true from eq_tt (by omega)), bh_lss rfl rfl rfl rfl c2, bh_gtr rfl rfl rfl rfl c3, trivial⟩ trivial (el := []) trivial (args := [va [vy 0,vy 1], va [vy 2,vy 3]]) (v := vi 0) rfl rfl (by kernel_rfl) (r50_8 t)

/-- What function 50 returns. -/
def F50 (c e x y : Int) : Value := (match ltI c x with | true => (match ltI e y with | true => .int .i64 (-1) | false => (match ltI y e with | true => .int .i64 (-1) | false => .int .i64 (-1))) | false => (match ltI x c with | true => (match ltI e y with | true => .int .i64 1 | false => (match ltI y e with | true => .int .i64 1 | false => .int .i64 1)) | false => (match ltI e y with | true => .int .i64 (-1) | false => (match ltI y e with | true => .int .i64 1 | false => .int .i64 0))))
theorem s50 (t : Nat → TypeId) (c e x y : Int) (h_e : 0 ≤ e ∧ e ≤ 255) (h_y : 0 ≤ y ∧ y ≤ 255) : Known Tryz.prog (tabG t) 50 [.agg ⟨[.int .i64 c,.int .u8 e]⟩, .agg ⟨[.int .i64 x,.int .u8 y]⟩] (F50 c e x y) := by
  unfold F50
  cases c0 : ltI c x with
  | true =>
    cases c1 : ltI e y with
    | true =>
      exact p50_0 t c e x y h_e h_y c0 c1
    | false =>
      cases c2 : ltI y e with
      | true =>
        exact p50_1 t c e x y h_e h_y c0 c1 c2
      | false =>
        exact p50_2 t c e x y h_e h_y c0 c1 c2
  | false =>
    cases c1 : ltI x c with
    | true =>
      cases c2 : ltI e y with
      | true =>
        exact p50_3 t c e x y h_e h_y c0 c1 c2
      | false =>
        cases c3 : ltI y e with
        | true =>
          exact p50_4 t c e x y h_e h_y c0 c1 c2 c3
        | false =>
          exact p50_5 t c e x y h_e h_y c0 c1 c2 c3
    | false =>
      cases c2 : ltI e y with
      | true =>
        exact p50_6 t c e x y h_e h_y c0 c1 c2
      | false =>
        cases c3 : ltI y e with
        | true =>
          exact p50_7 t c e x y h_e h_y c0 c1 c2 c3
        | false =>
          exact p50_8 t c e x y h_e h_y c0 c1 c2 c3
theorem fl50 (c e x y : Int) : flat (F50 c e x y) = true := by
  unfold F50
  repeat' split
  all_goals rfl
noncomputable def A50 (args : List Value) : Option Value := match args with
  | [.agg ⟨[.int .i64 c,.int .u8 e]⟩, .agg ⟨[.int .i64 x,.int .u8 y]⟩] => (match inR 0 255 e with | true => (match inR 0 255 y with | true => some (F50 c e x y) | false => none) | false => none)
  | _ => none
theorem a50 (t : Nat → TypeId) [Syms] : AnsOk Tryz.prog (tabG t) (fnAns 50 A50) := fnAns_ok (tabs_G t) (by
  intro args v h
  unfold A50 at h
  split at h
  · split at h
    · rename_i hr_e
      split at h
      · rename_i hr_y
        cases h
        exact ⟨s50 t _ _ _ _ (inR_spec hr_e) (inR_spec hr_y), rfl, fl50 _ _ _ _⟩
      · cases h
    · cases h
  · cases h)

end Go.Proofs.YtbghfcllicfnpaaGreatDoor
