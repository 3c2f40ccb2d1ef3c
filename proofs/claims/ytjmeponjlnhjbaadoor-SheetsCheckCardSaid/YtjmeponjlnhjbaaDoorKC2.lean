/-
  Says: SheetsCheck, on every path.
-/
import Derived.Test.YtjmeponjlnhjbaaDoorKC1
import Derived.KernelRfl
set_option maxRecDepth 1000000
set_option linter.unusedVariables false
set_option linter.unusedSimpArgs false
namespace Go.Proofs.YtjmeponjlnhjbaaDoor
open Go Go.Vx

/-- What function 10 returns. -/
def F10 (a b i : Int) : Value := (match ltI a 1 with | true => .bool true | false => (match ltI b 1 with | true => .bool true | false => (match ltI 256 a with | true => .bool true | false => (match ltI 256 b with | true => .bool true | false => (match ltI 256 (wrapF .i64 (Int.mul a b)) with | true => .bool true | false => .bool true)))))

theorem r10_0 (t : Nat → TypeId) : isVal (vt) (@run (tabPrims [(13, vy 0, vi 1, vt)] []) Tryd.prog (valOrc (fun _ => false) (tabG t) (ansT [(44, [], vt), (42, [va [vy 0,vy 1]], vi 1)])) 1000000 (.call 10 [va [vy 0,vy 1], vy 2] (tabG t))) = true := by kernel_rfl
theorem p10_0 (t : Nat → TypeId) (a b i : Int) (c0 : ltI a 1 = true) : Known Tryd.prog (tabG t) 10 [.agg ⟨[.int .i64 a,.int .i64 b]⟩, .int .i64 i] (.bool true) :=
  path_calls (ρ := ofInts [(.i64, a), (.i64, b), (.i64, i)]) (tabs_G t) (size_V t) (floor_V t) (ofInts_plain _) (bt := [(13, vy 0, vi 1, vt)]) (ct := []) ⟨bh_lss rfl rfl rfl rfl c0, trivial⟩ trivial (el := [(44, [], vt), (42, [va [vy 0,vy 1]], vi 1)]) ⟨⟨rfl, rfl, k44 t⟩, ⟨rfl, rfl, by have h := s42 t a b; simp only [F42, c0] at h; exact h⟩, trivial⟩ (args := [va [vy 0,vy 1], vy 2]) (v := vt) rfl rfl (by kernel_rfl) (r10_0 t)

theorem r10_1 (t : Nat → TypeId) : isVal (vt) (@run (tabPrims [(13, vy 0, vi 1, vf), (13, vy 1, vi 1, vt)] []) Tryd.prog (valOrc (fun _ => false) (tabG t) (ansT [(44, [], vt), (42, [va [vy 0,vy 1]], vi 1)])) 1000000 (.call 10 [va [vy 0,vy 1], vy 2] (tabG t))) = true := by kernel_rfl
theorem p10_1 (t : Nat → TypeId) (a b i : Int) (c0 : ltI a 1 = false) (c1 : ltI b 1 = true) : Known Tryd.prog (tabG t) 10 [.agg ⟨[.int .i64 a,.int .i64 b]⟩, .int .i64 i] (.bool true) :=
  path_calls (ρ := ofInts [(.i64, a), (.i64, b), (.i64, i)]) (tabs_G t) (size_V t) (floor_V t) (ofInts_plain _) (bt := [(13, vy 0, vi 1, vf), (13, vy 1, vi 1, vt)]) (ct := []) ⟨bh_lss rfl rfl rfl rfl c0, bh_lss rfl rfl rfl rfl c1, trivial⟩ trivial (el := [(44, [], vt), (42, [va [vy 0,vy 1]], vi 1)]) ⟨⟨rfl, rfl, k44 t⟩, ⟨rfl, rfl, by have h := s42 t a b; simp only [F42, c0, c1] at h; exact h⟩, trivial⟩ (args := [va [vy 0,vy 1], vy 2]) (v := vt) rfl rfl (by kernel_rfl) (r10_1 t)

theorem r10_2 (t : Nat → TypeId) : isVal (vt) (@run (tabPrims [(13, vy 0, vi 1, vf), (13, vy 1, vi 1, vf), (15, vy 0, vi 256, vt)] []) Tryd.prog (valOrc (fun _ => false) (tabG t) (ansT [(44, [], vt), (42, [va [vy 0,vy 1]], vi 1)])) 1000000 (.call 10 [va [vy 0,vy 1], vy 2] (tabG t))) = true := by kernel_rfl
theorem p10_2 (t : Nat → TypeId) (a b i : Int) (c0 : ltI a 1 = false) (c1 : ltI b 1 = false) (c2 : ltI 256 a = true) : Known Tryd.prog (tabG t) 10 [.agg ⟨[.int .i64 a,.int .i64 b]⟩, .int .i64 i] (.bool true) :=
  path_calls (ρ := ofInts [(.i64, a), (.i64, b), (.i64, i)]) (tabs_G t) (size_V t) (floor_V t) (ofInts_plain _) (bt := [(13, vy 0, vi 1, vf), (13, vy 1, vi 1, vf), (15, vy 0, vi 256, vt)]) (ct := []) ⟨bh_lss rfl rfl rfl rfl c0, bh_lss rfl rfl rfl rfl c1, bh_gtr rfl rfl rfl rfl c2, trivial⟩ trivial (el := [(44, [], vt), (42, [va [vy 0,vy 1]], vi 1)]) ⟨⟨rfl, rfl, k44 t⟩, ⟨rfl, rfl, by have h := s42 t a b; simp only [F42, c0, c1, (show ltI (256 / a) b = true from lt_of (by have d0 := lt_f c0; have d1 := lt_f c1; have d2 := lt_t c2; have e0 := sheet_facts a b; first | omega | (simp; omega) | decide | simp))] at h; exact h⟩, trivial⟩ (args := [va [vy 0,vy 1], vy 2]) (v := vt) rfl rfl (by kernel_rfl) (r10_2 t)

theorem r10_3 (t : Nat → TypeId) : isVal (vt) (@run (tabPrims [(13, vy 0, vi 1, vf), (13, vy 1, vi 1, vf), (15, vy 0, vi 256, vf), (15, vy 1, vi 256, vt)] []) Tryd.prog (valOrc (fun _ => false) (tabG t) (ansT [(44, [], vt), (42, [va [vy 0,vy 1]], vi 1)])) 1000000 (.call 10 [va [vy 0,vy 1], vy 2] (tabG t))) = true := by kernel_rfl
theorem p10_3 (t : Nat → TypeId) (a b i : Int) (c0 : ltI a 1 = false) (c1 : ltI b 1 = false) (c2 : ltI 256 a = false) (c3 : ltI 256 b = true) : Known Tryd.prog (tabG t) 10 [.agg ⟨[.int .i64 a,.int .i64 b]⟩, .int .i64 i] (.bool true) :=
  path_calls (ρ := ofInts [(.i64, a), (.i64, b), (.i64, i)]) (tabs_G t) (size_V t) (floor_V t) (ofInts_plain _) (bt := [(13, vy 0, vi 1, vf), (13, vy 1, vi 1, vf), (15, vy 0, vi 256, vf), (15, vy 1, vi 256, vt)]) (ct := []) ⟨bh_lss rfl rfl rfl rfl c0, bh_lss rfl rfl rfl rfl c1, bh_gtr rfl rfl rfl rfl c2, bh_gtr rfl rfl rfl rfl c3, trivial⟩ trivial (el := [(44, [], vt), (42, [va [vy 0,vy 1]], vi 1)]) ⟨⟨rfl, rfl, k44 t⟩, ⟨rfl, rfl, by have h := s42 t a b; simp only [F42, c0, c1, (show ltI (256 / a) b = true from lt_of (by have d0 := lt_f c0; have d1 := lt_f c1; have d2 := lt_f c2; have d3 := lt_t c3; have e0 := sheet_facts a b; first | omega | (simp; omega) | decide | simp))] at h; exact h⟩, trivial⟩ (args := [va [vy 0,vy 1], vy 2]) (v := vt) rfl rfl (by kernel_rfl) (r10_3 t)

theorem r10_4 (t : Nat → TypeId) : isVal (vt) (@run (tabPrims [(13, vy 0, vi 1, vf), (13, vy 1, vi 1, vf), (15, vy 0, vi 256, vf), (15, vy 1, vi 256, vf), (2, vy 0, vy 1, vy 3), (15, vy 3, vi 256, vt)] []) Tryd.prog (valOrc (fun _ => false) (tabG t) (ansT [(44, [], vt), (42, [va [vy 0,vy 1]], vi 1)])) 1000000 (.call 10 [va [vy 0,vy 1], vy 2] (tabG t))) = true := by kernel_rfl
theorem p10_4 (t : Nat → TypeId) (a b i : Int) (c0 : ltI a 1 = false) (c1 : ltI b 1 = false) (c2 : ltI 256 a = false) (c3 : ltI 256 b = false) (c4 : ltI 256 (wrapF .i64 (Int.mul a b)) = true) : Known Tryd.prog (tabG t) 10 [.agg ⟨[.int .i64 a,.int .i64 b]⟩, .int .i64 i] (.bool true) :=
  path_calls (ρ := ofInts [(.i64, a), (.i64, b), (.i64, i), (.i64, (wrapF .i64 (Int.mul a b)))]) (tabs_G t) (size_V t) (floor_V t) (ofInts_plain _) (bt := [(13, vy 0, vi 1, vf), (13, vy 1, vi 1, vf), (15, vy 0, vi 256, vf), (15, vy 1, vi 256, vf), (2, vy 0, vy 1, vy 3), (15, vy 3, vi 256, vt)]) (ct := []) ⟨bh_lss rfl rfl rfl rfl c0, bh_lss rfl rfl rfl rfl c1, bh_gtr rfl rfl rfl rfl c2, bh_gtr rfl rfl rfl rfl c3, bh_mul rfl rfl rfl rfl rfl rfl, bh_gtr rfl rfl rfl rfl c4, trivial⟩ trivial (el := [(44, [], vt), (42, [va [vy 0,vy 1]], vi 1)]) ⟨⟨rfl, rfl, k44 t⟩, ⟨rfl, rfl, by have h := s42 t a b; simp only [F42, c0, c1, (show ltI (256 / a) b = true from lt_of (by have d0 := lt_f c0; have d1 := lt_f c1; have d2 := lt_f c2; have d3 := lt_f c3; have d4 := lt_t c4; have e0 := sheet_facts a b; first | omega | (simp; omega) | decide | simp))] at h; exact h⟩, trivial⟩ (args := [va [vy 0,vy 1], vy 2]) (v := vt) rfl rfl (by kernel_rfl) (r10_4 t)

theorem r10_5 (t : Nat → TypeId) : isVal (vt) (@run (tabPrims [(13, vy 0, vi 1, vf), (13, vy 1, vi 1, vf), (15, vy 0, vi 256, vf), (15, vy 1, vi 256, vf), (2, vy 0, vy 1, vy 3), (15, vy 3, vi 256, vf), (2, vi 4, vy 0, vy 4), (2, vy 4, vy 1, vy 5), (11, vy 5, vy 5, vt)] []) Tryd.prog (valOrc (fun _ => false) (tabG t) (ansT [(44, [], vt), (42, [va [vy 0,vy 1]], vi 0)])) 1000000 (.call 10 [va [vy 0,vy 1], vy 2] (tabG t))) = true := by kernel_rfl
theorem p10_5 (t : Nat → TypeId) (a b i : Int) (c0 : ltI a 1 = false) (c1 : ltI b 1 = false) (c2 : ltI 256 a = false) (c3 : ltI 256 b = false) (c4 : ltI 256 (wrapF .i64 (Int.mul a b)) = false) : Known Tryd.prog (tabG t) 10 [.agg ⟨[.int .i64 a,.int .i64 b]⟩, .int .i64 i] (.bool true) :=
  path_calls (ρ := ofInts [(.i64, a), (.i64, b), (.i64, i), (.i64, (wrapF .i64 (Int.mul a b))), (.i64, (wrapF .i64 (Int.mul 4 a))), (.i64, (wrapF .i64 (Int.mul (wrapF .i64 (Int.mul 4 a)) b)))]) (tabs_G t) (size_V t) (floor_V t) (ofInts_plain _) (bt := [(13, vy 0, vi 1, vf), (13, vy 1, vi 1, vf), (15, vy 0, vi 256, vf), (15, vy 1, vi 256, vf), (2, vy 0, vy 1, vy 3), (15, vy 3, vi 256, vf), (2, vi 4, vy 0, vy 4), (2, vy 4, vy 1, vy 5), (11, vy 5, vy 5, vt)]) (ct := []) ⟨bh_lss rfl rfl rfl rfl c0, bh_lss rfl rfl rfl rfl c1, bh_gtr rfl rfl rfl rfl c2, bh_gtr rfl rfl rfl rfl c3, bh_mul rfl rfl rfl rfl rfl rfl, bh_gtr rfl rfl rfl rfl c4, bh_mul rfl rfl rfl rfl rfl rfl, bh_mul rfl rfl rfl rfl rfl rfl, bh_eql rfl rfl rfl rfl (eq_of (by have d0 := lt_f c0; have d1 := lt_f c1; have d2 := lt_f c2; have d3 := lt_f c3; have d4 := lt_f c4; have e0 := sheet_facts a b; first | omega | (simp; omega) | simp)), trivial⟩ trivial (el := [(44, [], vt), (42, [va [vy 0,vy 1]], vi 0)]) ⟨⟨rfl, rfl, k44 t⟩, ⟨rfl, rfl, by have h := s42 t a b; simp only [F42, c0, c1, (show ltI (256 / a) b = false from lt_of (by have d0 := lt_f c0; have d1 := lt_f c1; have d2 := lt_f c2; have d3 := lt_f c3; have d4 := lt_f c4; have e0 := sheet_facts a b; first | omega | (simp; omega) | decide | simp))] at h; exact h⟩, trivial⟩ (args := [va [vy 0,vy 1], vy 2]) (v := vt) rfl rfl (by kernel_rfl) (r10_5 t)

theorem s10 (t : Nat → TypeId) (a b i : Int) : Known Tryd.prog (tabG t) 10 [.agg ⟨[.int .i64 a,.int .i64 b]⟩, .int .i64 i] (F10 a b i) := by
  unfold F10
  cases c0 : ltI a 1 with
  | true =>
    exact p10_0 t a b i c0
  | false =>
    cases c1 : ltI b 1 with
    | true =>
      exact p10_1 t a b i c0 c1
    | false =>
      cases c2 : ltI 256 a with
      | true =>
        exact p10_2 t a b i c0 c1 c2
      | false =>
        cases c3 : ltI 256 b with
        | true =>
          exact p10_3 t a b i c0 c1 c2 c3
        | false =>
          cases c4 : ltI 256 (wrapF .i64 (Int.mul a b)) with
          | true =>
            exact p10_4 t a b i c0 c1 c2 c3 c4
          | false =>
            exact p10_5 t a b i c0 c1 c2 c3 c4

end Go.Proofs.YtjmeponjlnhjbaaDoor
