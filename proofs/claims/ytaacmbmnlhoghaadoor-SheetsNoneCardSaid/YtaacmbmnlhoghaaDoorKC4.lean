/-
  Says: what Cell and Id return at a sheet.
-/
import Derived.Test.YtaacmbmnlhoghaaDoorKC1
import Derived.KernelRfl
set_option maxRecDepth 1000000
set_option linter.unusedVariables false
set_option linter.unusedSimpArgs false
namespace Go.Proofs.YtaacmbmnlhoghaaDoor
open Go Go.Vx
attribute [local instance] anySyms

theorem ca_1_1 (i : Int) (h1 : i < 0 ∨ 4 ≤ i) : F11 1 1 i = .tuple ⟨[.agg ⟨[.int .i64 0, .int .i64 0, .int .u8 0]⟩, .int .i64 7]⟩ := by
  show (match ltI i 0 with | true => _ | false => (match ltI i 4 with | true => _ | false => _)) = _
  rcases h1 with h1 | h1
  · rw [lt_tt h1]
  · rw [lt_ff (show 0 ≤ i by omega), lt_ff h1]
theorem cb_1_1 (i : Int) (h1 : 0 ≤ i) (h2 : i < 4) : F11 1 1 i = .tuple ⟨[.agg ⟨[.int .i64 ((i / 4) % 1), .int .i64 ((i / 4) / 1), .int .u8 (wrapF .u8 (i % 4))]⟩, .int .i64 0]⟩ := by
  show (match ltI i 0 with | true => _ | false => (match ltI i 4 with | true => _ | false => _)) = _
  rw [lt_ff h1, lt_tt h2]
theorem cc_1_1 (x y q : Int) (h1 : ¬ (0 ≤ x ∧ x < 1 ∧ 0 ≤ y ∧ y < 1 ∧ q < 4)) : F12 1 1 x y q = .tuple ⟨[.int .i64 0, .int .i64 7]⟩ ∧ (0 ≤ q → F13 1 1 x y q = .int .i64 (-1)) := by
  constructor
  · show (match ltI q 4 with | true => _ | false => _) = _
    repeat' split
    all_goals first | rfl | (exfalso; simp only [ltI_eq, decide_eq_true_eq, decide_eq_false_iff_not] at *; omega)
  · intro hq
    unfold F13
    repeat' split
    all_goals first | rfl | (exfalso; simp only [ltI_eq, decide_eq_true_eq, decide_eq_false_iff_not] at *; omega)
theorem cd_1_1 (x y q : Int) (h1 : 0 ≤ x ∧ x < 1 ∧ 0 ≤ y ∧ y < 1 ∧ q < 4) (hq : 0 ≤ q) : F12 1 1 x y q = .tuple ⟨[.int .i64 (4 * (y * 1 + x) + q), .int .i64 0]⟩ ∧ F13 1 1 x y q = .int .i64 (4 * (y * 1 + x) + q) := by
  obtain ⟨x0, x1, y0, y1, q1⟩ := h1
  have a1 : wrapF .i64 (Int.mul y 1) = y * 1 := wid_i64 (n := y * 1) (by omega) (by omega)
  have a2 : wrapF .i64 (Int.add (y * 1) x) = y * 1 + x := wid_i64 (n := y * 1 + x) (by omega) (by omega)
  have a3 : wrapF .i64 (Int.mul 4 (y * 1 + x)) = 4 * (y * 1 + x) := wid_i64 (n := 4 * (y * 1 + x)) (by omega) (by omega)
  have a4 : wrapF .i64 (Int.add (4 * (y * 1 + x)) q) = 4 * (y * 1 + x) + q := wid_i64 (n := 4 * (y * 1 + x) + q) (by omega) (by omega)
  have b1 : wrapF .i64 (Int.mul (wrapF .i64 (Int.mul 4 1)) y) = 4 * y := wid_i64 (n := 4 * y) (by omega) (by omega)
  have b2 : wrapF .i64 (Int.mul 4 x) = 4 * x := wid_i64 (n := 4 * x) (by omega) (by omega)
  have b3 : wrapF .i64 (Int.add (4 * y) (4 * x)) = 4 * (y * 1 + x) := by
    rw [show Int.add (4 * y) (4 * x) = 4 * (y * 1 + x) by show 4 * y + 4 * x = _; omega]
    exact wid_i64 (n := 4 * (y * 1 + x)) (by omega) (by omega)
  constructor
  · show (match ltI q 4 with | true => _ | false => _) = _
    rw [lt_tt q1]
    show (match ltI x (-4096) with | true => _ | false => _) = _
    rw [lt_ff (show -4096 ≤ x by omega), lt_ff (show x ≤ 4096 by omega), lt_ff (show -4096 ≤ y by omega), lt_ff (show y ≤ 4096 by omega), lt_ff x0, lt_tt x1, lt_ff y0, lt_tt y1]
    show Value.tuple ⟨[.int .i64 (wrapF .i64 (Int.add (wrapF .i64 (Int.mul 4 (wrapF .i64 (Int.add (wrapF .i64 (Int.mul y 1)) x)))) q)), .int .i64 0]⟩ = _
    rw [a1, a2, a3, a4]
  · unfold F13
    repeat' split
    all_goals first | (exfalso; simp only [ltI_eq, decide_eq_true_eq, decide_eq_false_iff_not] at *; omega) | (rw [b1, b2, b3, a4])

theorem ca_1_2 (i : Int) (h1 : i < 0 ∨ 8 ≤ i) : F11 1 2 i = .tuple ⟨[.agg ⟨[.int .i64 0, .int .i64 0, .int .u8 0]⟩, .int .i64 7]⟩ := by
  show (match ltI i 0 with | true => _ | false => (match ltI i 8 with | true => _ | false => _)) = _
  rcases h1 with h1 | h1
  · rw [lt_tt h1]
  · rw [lt_ff (show 0 ≤ i by omega), lt_ff h1]
theorem cb_1_2 (i : Int) (h1 : 0 ≤ i) (h2 : i < 8) : F11 1 2 i = .tuple ⟨[.agg ⟨[.int .i64 ((i / 4) % 1), .int .i64 ((i / 4) / 1), .int .u8 (wrapF .u8 (i % 4))]⟩, .int .i64 0]⟩ := by
  show (match ltI i 0 with | true => _ | false => (match ltI i 8 with | true => _ | false => _)) = _
  rw [lt_ff h1, lt_tt h2]
theorem cc_1_2 (x y q : Int) (h1 : ¬ (0 ≤ x ∧ x < 1 ∧ 0 ≤ y ∧ y < 2 ∧ q < 4)) : F12 1 2 x y q = .tuple ⟨[.int .i64 0, .int .i64 7]⟩ ∧ (0 ≤ q → F13 1 2 x y q = .int .i64 (-1)) := by
  constructor
  · show (match ltI q 4 with | true => _ | false => _) = _
    repeat' split
    all_goals first | rfl | (exfalso; simp only [ltI_eq, decide_eq_true_eq, decide_eq_false_iff_not] at *; omega)
  · intro hq
    unfold F13
    repeat' split
    all_goals first | rfl | (exfalso; simp only [ltI_eq, decide_eq_true_eq, decide_eq_false_iff_not] at *; omega)
theorem cd_1_2 (x y q : Int) (h1 : 0 ≤ x ∧ x < 1 ∧ 0 ≤ y ∧ y < 2 ∧ q < 4) (hq : 0 ≤ q) : F12 1 2 x y q = .tuple ⟨[.int .i64 (4 * (y * 1 + x) + q), .int .i64 0]⟩ ∧ F13 1 2 x y q = .int .i64 (4 * (y * 1 + x) + q) := by
  obtain ⟨x0, x1, y0, y1, q1⟩ := h1
  have a1 : wrapF .i64 (Int.mul y 1) = y * 1 := wid_i64 (n := y * 1) (by omega) (by omega)
  have a2 : wrapF .i64 (Int.add (y * 1) x) = y * 1 + x := wid_i64 (n := y * 1 + x) (by omega) (by omega)
  have a3 : wrapF .i64 (Int.mul 4 (y * 1 + x)) = 4 * (y * 1 + x) := wid_i64 (n := 4 * (y * 1 + x)) (by omega) (by omega)
  have a4 : wrapF .i64 (Int.add (4 * (y * 1 + x)) q) = 4 * (y * 1 + x) + q := wid_i64 (n := 4 * (y * 1 + x) + q) (by omega) (by omega)
  have b1 : wrapF .i64 (Int.mul (wrapF .i64 (Int.mul 4 1)) y) = 4 * y := wid_i64 (n := 4 * y) (by omega) (by omega)
  have b2 : wrapF .i64 (Int.mul 4 x) = 4 * x := wid_i64 (n := 4 * x) (by omega) (by omega)
  have b3 : wrapF .i64 (Int.add (4 * y) (4 * x)) = 4 * (y * 1 + x) := by
    rw [show Int.add (4 * y) (4 * x) = 4 * (y * 1 + x) by show 4 * y + 4 * x = _; omega]
    exact wid_i64 (n := 4 * (y * 1 + x)) (by omega) (by omega)
  constructor
  · show (match ltI q 4 with | true => _ | false => _) = _
    rw [lt_tt q1]
    show (match ltI x (-4096) with | true => _ | false => _) = _
    rw [lt_ff (show -4096 ≤ x by omega), lt_ff (show x ≤ 4096 by omega), lt_ff (show -4096 ≤ y by omega), lt_ff (show y ≤ 4096 by omega), lt_ff x0, lt_tt x1, lt_ff y0, lt_tt y1]
    show Value.tuple ⟨[.int .i64 (wrapF .i64 (Int.add (wrapF .i64 (Int.mul 4 (wrapF .i64 (Int.add (wrapF .i64 (Int.mul y 1)) x)))) q)), .int .i64 0]⟩ = _
    rw [a1, a2, a3, a4]
  · unfold F13
    repeat' split
    all_goals first | (exfalso; simp only [ltI_eq, decide_eq_true_eq, decide_eq_false_iff_not] at *; omega) | (rw [b1, b2, b3, a4])

theorem ca_1_3 (i : Int) (h1 : i < 0 ∨ 12 ≤ i) : F11 1 3 i = .tuple ⟨[.agg ⟨[.int .i64 0, .int .i64 0, .int .u8 0]⟩, .int .i64 7]⟩ := by
  show (match ltI i 0 with | true => _ | false => (match ltI i 12 with | true => _ | false => _)) = _
  rcases h1 with h1 | h1
  · rw [lt_tt h1]
  · rw [lt_ff (show 0 ≤ i by omega), lt_ff h1]
theorem cb_1_3 (i : Int) (h1 : 0 ≤ i) (h2 : i < 12) : F11 1 3 i = .tuple ⟨[.agg ⟨[.int .i64 ((i / 4) % 1), .int .i64 ((i / 4) / 1), .int .u8 (wrapF .u8 (i % 4))]⟩, .int .i64 0]⟩ := by
  show (match ltI i 0 with | true => _ | false => (match ltI i 12 with | true => _ | false => _)) = _
  rw [lt_ff h1, lt_tt h2]
theorem cc_1_3 (x y q : Int) (h1 : ¬ (0 ≤ x ∧ x < 1 ∧ 0 ≤ y ∧ y < 3 ∧ q < 4)) : F12 1 3 x y q = .tuple ⟨[.int .i64 0, .int .i64 7]⟩ ∧ (0 ≤ q → F13 1 3 x y q = .int .i64 (-1)) := by
  constructor
  · show (match ltI q 4 with | true => _ | false => _) = _
    repeat' split
    all_goals first | rfl | (exfalso; simp only [ltI_eq, decide_eq_true_eq, decide_eq_false_iff_not] at *; omega)
  · intro hq
    unfold F13
    repeat' split
    all_goals first | rfl | (exfalso; simp only [ltI_eq, decide_eq_true_eq, decide_eq_false_iff_not] at *; omega)
theorem cd_1_3 (x y q : Int) (h1 : 0 ≤ x ∧ x < 1 ∧ 0 ≤ y ∧ y < 3 ∧ q < 4) (hq : 0 ≤ q) : F12 1 3 x y q = .tuple ⟨[.int .i64 (4 * (y * 1 + x) + q), .int .i64 0]⟩ ∧ F13 1 3 x y q = .int .i64 (4 * (y * 1 + x) + q) := by
  obtain ⟨x0, x1, y0, y1, q1⟩ := h1
  have a1 : wrapF .i64 (Int.mul y 1) = y * 1 := wid_i64 (n := y * 1) (by omega) (by omega)
  have a2 : wrapF .i64 (Int.add (y * 1) x) = y * 1 + x := wid_i64 (n := y * 1 + x) (by omega) (by omega)
  have a3 : wrapF .i64 (Int.mul 4 (y * 1 + x)) = 4 * (y * 1 + x) := wid_i64 (n := 4 * (y * 1 + x)) (by omega) (by omega)
  have a4 : wrapF .i64 (Int.add (4 * (y * 1 + x)) q) = 4 * (y * 1 + x) + q := wid_i64 (n := 4 * (y * 1 + x) + q) (by omega) (by omega)
  have b1 : wrapF .i64 (Int.mul (wrapF .i64 (Int.mul 4 1)) y) = 4 * y := wid_i64 (n := 4 * y) (by omega) (by omega)
  have b2 : wrapF .i64 (Int.mul 4 x) = 4 * x := wid_i64 (n := 4 * x) (by omega) (by omega)
  have b3 : wrapF .i64 (Int.add (4 * y) (4 * x)) = 4 * (y * 1 + x) := by
    rw [show Int.add (4 * y) (4 * x) = 4 * (y * 1 + x) by show 4 * y + 4 * x = _; omega]
    exact wid_i64 (n := 4 * (y * 1 + x)) (by omega) (by omega)
  constructor
  · show (match ltI q 4 with | true => _ | false => _) = _
    rw [lt_tt q1]
    show (match ltI x (-4096) with | true => _ | false => _) = _
    rw [lt_ff (show -4096 ≤ x by omega), lt_ff (show x ≤ 4096 by omega), lt_ff (show -4096 ≤ y by omega), lt_ff (show y ≤ 4096 by omega), lt_ff x0, lt_tt x1, lt_ff y0, lt_tt y1]
    show Value.tuple ⟨[.int .i64 (wrapF .i64 (Int.add (wrapF .i64 (Int.mul 4 (wrapF .i64 (Int.add (wrapF .i64 (Int.mul y 1)) x)))) q)), .int .i64 0]⟩ = _
    rw [a1, a2, a3, a4]
  · unfold F13
    repeat' split
    all_goals first | (exfalso; simp only [ltI_eq, decide_eq_true_eq, decide_eq_false_iff_not] at *; omega) | (rw [b1, b2, b3, a4])

theorem ca_1_4 (i : Int) (h1 : i < 0 ∨ 16 ≤ i) : F11 1 4 i = .tuple ⟨[.agg ⟨[.int .i64 0, .int .i64 0, .int .u8 0]⟩, .int .i64 7]⟩ := by
  show (match ltI i 0 with | true => _ | false => (match ltI i 16 with | true => _ | false => _)) = _
  rcases h1 with h1 | h1
  · rw [lt_tt h1]
  · rw [lt_ff (show 0 ≤ i by omega), lt_ff h1]
theorem cb_1_4 (i : Int) (h1 : 0 ≤ i) (h2 : i < 16) : F11 1 4 i = .tuple ⟨[.agg ⟨[.int .i64 ((i / 4) % 1), .int .i64 ((i / 4) / 1), .int .u8 (wrapF .u8 (i % 4))]⟩, .int .i64 0]⟩ := by
  show (match ltI i 0 with | true => _ | false => (match ltI i 16 with | true => _ | false => _)) = _
  rw [lt_ff h1, lt_tt h2]
theorem cc_1_4 (x y q : Int) (h1 : ¬ (0 ≤ x ∧ x < 1 ∧ 0 ≤ y ∧ y < 4 ∧ q < 4)) : F12 1 4 x y q = .tuple ⟨[.int .i64 0, .int .i64 7]⟩ ∧ (0 ≤ q → F13 1 4 x y q = .int .i64 (-1)) := by
  constructor
  · show (match ltI q 4 with | true => _ | false => _) = _
    repeat' split
    all_goals first | rfl | (exfalso; simp only [ltI_eq, decide_eq_true_eq, decide_eq_false_iff_not] at *; omega)
  · intro hq
    unfold F13
    repeat' split
    all_goals first | rfl | (exfalso; simp only [ltI_eq, decide_eq_true_eq, decide_eq_false_iff_not] at *; omega)
theorem cd_1_4 (x y q : Int) (h1 : 0 ≤ x ∧ x < 1 ∧ 0 ≤ y ∧ y < 4 ∧ q < 4) (hq : 0 ≤ q) : F12 1 4 x y q = .tuple ⟨[.int .i64 (4 * (y * 1 + x) + q), .int .i64 0]⟩ ∧ F13 1 4 x y q = .int .i64 (4 * (y * 1 + x) + q) := by
  obtain ⟨x0, x1, y0, y1, q1⟩ := h1
  have a1 : wrapF .i64 (Int.mul y 1) = y * 1 := wid_i64 (n := y * 1) (by omega) (by omega)
  have a2 : wrapF .i64 (Int.add (y * 1) x) = y * 1 + x := wid_i64 (n := y * 1 + x) (by omega) (by omega)
  have a3 : wrapF .i64 (Int.mul 4 (y * 1 + x)) = 4 * (y * 1 + x) := wid_i64 (n := 4 * (y * 1 + x)) (by omega) (by omega)
  have a4 : wrapF .i64 (Int.add (4 * (y * 1 + x)) q) = 4 * (y * 1 + x) + q := wid_i64 (n := 4 * (y * 1 + x) + q) (by omega) (by omega)
  have b1 : wrapF .i64 (Int.mul (wrapF .i64 (Int.mul 4 1)) y) = 4 * y := wid_i64 (n := 4 * y) (by omega) (by omega)
  have b2 : wrapF .i64 (Int.mul 4 x) = 4 * x := wid_i64 (n := 4 * x) (by omega) (by omega)
  have b3 : wrapF .i64 (Int.add (4 * y) (4 * x)) = 4 * (y * 1 + x) := by
    rw [show Int.add (4 * y) (4 * x) = 4 * (y * 1 + x) by show 4 * y + 4 * x = _; omega]
    exact wid_i64 (n := 4 * (y * 1 + x)) (by omega) (by omega)
  constructor
  · show (match ltI q 4 with | true => _ | false => _) = _
    rw [lt_tt q1]
    show (match ltI x (-4096) with | true => _ | false => _) = _
    rw [lt_ff (show -4096 ≤ x by omega), lt_ff (show x ≤ 4096 by omega), lt_ff (show -4096 ≤ y by omega), lt_ff (show y ≤ 4096 by omega), lt_ff x0, lt_tt x1, lt_ff y0, lt_tt y1]
    show Value.tuple ⟨[.int .i64 (wrapF .i64 (Int.add (wrapF .i64 (Int.mul 4 (wrapF .i64 (Int.add (wrapF .i64 (Int.mul y 1)) x)))) q)), .int .i64 0]⟩ = _
    rw [a1, a2, a3, a4]
  · unfold F13
    repeat' split
    all_goals first | (exfalso; simp only [ltI_eq, decide_eq_true_eq, decide_eq_false_iff_not] at *; omega) | (rw [b1, b2, b3, a4])

theorem ca_1_5 (i : Int) (h1 : i < 0 ∨ 20 ≤ i) : F11 1 5 i = .tuple ⟨[.agg ⟨[.int .i64 0, .int .i64 0, .int .u8 0]⟩, .int .i64 7]⟩ := by
  show (match ltI i 0 with | true => _ | false => (match ltI i 20 with | true => _ | false => _)) = _
  rcases h1 with h1 | h1
  · rw [lt_tt h1]
  · rw [lt_ff (show 0 ≤ i by omega), lt_ff h1]
theorem cb_1_5 (i : Int) (h1 : 0 ≤ i) (h2 : i < 20) : F11 1 5 i = .tuple ⟨[.agg ⟨[.int .i64 ((i / 4) % 1), .int .i64 ((i / 4) / 1), .int .u8 (wrapF .u8 (i % 4))]⟩, .int .i64 0]⟩ := by
  show (match ltI i 0 with | true => _ | false => (match ltI i 20 with | true => _ | false => _)) = _
  rw [lt_ff h1, lt_tt h2]
theorem cc_1_5 (x y q : Int) (h1 : ¬ (0 ≤ x ∧ x < 1 ∧ 0 ≤ y ∧ y < 5 ∧ q < 4)) : F12 1 5 x y q = .tuple ⟨[.int .i64 0, .int .i64 7]⟩ ∧ (0 ≤ q → F13 1 5 x y q = .int .i64 (-1)) := by
  constructor
  · show (match ltI q 4 with | true => _ | false => _) = _
    repeat' split
    all_goals first | rfl | (exfalso; simp only [ltI_eq, decide_eq_true_eq, decide_eq_false_iff_not] at *; omega)
  · intro hq
    unfold F13
    repeat' split
    all_goals first | rfl | (exfalso; simp only [ltI_eq, decide_eq_true_eq, decide_eq_false_iff_not] at *; omega)
theorem cd_1_5 (x y q : Int) (h1 : 0 ≤ x ∧ x < 1 ∧ 0 ≤ y ∧ y < 5 ∧ q < 4) (hq : 0 ≤ q) : F12 1 5 x y q = .tuple ⟨[.int .i64 (4 * (y * 1 + x) + q), .int .i64 0]⟩ ∧ F13 1 5 x y q = .int .i64 (4 * (y * 1 + x) + q) := by
  obtain ⟨x0, x1, y0, y1, q1⟩ := h1
  have a1 : wrapF .i64 (Int.mul y 1) = y * 1 := wid_i64 (n := y * 1) (by omega) (by omega)
  have a2 : wrapF .i64 (Int.add (y * 1) x) = y * 1 + x := wid_i64 (n := y * 1 + x) (by omega) (by omega)
  have a3 : wrapF .i64 (Int.mul 4 (y * 1 + x)) = 4 * (y * 1 + x) := wid_i64 (n := 4 * (y * 1 + x)) (by omega) (by omega)
  have a4 : wrapF .i64 (Int.add (4 * (y * 1 + x)) q) = 4 * (y * 1 + x) + q := wid_i64 (n := 4 * (y * 1 + x) + q) (by omega) (by omega)
  have b1 : wrapF .i64 (Int.mul (wrapF .i64 (Int.mul 4 1)) y) = 4 * y := wid_i64 (n := 4 * y) (by omega) (by omega)
  have b2 : wrapF .i64 (Int.mul 4 x) = 4 * x := wid_i64 (n := 4 * x) (by omega) (by omega)
  have b3 : wrapF .i64 (Int.add (4 * y) (4 * x)) = 4 * (y * 1 + x) := by
    rw [show Int.add (4 * y) (4 * x) = 4 * (y * 1 + x) by show 4 * y + 4 * x = _; omega]
    exact wid_i64 (n := 4 * (y * 1 + x)) (by omega) (by omega)
  constructor
  · show (match ltI q 4 with | true => _ | false => _) = _
    rw [lt_tt q1]
    show (match ltI x (-4096) with | true => _ | false => _) = _
    rw [lt_ff (show -4096 ≤ x by omega), lt_ff (show x ≤ 4096 by omega), lt_ff (show -4096 ≤ y by omega), lt_ff (show y ≤ 4096 by omega), lt_ff x0, lt_tt x1, lt_ff y0, lt_tt y1]
    show Value.tuple ⟨[.int .i64 (wrapF .i64 (Int.add (wrapF .i64 (Int.mul 4 (wrapF .i64 (Int.add (wrapF .i64 (Int.mul y 1)) x)))) q)), .int .i64 0]⟩ = _
    rw [a1, a2, a3, a4]
  · unfold F13
    repeat' split
    all_goals first | (exfalso; simp only [ltI_eq, decide_eq_true_eq, decide_eq_false_iff_not] at *; omega) | (rw [b1, b2, b3, a4])

theorem ca_2_1 (i : Int) (h1 : i < 0 ∨ 8 ≤ i) : F11 2 1 i = .tuple ⟨[.agg ⟨[.int .i64 0, .int .i64 0, .int .u8 0]⟩, .int .i64 7]⟩ := by
  show (match ltI i 0 with | true => _ | false => (match ltI i 8 with | true => _ | false => _)) = _
  rcases h1 with h1 | h1
  · rw [lt_tt h1]
  · rw [lt_ff (show 0 ≤ i by omega), lt_ff h1]
theorem cb_2_1 (i : Int) (h1 : 0 ≤ i) (h2 : i < 8) : F11 2 1 i = .tuple ⟨[.agg ⟨[.int .i64 ((i / 4) % 2), .int .i64 ((i / 4) / 2), .int .u8 (wrapF .u8 (i % 4))]⟩, .int .i64 0]⟩ := by
  show (match ltI i 0 with | true => _ | false => (match ltI i 8 with | true => _ | false => _)) = _
  rw [lt_ff h1, lt_tt h2]
theorem cc_2_1 (x y q : Int) (h1 : ¬ (0 ≤ x ∧ x < 2 ∧ 0 ≤ y ∧ y < 1 ∧ q < 4)) : F12 2 1 x y q = .tuple ⟨[.int .i64 0, .int .i64 7]⟩ ∧ (0 ≤ q → F13 2 1 x y q = .int .i64 (-1)) := by
  constructor
  · show (match ltI q 4 with | true => _ | false => _) = _
    repeat' split
    all_goals first | rfl | (exfalso; simp only [ltI_eq, decide_eq_true_eq, decide_eq_false_iff_not] at *; omega)
  · intro hq
    unfold F13
    repeat' split
    all_goals first | rfl | (exfalso; simp only [ltI_eq, decide_eq_true_eq, decide_eq_false_iff_not] at *; omega)
theorem cd_2_1 (x y q : Int) (h1 : 0 ≤ x ∧ x < 2 ∧ 0 ≤ y ∧ y < 1 ∧ q < 4) (hq : 0 ≤ q) : F12 2 1 x y q = .tuple ⟨[.int .i64 (4 * (y * 2 + x) + q), .int .i64 0]⟩ ∧ F13 2 1 x y q = .int .i64 (4 * (y * 2 + x) + q) := by
  obtain ⟨x0, x1, y0, y1, q1⟩ := h1
  have a1 : wrapF .i64 (Int.mul y 2) = y * 2 := wid_i64 (n := y * 2) (by omega) (by omega)
  have a2 : wrapF .i64 (Int.add (y * 2) x) = y * 2 + x := wid_i64 (n := y * 2 + x) (by omega) (by omega)
  have a3 : wrapF .i64 (Int.mul 4 (y * 2 + x)) = 4 * (y * 2 + x) := wid_i64 (n := 4 * (y * 2 + x)) (by omega) (by omega)
  have a4 : wrapF .i64 (Int.add (4 * (y * 2 + x)) q) = 4 * (y * 2 + x) + q := wid_i64 (n := 4 * (y * 2 + x) + q) (by omega) (by omega)
  have b1 : wrapF .i64 (Int.mul (wrapF .i64 (Int.mul 4 2)) y) = 8 * y := wid_i64 (n := 8 * y) (by omega) (by omega)
  have b2 : wrapF .i64 (Int.mul 4 x) = 4 * x := wid_i64 (n := 4 * x) (by omega) (by omega)
  have b3 : wrapF .i64 (Int.add (8 * y) (4 * x)) = 4 * (y * 2 + x) := by
    rw [show Int.add (8 * y) (4 * x) = 4 * (y * 2 + x) by show 8 * y + 4 * x = _; omega]
    exact wid_i64 (n := 4 * (y * 2 + x)) (by omega) (by omega)
  constructor
  · show (match ltI q 4 with | true => _ | false => _) = _
    rw [lt_tt q1]
    show (match ltI x (-4096) with | true => _ | false => _) = _
    rw [lt_ff (show -4096 ≤ x by omega), lt_ff (show x ≤ 4096 by omega), lt_ff (show -4096 ≤ y by omega), lt_ff (show y ≤ 4096 by omega), lt_ff x0, lt_tt x1, lt_ff y0, lt_tt y1]
    show Value.tuple ⟨[.int .i64 (wrapF .i64 (Int.add (wrapF .i64 (Int.mul 4 (wrapF .i64 (Int.add (wrapF .i64 (Int.mul y 2)) x)))) q)), .int .i64 0]⟩ = _
    rw [a1, a2, a3, a4]
  · unfold F13
    repeat' split
    all_goals first | (exfalso; simp only [ltI_eq, decide_eq_true_eq, decide_eq_false_iff_not] at *; omega) | (rw [b1, b2, b3, a4])

theorem ca_2_2 (i : Int) (h1 : i < 0 ∨ 16 ≤ i) : F11 2 2 i = .tuple ⟨[.agg ⟨[.int .i64 0, .int .i64 0, .int .u8 0]⟩, .int .i64 7]⟩ := by
  show (match ltI i 0 with | true => _ | false => (match ltI i 16 with | true => _ | false => _)) = _
  rcases h1 with h1 | h1
  · rw [lt_tt h1]
  · rw [lt_ff (show 0 ≤ i by omega), lt_ff h1]
theorem cb_2_2 (i : Int) (h1 : 0 ≤ i) (h2 : i < 16) : F11 2 2 i = .tuple ⟨[.agg ⟨[.int .i64 ((i / 4) % 2), .int .i64 ((i / 4) / 2), .int .u8 (wrapF .u8 (i % 4))]⟩, .int .i64 0]⟩ := by
  show (match ltI i 0 with | true => _ | false => (match ltI i 16 with | true => _ | false => _)) = _
  rw [lt_ff h1, lt_tt h2]
theorem cc_2_2 (x y q : Int) (h1 : ¬ (0 ≤ x ∧ x < 2 ∧ 0 ≤ y ∧ y < 2 ∧ q < 4)) : F12 2 2 x y q = .tuple ⟨[.int .i64 0, .int .i64 7]⟩ ∧ (0 ≤ q → F13 2 2 x y q = .int .i64 (-1)) := by
  constructor
  · show (match ltI q 4 with | true => _ | false => _) = _
    repeat' split
    all_goals first | rfl | (exfalso; simp only [ltI_eq, decide_eq_true_eq, decide_eq_false_iff_not] at *; omega)
  · intro hq
    unfold F13
    repeat' split
    all_goals first | rfl | (exfalso; simp only [ltI_eq, decide_eq_true_eq, decide_eq_false_iff_not] at *; omega)
theorem cd_2_2 (x y q : Int) (h1 : 0 ≤ x ∧ x < 2 ∧ 0 ≤ y ∧ y < 2 ∧ q < 4) (hq : 0 ≤ q) : F12 2 2 x y q = .tuple ⟨[.int .i64 (4 * (y * 2 + x) + q), .int .i64 0]⟩ ∧ F13 2 2 x y q = .int .i64 (4 * (y * 2 + x) + q) := by
  obtain ⟨x0, x1, y0, y1, q1⟩ := h1
  have a1 : wrapF .i64 (Int.mul y 2) = y * 2 := wid_i64 (n := y * 2) (by omega) (by omega)
  have a2 : wrapF .i64 (Int.add (y * 2) x) = y * 2 + x := wid_i64 (n := y * 2 + x) (by omega) (by omega)
  have a3 : wrapF .i64 (Int.mul 4 (y * 2 + x)) = 4 * (y * 2 + x) := wid_i64 (n := 4 * (y * 2 + x)) (by omega) (by omega)
  have a4 : wrapF .i64 (Int.add (4 * (y * 2 + x)) q) = 4 * (y * 2 + x) + q := wid_i64 (n := 4 * (y * 2 + x) + q) (by omega) (by omega)
  have b1 : wrapF .i64 (Int.mul (wrapF .i64 (Int.mul 4 2)) y) = 8 * y := wid_i64 (n := 8 * y) (by omega) (by omega)
  have b2 : wrapF .i64 (Int.mul 4 x) = 4 * x := wid_i64 (n := 4 * x) (by omega) (by omega)
  have b3 : wrapF .i64 (Int.add (8 * y) (4 * x)) = 4 * (y * 2 + x) := by
    rw [show Int.add (8 * y) (4 * x) = 4 * (y * 2 + x) by show 8 * y + 4 * x = _; omega]
    exact wid_i64 (n := 4 * (y * 2 + x)) (by omega) (by omega)
  constructor
  · show (match ltI q 4 with | true => _ | false => _) = _
    rw [lt_tt q1]
    show (match ltI x (-4096) with | true => _ | false => _) = _
    rw [lt_ff (show -4096 ≤ x by omega), lt_ff (show x ≤ 4096 by omega), lt_ff (show -4096 ≤ y by omega), lt_ff (show y ≤ 4096 by omega), lt_ff x0, lt_tt x1, lt_ff y0, lt_tt y1]
    show Value.tuple ⟨[.int .i64 (wrapF .i64 (Int.add (wrapF .i64 (Int.mul 4 (wrapF .i64 (Int.add (wrapF .i64 (Int.mul y 2)) x)))) q)), .int .i64 0]⟩ = _
    rw [a1, a2, a3, a4]
  · unfold F13
    repeat' split
    all_goals first | (exfalso; simp only [ltI_eq, decide_eq_true_eq, decide_eq_false_iff_not] at *; omega) | (rw [b1, b2, b3, a4])

theorem ca_2_3 (i : Int) (h1 : i < 0 ∨ 24 ≤ i) : F11 2 3 i = .tuple ⟨[.agg ⟨[.int .i64 0, .int .i64 0, .int .u8 0]⟩, .int .i64 7]⟩ := by
  show (match ltI i 0 with | true => _ | false => (match ltI i 24 with | true => _ | false => _)) = _
  rcases h1 with h1 | h1
  · rw [lt_tt h1]
  · rw [lt_ff (show 0 ≤ i by omega), lt_ff h1]
theorem cb_2_3 (i : Int) (h1 : 0 ≤ i) (h2 : i < 24) : F11 2 3 i = .tuple ⟨[.agg ⟨[.int .i64 ((i / 4) % 2), .int .i64 ((i / 4) / 2), .int .u8 (wrapF .u8 (i % 4))]⟩, .int .i64 0]⟩ := by
  show (match ltI i 0 with | true => _ | false => (match ltI i 24 with | true => _ | false => _)) = _
  rw [lt_ff h1, lt_tt h2]
theorem cc_2_3 (x y q : Int) (h1 : ¬ (0 ≤ x ∧ x < 2 ∧ 0 ≤ y ∧ y < 3 ∧ q < 4)) : F12 2 3 x y q = .tuple ⟨[.int .i64 0, .int .i64 7]⟩ ∧ (0 ≤ q → F13 2 3 x y q = .int .i64 (-1)) := by
  constructor
  · show (match ltI q 4 with | true => _ | false => _) = _
    repeat' split
    all_goals first | rfl | (exfalso; simp only [ltI_eq, decide_eq_true_eq, decide_eq_false_iff_not] at *; omega)
  · intro hq
    unfold F13
    repeat' split
    all_goals first | rfl | (exfalso; simp only [ltI_eq, decide_eq_true_eq, decide_eq_false_iff_not] at *; omega)
theorem cd_2_3 (x y q : Int) (h1 : 0 ≤ x ∧ x < 2 ∧ 0 ≤ y ∧ y < 3 ∧ q < 4) (hq : 0 ≤ q) : F12 2 3 x y q = .tuple ⟨[.int .i64 (4 * (y * 2 + x) + q), .int .i64 0]⟩ ∧ F13 2 3 x y q = .int .i64 (4 * (y * 2 + x) + q) := by
  obtain ⟨x0, x1, y0, y1, q1⟩ := h1
  have a1 : wrapF .i64 (Int.mul y 2) = y * 2 := wid_i64 (n := y * 2) (by omega) (by omega)
  have a2 : wrapF .i64 (Int.add (y * 2) x) = y * 2 + x := wid_i64 (n := y * 2 + x) (by omega) (by omega)
  have a3 : wrapF .i64 (Int.mul 4 (y * 2 + x)) = 4 * (y * 2 + x) := wid_i64 (n := 4 * (y * 2 + x)) (by omega) (by omega)
  have a4 : wrapF .i64 (Int.add (4 * (y * 2 + x)) q) = 4 * (y * 2 + x) + q := wid_i64 (n := 4 * (y * 2 + x) + q) (by omega) (by omega)
  have b1 : wrapF .i64 (Int.mul (wrapF .i64 (Int.mul 4 2)) y) = 8 * y := wid_i64 (n := 8 * y) (by omega) (by omega)
  have b2 : wrapF .i64 (Int.mul 4 x) = 4 * x := wid_i64 (n := 4 * x) (by omega) (by omega)
  have b3 : wrapF .i64 (Int.add (8 * y) (4 * x)) = 4 * (y * 2 + x) := by
    rw [show Int.add (8 * y) (4 * x) = 4 * (y * 2 + x) by show 8 * y + 4 * x = _; omega]
    exact wid_i64 (n := 4 * (y * 2 + x)) (by omega) (by omega)
  constructor
  · show (match ltI q 4 with | true => _ | false => _) = _
    rw [lt_tt q1]
    show (match ltI x (-4096) with | true => _ | false => _) = _
    rw [lt_ff (show -4096 ≤ x by omega), lt_ff (show x ≤ 4096 by omega), lt_ff (show -4096 ≤ y by omega), lt_ff (show y ≤ 4096 by omega), lt_ff x0, lt_tt x1, lt_ff y0, lt_tt y1]
    show Value.tuple ⟨[.int .i64 (wrapF .i64 (Int.add (wrapF .i64 (Int.mul 4 (wrapF .i64 (Int.add (wrapF .i64 (Int.mul y 2)) x)))) q)), .int .i64 0]⟩ = _
    rw [a1, a2, a3, a4]
  · unfold F13
    repeat' split
    all_goals first | (exfalso; simp only [ltI_eq, decide_eq_true_eq, decide_eq_false_iff_not] at *; omega) | (rw [b1, b2, b3, a4])

theorem ca_2_4 (i : Int) (h1 : i < 0 ∨ 32 ≤ i) : F11 2 4 i = .tuple ⟨[.agg ⟨[.int .i64 0, .int .i64 0, .int .u8 0]⟩, .int .i64 7]⟩ := by
  show (match ltI i 0 with | true => _ | false => (match ltI i 32 with | true => _ | false => _)) = _
  rcases h1 with h1 | h1
  · rw [lt_tt h1]
  · rw [lt_ff (show 0 ≤ i by omega), lt_ff h1]
theorem cb_2_4 (i : Int) (h1 : 0 ≤ i) (h2 : i < 32) : F11 2 4 i = .tuple ⟨[.agg ⟨[.int .i64 ((i / 4) % 2), .int .i64 ((i / 4) / 2), .int .u8 (wrapF .u8 (i % 4))]⟩, .int .i64 0]⟩ := by
  show (match ltI i 0 with | true => _ | false => (match ltI i 32 with | true => _ | false => _)) = _
  rw [lt_ff h1, lt_tt h2]
theorem cc_2_4 (x y q : Int) (h1 : ¬ (0 ≤ x ∧ x < 2 ∧ 0 ≤ y ∧ y < 4 ∧ q < 4)) : F12 2 4 x y q = .tuple ⟨[.int .i64 0, .int .i64 7]⟩ ∧ (0 ≤ q → F13 2 4 x y q = .int .i64 (-1)) := by
  constructor
  · show (match ltI q 4 with | true => _ | false => _) = _
    repeat' split
    all_goals first | rfl | (exfalso; simp only [ltI_eq, decide_eq_true_eq, decide_eq_false_iff_not] at *; omega)
  · intro hq
    unfold F13
    repeat' split
    all_goals first | rfl | (exfalso; simp only [ltI_eq, decide_eq_true_eq, decide_eq_false_iff_not] at *; omega)
theorem cd_2_4 (x y q : Int) (h1 : 0 ≤ x ∧ x < 2 ∧ 0 ≤ y ∧ y < 4 ∧ q < 4) (hq : 0 ≤ q) : F12 2 4 x y q = .tuple ⟨[.int .i64 (4 * (y * 2 + x) + q), .int .i64 0]⟩ ∧ F13 2 4 x y q = .int .i64 (4 * (y * 2 + x) + q) := by
  obtain ⟨x0, x1, y0, y1, q1⟩ := h1
  have a1 : wrapF .i64 (Int.mul y 2) = y * 2 := wid_i64 (n := y * 2) (by omega) (by omega)
  have a2 : wrapF .i64 (Int.add (y * 2) x) = y * 2 + x := wid_i64 (n := y * 2 + x) (by omega) (by omega)
  have a3 : wrapF .i64 (Int.mul 4 (y * 2 + x)) = 4 * (y * 2 + x) := wid_i64 (n := 4 * (y * 2 + x)) (by omega) (by omega)
  have a4 : wrapF .i64 (Int.add (4 * (y * 2 + x)) q) = 4 * (y * 2 + x) + q := wid_i64 (n := 4 * (y * 2 + x) + q) (by omega) (by omega)
  have b1 : wrapF .i64 (Int.mul (wrapF .i64 (Int.mul 4 2)) y) = 8 * y := wid_i64 (n := 8 * y) (by omega) (by omega)
  have b2 : wrapF .i64 (Int.mul 4 x) = 4 * x := wid_i64 (n := 4 * x) (by omega) (by omega)
  have b3 : wrapF .i64 (Int.add (8 * y) (4 * x)) = 4 * (y * 2 + x) := by
    rw [show Int.add (8 * y) (4 * x) = 4 * (y * 2 + x) by show 8 * y + 4 * x = _; omega]
    exact wid_i64 (n := 4 * (y * 2 + x)) (by omega) (by omega)
  constructor
  · show (match ltI q 4 with | true => _ | false => _) = _
    rw [lt_tt q1]
    show (match ltI x (-4096) with | true => _ | false => _) = _
    rw [lt_ff (show -4096 ≤ x by omega), lt_ff (show x ≤ 4096 by omega), lt_ff (show -4096 ≤ y by omega), lt_ff (show y ≤ 4096 by omega), lt_ff x0, lt_tt x1, lt_ff y0, lt_tt y1]
    show Value.tuple ⟨[.int .i64 (wrapF .i64 (Int.add (wrapF .i64 (Int.mul 4 (wrapF .i64 (Int.add (wrapF .i64 (Int.mul y 2)) x)))) q)), .int .i64 0]⟩ = _
    rw [a1, a2, a3, a4]
  · unfold F13
    repeat' split
    all_goals first | (exfalso; simp only [ltI_eq, decide_eq_true_eq, decide_eq_false_iff_not] at *; omega) | (rw [b1, b2, b3, a4])

theorem ca_2_5 (i : Int) (h1 : i < 0 ∨ 40 ≤ i) : F11 2 5 i = .tuple ⟨[.agg ⟨[.int .i64 0, .int .i64 0, .int .u8 0]⟩, .int .i64 7]⟩ := by
  show (match ltI i 0 with | true => _ | false => (match ltI i 40 with | true => _ | false => _)) = _
  rcases h1 with h1 | h1
  · rw [lt_tt h1]
  · rw [lt_ff (show 0 ≤ i by omega), lt_ff h1]
theorem cb_2_5 (i : Int) (h1 : 0 ≤ i) (h2 : i < 40) : F11 2 5 i = .tuple ⟨[.agg ⟨[.int .i64 ((i / 4) % 2), .int .i64 ((i / 4) / 2), .int .u8 (wrapF .u8 (i % 4))]⟩, .int .i64 0]⟩ := by
  show (match ltI i 0 with | true => _ | false => (match ltI i 40 with | true => _ | false => _)) = _
  rw [lt_ff h1, lt_tt h2]
theorem cc_2_5 (x y q : Int) (h1 : ¬ (0 ≤ x ∧ x < 2 ∧ 0 ≤ y ∧ y < 5 ∧ q < 4)) : F12 2 5 x y q = .tuple ⟨[.int .i64 0, .int .i64 7]⟩ ∧ (0 ≤ q → F13 2 5 x y q = .int .i64 (-1)) := by
  constructor
  · show (match ltI q 4 with | true => _ | false => _) = _
    repeat' split
    all_goals first | rfl | (exfalso; simp only [ltI_eq, decide_eq_true_eq, decide_eq_false_iff_not] at *; omega)
  · intro hq
    unfold F13
    repeat' split
    all_goals first | rfl | (exfalso; simp only [ltI_eq, decide_eq_true_eq, decide_eq_false_iff_not] at *; omega)
theorem cd_2_5 (x y q : Int) (h1 : 0 ≤ x ∧ x < 2 ∧ 0 ≤ y ∧ y < 5 ∧ q < 4) (hq : 0 ≤ q) : F12 2 5 x y q = .tuple ⟨[.int .i64 (4 * (y * 2 + x) + q), .int .i64 0]⟩ ∧ F13 2 5 x y q = .int .i64 (4 * (y * 2 + x) + q) := by
  obtain ⟨x0, x1, y0, y1, q1⟩ := h1
  have a1 : wrapF .i64 (Int.mul y 2) = y * 2 := wid_i64 (n := y * 2) (by omega) (by omega)
  have a2 : wrapF .i64 (Int.add (y * 2) x) = y * 2 + x := wid_i64 (n := y * 2 + x) (by omega) (by omega)
  have a3 : wrapF .i64 (Int.mul 4 (y * 2 + x)) = 4 * (y * 2 + x) := wid_i64 (n := 4 * (y * 2 + x)) (by omega) (by omega)
  have a4 : wrapF .i64 (Int.add (4 * (y * 2 + x)) q) = 4 * (y * 2 + x) + q := wid_i64 (n := 4 * (y * 2 + x) + q) (by omega) (by omega)
  have b1 : wrapF .i64 (Int.mul (wrapF .i64 (Int.mul 4 2)) y) = 8 * y := wid_i64 (n := 8 * y) (by omega) (by omega)
  have b2 : wrapF .i64 (Int.mul 4 x) = 4 * x := wid_i64 (n := 4 * x) (by omega) (by omega)
  have b3 : wrapF .i64 (Int.add (8 * y) (4 * x)) = 4 * (y * 2 + x) := by
    rw [show Int.add (8 * y) (4 * x) = 4 * (y * 2 + x) by show 8 * y + 4 * x = _; omega]
    exact wid_i64 (n := 4 * (y * 2 + x)) (by omega) (by omega)
  constructor
  · show (match ltI q 4 with | true => _ | false => _) = _
    rw [lt_tt q1]
    show (match ltI x (-4096) with | true => _ | false => _) = _
    rw [lt_ff (show -4096 ≤ x by omega), lt_ff (show x ≤ 4096 by omega), lt_ff (show -4096 ≤ y by omega), lt_ff (show y ≤ 4096 by omega), lt_ff x0, lt_tt x1, lt_ff y0, lt_tt y1]
    show Value.tuple ⟨[.int .i64 (wrapF .i64 (Int.add (wrapF .i64 (Int.mul 4 (wrapF .i64 (Int.add (wrapF .i64 (Int.mul y 2)) x)))) q)), .int .i64 0]⟩ = _
    rw [a1, a2, a3, a4]
  · unfold F13
    repeat' split
    all_goals first | (exfalso; simp only [ltI_eq, decide_eq_true_eq, decide_eq_false_iff_not] at *; omega) | (rw [b1, b2, b3, a4])

theorem ca_3_1 (i : Int) (h1 : i < 0 ∨ 12 ≤ i) : F11 3 1 i = .tuple ⟨[.agg ⟨[.int .i64 0, .int .i64 0, .int .u8 0]⟩, .int .i64 7]⟩ := by
  show (match ltI i 0 with | true => _ | false => (match ltI i 12 with | true => _ | false => _)) = _
  rcases h1 with h1 | h1
  · rw [lt_tt h1]
  · rw [lt_ff (show 0 ≤ i by omega), lt_ff h1]
theorem cb_3_1 (i : Int) (h1 : 0 ≤ i) (h2 : i < 12) : F11 3 1 i = .tuple ⟨[.agg ⟨[.int .i64 ((i / 4) % 3), .int .i64 ((i / 4) / 3), .int .u8 (wrapF .u8 (i % 4))]⟩, .int .i64 0]⟩ := by
  show (match ltI i 0 with | true => _ | false => (match ltI i 12 with | true => _ | false => _)) = _
  rw [lt_ff h1, lt_tt h2]
theorem cc_3_1 (x y q : Int) (h1 : ¬ (0 ≤ x ∧ x < 3 ∧ 0 ≤ y ∧ y < 1 ∧ q < 4)) : F12 3 1 x y q = .tuple ⟨[.int .i64 0, .int .i64 7]⟩ ∧ (0 ≤ q → F13 3 1 x y q = .int .i64 (-1)) := by
  constructor
  · show (match ltI q 4 with | true => _ | false => _) = _
    repeat' split
    all_goals first | rfl | (exfalso; simp only [ltI_eq, decide_eq_true_eq, decide_eq_false_iff_not] at *; omega)
  · intro hq
    unfold F13
    repeat' split
    all_goals first | rfl | (exfalso; simp only [ltI_eq, decide_eq_true_eq, decide_eq_false_iff_not] at *; omega)
theorem cd_3_1 (x y q : Int) (h1 : 0 ≤ x ∧ x < 3 ∧ 0 ≤ y ∧ y < 1 ∧ q < 4) (hq : 0 ≤ q) : F12 3 1 x y q = .tuple ⟨[.int .i64 (4 * (y * 3 + x) + q), .int .i64 0]⟩ ∧ F13 3 1 x y q = .int .i64 (4 * (y * 3 + x) + q) := by
  obtain ⟨x0, x1, y0, y1, q1⟩ := h1
  have a1 : wrapF .i64 (Int.mul y 3) = y * 3 := wid_i64 (n := y * 3) (by omega) (by omega)
  have a2 : wrapF .i64 (Int.add (y * 3) x) = y * 3 + x := wid_i64 (n := y * 3 + x) (by omega) (by omega)
  have a3 : wrapF .i64 (Int.mul 4 (y * 3 + x)) = 4 * (y * 3 + x) := wid_i64 (n := 4 * (y * 3 + x)) (by omega) (by omega)
  have a4 : wrapF .i64 (Int.add (4 * (y * 3 + x)) q) = 4 * (y * 3 + x) + q := wid_i64 (n := 4 * (y * 3 + x) + q) (by omega) (by omega)
  have b1 : wrapF .i64 (Int.mul (wrapF .i64 (Int.mul 4 3)) y) = 12 * y := wid_i64 (n := 12 * y) (by omega) (by omega)
  have b2 : wrapF .i64 (Int.mul 4 x) = 4 * x := wid_i64 (n := 4 * x) (by omega) (by omega)
  have b3 : wrapF .i64 (Int.add (12 * y) (4 * x)) = 4 * (y * 3 + x) := by
    rw [show Int.add (12 * y) (4 * x) = 4 * (y * 3 + x) by show 12 * y + 4 * x = _; omega]
    exact wid_i64 (n := 4 * (y * 3 + x)) (by omega) (by omega)
  constructor
  · show (match ltI q 4 with | true => _ | false => _) = _
    rw [lt_tt q1]
    show (match ltI x (-4096) with | true => _ | false => _) = _
    rw [lt_ff (show -4096 ≤ x by omega), lt_ff (show x ≤ 4096 by omega), lt_ff (show -4096 ≤ y by omega), lt_ff (show y ≤ 4096 by omega), lt_ff x0, lt_tt x1, lt_ff y0, lt_tt y1]
    show Value.tuple ⟨[.int .i64 (wrapF .i64 (Int.add (wrapF .i64 (Int.mul 4 (wrapF .i64 (Int.add (wrapF .i64 (Int.mul y 3)) x)))) q)), .int .i64 0]⟩ = _
    rw [a1, a2, a3, a4]
  · unfold F13
    repeat' split
    all_goals first | (exfalso; simp only [ltI_eq, decide_eq_true_eq, decide_eq_false_iff_not] at *; omega) | (rw [b1, b2, b3, a4])

theorem ca_3_2 (i : Int) (h1 : i < 0 ∨ 24 ≤ i) : F11 3 2 i = .tuple ⟨[.agg ⟨[.int .i64 0, .int .i64 0, .int .u8 0]⟩, .int .i64 7]⟩ := by
  show (match ltI i 0 with | true => _ | false => (match ltI i 24 with | true => _ | false => _)) = _
  rcases h1 with h1 | h1
  · rw [lt_tt h1]
  · rw [lt_ff (show 0 ≤ i by omega), lt_ff h1]
theorem cb_3_2 (i : Int) (h1 : 0 ≤ i) (h2 : i < 24) : F11 3 2 i = .tuple ⟨[.agg ⟨[.int .i64 ((i / 4) % 3), .int .i64 ((i / 4) / 3), .int .u8 (wrapF .u8 (i % 4))]⟩, .int .i64 0]⟩ := by
  show (match ltI i 0 with | true => _ | false => (match ltI i 24 with | true => _ | false => _)) = _
  rw [lt_ff h1, lt_tt h2]
theorem cc_3_2 (x y q : Int) (h1 : ¬ (0 ≤ x ∧ x < 3 ∧ 0 ≤ y ∧ y < 2 ∧ q < 4)) : F12 3 2 x y q = .tuple ⟨[.int .i64 0, .int .i64 7]⟩ ∧ (0 ≤ q → F13 3 2 x y q = .int .i64 (-1)) := by
  constructor
  · show (match ltI q 4 with | true => _ | false => _) = _
    repeat' split
    all_goals first | rfl | (exfalso; simp only [ltI_eq, decide_eq_true_eq, decide_eq_false_iff_not] at *; omega)
  · intro hq
    unfold F13
    repeat' split
    all_goals first | rfl | (exfalso; simp only [ltI_eq, decide_eq_true_eq, decide_eq_false_iff_not] at *; omega)
theorem cd_3_2 (x y q : Int) (h1 : 0 ≤ x ∧ x < 3 ∧ 0 ≤ y ∧ y < 2 ∧ q < 4) (hq : 0 ≤ q) : F12 3 2 x y q = .tuple ⟨[.int .i64 (4 * (y * 3 + x) + q), .int .i64 0]⟩ ∧ F13 3 2 x y q = .int .i64 (4 * (y * 3 + x) + q) := by
  obtain ⟨x0, x1, y0, y1, q1⟩ := h1
  have a1 : wrapF .i64 (Int.mul y 3) = y * 3 := wid_i64 (n := y * 3) (by omega) (by omega)
  have a2 : wrapF .i64 (Int.add (y * 3) x) = y * 3 + x := wid_i64 (n := y * 3 + x) (by omega) (by omega)
  have a3 : wrapF .i64 (Int.mul 4 (y * 3 + x)) = 4 * (y * 3 + x) := wid_i64 (n := 4 * (y * 3 + x)) (by omega) (by omega)
  have a4 : wrapF .i64 (Int.add (4 * (y * 3 + x)) q) = 4 * (y * 3 + x) + q := wid_i64 (n := 4 * (y * 3 + x) + q) (by omega) (by omega)
  have b1 : wrapF .i64 (Int.mul (wrapF .i64 (Int.mul 4 3)) y) = 12 * y := wid_i64 (n := 12 * y) (by omega) (by omega)
  have b2 : wrapF .i64 (Int.mul 4 x) = 4 * x := wid_i64 (n := 4 * x) (by omega) (by omega)
  have b3 : wrapF .i64 (Int.add (12 * y) (4 * x)) = 4 * (y * 3 + x) := by
    rw [show Int.add (12 * y) (4 * x) = 4 * (y * 3 + x) by show 12 * y + 4 * x = _; omega]
    exact wid_i64 (n := 4 * (y * 3 + x)) (by omega) (by omega)
  constructor
  · show (match ltI q 4 with | true => _ | false => _) = _
    rw [lt_tt q1]
    show (match ltI x (-4096) with | true => _ | false => _) = _
    rw [lt_ff (show -4096 ≤ x by omega), lt_ff (show x ≤ 4096 by omega), lt_ff (show -4096 ≤ y by omega), lt_ff (show y ≤ 4096 by omega), lt_ff x0, lt_tt x1, lt_ff y0, lt_tt y1]
    show Value.tuple ⟨[.int .i64 (wrapF .i64 (Int.add (wrapF .i64 (Int.mul 4 (wrapF .i64 (Int.add (wrapF .i64 (Int.mul y 3)) x)))) q)), .int .i64 0]⟩ = _
    rw [a1, a2, a3, a4]
  · unfold F13
    repeat' split
    all_goals first | (exfalso; simp only [ltI_eq, decide_eq_true_eq, decide_eq_false_iff_not] at *; omega) | (rw [b1, b2, b3, a4])

theorem ca_3_3 (i : Int) (h1 : i < 0 ∨ 36 ≤ i) : F11 3 3 i = .tuple ⟨[.agg ⟨[.int .i64 0, .int .i64 0, .int .u8 0]⟩, .int .i64 7]⟩ := by
  show (match ltI i 0 with | true => _ | false => (match ltI i 36 with | true => _ | false => _)) = _
  rcases h1 with h1 | h1
  · rw [lt_tt h1]
  · rw [lt_ff (show 0 ≤ i by omega), lt_ff h1]
theorem cb_3_3 (i : Int) (h1 : 0 ≤ i) (h2 : i < 36) : F11 3 3 i = .tuple ⟨[.agg ⟨[.int .i64 ((i / 4) % 3), .int .i64 ((i / 4) / 3), .int .u8 (wrapF .u8 (i % 4))]⟩, .int .i64 0]⟩ := by
  show (match ltI i 0 with | true => _ | false => (match ltI i 36 with | true => _ | false => _)) = _
  rw [lt_ff h1, lt_tt h2]
theorem cc_3_3 (x y q : Int) (h1 : ¬ (0 ≤ x ∧ x < 3 ∧ 0 ≤ y ∧ y < 3 ∧ q < 4)) : F12 3 3 x y q = .tuple ⟨[.int .i64 0, .int .i64 7]⟩ ∧ (0 ≤ q → F13 3 3 x y q = .int .i64 (-1)) := by
  constructor
  · show (match ltI q 4 with | true => _ | false => _) = _
    repeat' split
    all_goals first | rfl | (exfalso; simp only [ltI_eq, decide_eq_true_eq, decide_eq_false_iff_not] at *; omega)
  · intro hq
    unfold F13
    repeat' split
    all_goals first | rfl | (exfalso; simp only [ltI_eq, decide_eq_true_eq, decide_eq_false_iff_not] at *; omega)
theorem cd_3_3 (x y q : Int) (h1 : 0 ≤ x ∧ x < 3 ∧ 0 ≤ y ∧ y < 3 ∧ q < 4) (hq : 0 ≤ q) : F12 3 3 x y q = .tuple ⟨[.int .i64 (4 * (y * 3 + x) + q), .int .i64 0]⟩ ∧ F13 3 3 x y q = .int .i64 (4 * (y * 3 + x) + q) := by
  obtain ⟨x0, x1, y0, y1, q1⟩ := h1
  have a1 : wrapF .i64 (Int.mul y 3) = y * 3 := wid_i64 (n := y * 3) (by omega) (by omega)
  have a2 : wrapF .i64 (Int.add (y * 3) x) = y * 3 + x := wid_i64 (n := y * 3 + x) (by omega) (by omega)
  have a3 : wrapF .i64 (Int.mul 4 (y * 3 + x)) = 4 * (y * 3 + x) := wid_i64 (n := 4 * (y * 3 + x)) (by omega) (by omega)
  have a4 : wrapF .i64 (Int.add (4 * (y * 3 + x)) q) = 4 * (y * 3 + x) + q := wid_i64 (n := 4 * (y * 3 + x) + q) (by omega) (by omega)
  have b1 : wrapF .i64 (Int.mul (wrapF .i64 (Int.mul 4 3)) y) = 12 * y := wid_i64 (n := 12 * y) (by omega) (by omega)
  have b2 : wrapF .i64 (Int.mul 4 x) = 4 * x := wid_i64 (n := 4 * x) (by omega) (by omega)
  have b3 : wrapF .i64 (Int.add (12 * y) (4 * x)) = 4 * (y * 3 + x) := by
    rw [show Int.add (12 * y) (4 * x) = 4 * (y * 3 + x) by show 12 * y + 4 * x = _; omega]
    exact wid_i64 (n := 4 * (y * 3 + x)) (by omega) (by omega)
  constructor
  · show (match ltI q 4 with | true => _ | false => _) = _
    rw [lt_tt q1]
    show (match ltI x (-4096) with | true => _ | false => _) = _
    rw [lt_ff (show -4096 ≤ x by omega), lt_ff (show x ≤ 4096 by omega), lt_ff (show -4096 ≤ y by omega), lt_ff (show y ≤ 4096 by omega), lt_ff x0, lt_tt x1, lt_ff y0, lt_tt y1]
    show Value.tuple ⟨[.int .i64 (wrapF .i64 (Int.add (wrapF .i64 (Int.mul 4 (wrapF .i64 (Int.add (wrapF .i64 (Int.mul y 3)) x)))) q)), .int .i64 0]⟩ = _
    rw [a1, a2, a3, a4]
  · unfold F13
    repeat' split
    all_goals first | (exfalso; simp only [ltI_eq, decide_eq_true_eq, decide_eq_false_iff_not] at *; omega) | (rw [b1, b2, b3, a4])

theorem ca_3_4 (i : Int) (h1 : i < 0 ∨ 48 ≤ i) : F11 3 4 i = .tuple ⟨[.agg ⟨[.int .i64 0, .int .i64 0, .int .u8 0]⟩, .int .i64 7]⟩ := by
  show (match ltI i 0 with | true => _ | false => (match ltI i 48 with | true => _ | false => _)) = _
  rcases h1 with h1 | h1
  · rw [lt_tt h1]
  · rw [lt_ff (show 0 ≤ i by omega), lt_ff h1]
theorem cb_3_4 (i : Int) (h1 : 0 ≤ i) (h2 : i < 48) : F11 3 4 i = .tuple ⟨[.agg ⟨[.int .i64 ((i / 4) % 3), .int .i64 ((i / 4) / 3), .int .u8 (wrapF .u8 (i % 4))]⟩, .int .i64 0]⟩ := by
  show (match ltI i 0 with | true => _ | false => (match ltI i 48 with | true => _ | false => _)) = _
  rw [lt_ff h1, lt_tt h2]
theorem cc_3_4 (x y q : Int) (h1 : ¬ (0 ≤ x ∧ x < 3 ∧ 0 ≤ y ∧ y < 4 ∧ q < 4)) : F12 3 4 x y q = .tuple ⟨[.int .i64 0, .int .i64 7]⟩ ∧ (0 ≤ q → F13 3 4 x y q = .int .i64 (-1)) := by
  constructor
  · show (match ltI q 4 with | true => _ | false => _) = _
    repeat' split
    all_goals first | rfl | (exfalso; simp only [ltI_eq, decide_eq_true_eq, decide_eq_false_iff_not] at *; omega)
  · intro hq
    unfold F13
    repeat' split
    all_goals first | rfl | (exfalso; simp only [ltI_eq, decide_eq_true_eq, decide_eq_false_iff_not] at *; omega)
theorem cd_3_4 (x y q : Int) (h1 : 0 ≤ x ∧ x < 3 ∧ 0 ≤ y ∧ y < 4 ∧ q < 4) (hq : 0 ≤ q) : F12 3 4 x y q = .tuple ⟨[.int .i64 (4 * (y * 3 + x) + q), .int .i64 0]⟩ ∧ F13 3 4 x y q = .int .i64 (4 * (y * 3 + x) + q) := by
  obtain ⟨x0, x1, y0, y1, q1⟩ := h1
  have a1 : wrapF .i64 (Int.mul y 3) = y * 3 := wid_i64 (n := y * 3) (by omega) (by omega)
  have a2 : wrapF .i64 (Int.add (y * 3) x) = y * 3 + x := wid_i64 (n := y * 3 + x) (by omega) (by omega)
  have a3 : wrapF .i64 (Int.mul 4 (y * 3 + x)) = 4 * (y * 3 + x) := wid_i64 (n := 4 * (y * 3 + x)) (by omega) (by omega)
  have a4 : wrapF .i64 (Int.add (4 * (y * 3 + x)) q) = 4 * (y * 3 + x) + q := wid_i64 (n := 4 * (y * 3 + x) + q) (by omega) (by omega)
  have b1 : wrapF .i64 (Int.mul (wrapF .i64 (Int.mul 4 3)) y) = 12 * y := wid_i64 (n := 12 * y) (by omega) (by omega)
  have b2 : wrapF .i64 (Int.mul 4 x) = 4 * x := wid_i64 (n := 4 * x) (by omega) (by omega)
  have b3 : wrapF .i64 (Int.add (12 * y) (4 * x)) = 4 * (y * 3 + x) := by
    rw [show Int.add (12 * y) (4 * x) = 4 * (y * 3 + x) by show 12 * y + 4 * x = _; omega]
    exact wid_i64 (n := 4 * (y * 3 + x)) (by omega) (by omega)
  constructor
  · show (match ltI q 4 with | true => _ | false => _) = _
    rw [lt_tt q1]
    show (match ltI x (-4096) with | true => _ | false => _) = _
    rw [lt_ff (show -4096 ≤ x by omega), lt_ff (show x ≤ 4096 by omega), lt_ff (show -4096 ≤ y by omega), lt_ff (show y ≤ 4096 by omega), lt_ff x0, lt_tt x1, lt_ff y0, lt_tt y1]
    show Value.tuple ⟨[.int .i64 (wrapF .i64 (Int.add (wrapF .i64 (Int.mul 4 (wrapF .i64 (Int.add (wrapF .i64 (Int.mul y 3)) x)))) q)), .int .i64 0]⟩ = _
    rw [a1, a2, a3, a4]
  · unfold F13
    repeat' split
    all_goals first | (exfalso; simp only [ltI_eq, decide_eq_true_eq, decide_eq_false_iff_not] at *; omega) | (rw [b1, b2, b3, a4])

theorem ca_3_5 (i : Int) (h1 : i < 0 ∨ 60 ≤ i) : F11 3 5 i = .tuple ⟨[.agg ⟨[.int .i64 0, .int .i64 0, .int .u8 0]⟩, .int .i64 7]⟩ := by
  show (match ltI i 0 with | true => _ | false => (match ltI i 60 with | true => _ | false => _)) = _
  rcases h1 with h1 | h1
  · rw [lt_tt h1]
  · rw [lt_ff (show 0 ≤ i by omega), lt_ff h1]
theorem cb_3_5 (i : Int) (h1 : 0 ≤ i) (h2 : i < 60) : F11 3 5 i = .tuple ⟨[.agg ⟨[.int .i64 ((i / 4) % 3), .int .i64 ((i / 4) / 3), .int .u8 (wrapF .u8 (i % 4))]⟩, .int .i64 0]⟩ := by
  show (match ltI i 0 with | true => _ | false => (match ltI i 60 with | true => _ | false => _)) = _
  rw [lt_ff h1, lt_tt h2]
theorem cc_3_5 (x y q : Int) (h1 : ¬ (0 ≤ x ∧ x < 3 ∧ 0 ≤ y ∧ y < 5 ∧ q < 4)) : F12 3 5 x y q = .tuple ⟨[.int .i64 0, .int .i64 7]⟩ ∧ (0 ≤ q → F13 3 5 x y q = .int .i64 (-1)) := by
  constructor
  · show (match ltI q 4 with | true => _ | false => _) = _
    repeat' split
    all_goals first | rfl | (exfalso; simp only [ltI_eq, decide_eq_true_eq, decide_eq_false_iff_not] at *; omega)
  · intro hq
    unfold F13
    repeat' split
    all_goals first | rfl | (exfalso; simp only [ltI_eq, decide_eq_true_eq, decide_eq_false_iff_not] at *; omega)
theorem cd_3_5 (x y q : Int) (h1 : 0 ≤ x ∧ x < 3 ∧ 0 ≤ y ∧ y < 5 ∧ q < 4) (hq : 0 ≤ q) : F12 3 5 x y q = .tuple ⟨[.int .i64 (4 * (y * 3 + x) + q), .int .i64 0]⟩ ∧ F13 3 5 x y q = .int .i64 (4 * (y * 3 + x) + q) := by
  obtain ⟨x0, x1, y0, y1, q1⟩ := h1
  have a1 : wrapF .i64 (Int.mul y 3) = y * 3 := wid_i64 (n := y * 3) (by omega) (by omega)
  have a2 : wrapF .i64 (Int.add (y * 3) x) = y * 3 + x := wid_i64 (n := y * 3 + x) (by omega) (by omega)
  have a3 : wrapF .i64 (Int.mul 4 (y * 3 + x)) = 4 * (y * 3 + x) := wid_i64 (n := 4 * (y * 3 + x)) (by omega) (by omega)
  have a4 : wrapF .i64 (Int.add (4 * (y * 3 + x)) q) = 4 * (y * 3 + x) + q := wid_i64 (n := 4 * (y * 3 + x) + q) (by omega) (by omega)
  have b1 : wrapF .i64 (Int.mul (wrapF .i64 (Int.mul 4 3)) y) = 12 * y := wid_i64 (n := 12 * y) (by omega) (by omega)
  have b2 : wrapF .i64 (Int.mul 4 x) = 4 * x := wid_i64 (n := 4 * x) (by omega) (by omega)
  have b3 : wrapF .i64 (Int.add (12 * y) (4 * x)) = 4 * (y * 3 + x) := by
    rw [show Int.add (12 * y) (4 * x) = 4 * (y * 3 + x) by show 12 * y + 4 * x = _; omega]
    exact wid_i64 (n := 4 * (y * 3 + x)) (by omega) (by omega)
  constructor
  · show (match ltI q 4 with | true => _ | false => _) = _
    rw [lt_tt q1]
    show (match ltI x (-4096) with | true => _ | false => _) = _
    rw [lt_ff (show -4096 ≤ x by omega), lt_ff (show x ≤ 4096 by omega), lt_ff (show -4096 ≤ y by omega), lt_ff (show y ≤ 4096 by omega), lt_ff x0, lt_tt x1, lt_ff y0, lt_tt y1]
    show Value.tuple ⟨[.int .i64 (wrapF .i64 (Int.add (wrapF .i64 (Int.mul 4 (wrapF .i64 (Int.add (wrapF .i64 (Int.mul y 3)) x)))) q)), .int .i64 0]⟩ = _
    rw [a1, a2, a3, a4]
  · unfold F13
    repeat' split
    all_goals first | (exfalso; simp only [ltI_eq, decide_eq_true_eq, decide_eq_false_iff_not] at *; omega) | (rw [b1, b2, b3, a4])

theorem ca_4_1 (i : Int) (h1 : i < 0 ∨ 16 ≤ i) : F11 4 1 i = .tuple ⟨[.agg ⟨[.int .i64 0, .int .i64 0, .int .u8 0]⟩, .int .i64 7]⟩ := by
  show (match ltI i 0 with | true => _ | false => (match ltI i 16 with | true => _ | false => _)) = _
  rcases h1 with h1 | h1
  · rw [lt_tt h1]
  · rw [lt_ff (show 0 ≤ i by omega), lt_ff h1]
theorem cb_4_1 (i : Int) (h1 : 0 ≤ i) (h2 : i < 16) : F11 4 1 i = .tuple ⟨[.agg ⟨[.int .i64 ((i / 4) % 4), .int .i64 ((i / 4) / 4), .int .u8 (wrapF .u8 (i % 4))]⟩, .int .i64 0]⟩ := by
  show (match ltI i 0 with | true => _ | false => (match ltI i 16 with | true => _ | false => _)) = _
  rw [lt_ff h1, lt_tt h2]
theorem cc_4_1 (x y q : Int) (h1 : ¬ (0 ≤ x ∧ x < 4 ∧ 0 ≤ y ∧ y < 1 ∧ q < 4)) : F12 4 1 x y q = .tuple ⟨[.int .i64 0, .int .i64 7]⟩ ∧ (0 ≤ q → F13 4 1 x y q = .int .i64 (-1)) := by
  constructor
  · show (match ltI q 4 with | true => _ | false => _) = _
    repeat' split
    all_goals first | rfl | (exfalso; simp only [ltI_eq, decide_eq_true_eq, decide_eq_false_iff_not] at *; omega)
  · intro hq
    unfold F13
    repeat' split
    all_goals first | rfl | (exfalso; simp only [ltI_eq, decide_eq_true_eq, decide_eq_false_iff_not] at *; omega)
theorem cd_4_1 (x y q : Int) (h1 : 0 ≤ x ∧ x < 4 ∧ 0 ≤ y ∧ y < 1 ∧ q < 4) (hq : 0 ≤ q) : F12 4 1 x y q = .tuple ⟨[.int .i64 (4 * (y * 4 + x) + q), .int .i64 0]⟩ ∧ F13 4 1 x y q = .int .i64 (4 * (y * 4 + x) + q) := by
  obtain ⟨x0, x1, y0, y1, q1⟩ := h1
  have a1 : wrapF .i64 (Int.mul y 4) = y * 4 := wid_i64 (n := y * 4) (by omega) (by omega)
  have a2 : wrapF .i64 (Int.add (y * 4) x) = y * 4 + x := wid_i64 (n := y * 4 + x) (by omega) (by omega)
  have a3 : wrapF .i64 (Int.mul 4 (y * 4 + x)) = 4 * (y * 4 + x) := wid_i64 (n := 4 * (y * 4 + x)) (by omega) (by omega)
  have a4 : wrapF .i64 (Int.add (4 * (y * 4 + x)) q) = 4 * (y * 4 + x) + q := wid_i64 (n := 4 * (y * 4 + x) + q) (by omega) (by omega)
  have b1 : wrapF .i64 (Int.mul (wrapF .i64 (Int.mul 4 4)) y) = 16 * y := wid_i64 (n := 16 * y) (by omega) (by omega)
  have b2 : wrapF .i64 (Int.mul 4 x) = 4 * x := wid_i64 (n := 4 * x) (by omega) (by omega)
  have b3 : wrapF .i64 (Int.add (16 * y) (4 * x)) = 4 * (y * 4 + x) := by
    rw [show Int.add (16 * y) (4 * x) = 4 * (y * 4 + x) by show 16 * y + 4 * x = _; omega]
    exact wid_i64 (n := 4 * (y * 4 + x)) (by omega) (by omega)
  constructor
  · show (match ltI q 4 with | true => _ | false => _) = _
    rw [lt_tt q1]
    show (match ltI x (-4096) with | true => _ | false => _) = _
    rw [lt_ff (show -4096 ≤ x by omega), lt_ff (show x ≤ 4096 by omega), lt_ff (show -4096 ≤ y by omega), lt_ff (show y ≤ 4096 by omega), lt_ff x0, lt_tt x1, lt_ff y0, lt_tt y1]
    show Value.tuple ⟨[.int .i64 (wrapF .i64 (Int.add (wrapF .i64 (Int.mul 4 (wrapF .i64 (Int.add (wrapF .i64 (Int.mul y 4)) x)))) q)), .int .i64 0]⟩ = _
    rw [a1, a2, a3, a4]
  · unfold F13
    repeat' split
    all_goals first | (exfalso; simp only [ltI_eq, decide_eq_true_eq, decide_eq_false_iff_not] at *; omega) | (rw [b1, b2, b3, a4])

theorem ca_4_2 (i : Int) (h1 : i < 0 ∨ 32 ≤ i) : F11 4 2 i = .tuple ⟨[.agg ⟨[.int .i64 0, .int .i64 0, .int .u8 0]⟩, .int .i64 7]⟩ := by
  show (match ltI i 0 with | true => _ | false => (match ltI i 32 with | true => _ | false => _)) = _
  rcases h1 with h1 | h1
  · rw [lt_tt h1]
  · rw [lt_ff (show 0 ≤ i by omega), lt_ff h1]
theorem cb_4_2 (i : Int) (h1 : 0 ≤ i) (h2 : i < 32) : F11 4 2 i = .tuple ⟨[.agg ⟨[.int .i64 ((i / 4) % 4), .int .i64 ((i / 4) / 4), .int .u8 (wrapF .u8 (i % 4))]⟩, .int .i64 0]⟩ := by
  show (match ltI i 0 with | true => _ | false => (match ltI i 32 with | true => _ | false => _)) = _
  rw [lt_ff h1, lt_tt h2]
theorem cc_4_2 (x y q : Int) (h1 : ¬ (0 ≤ x ∧ x < 4 ∧ 0 ≤ y ∧ y < 2 ∧ q < 4)) : F12 4 2 x y q = .tuple ⟨[.int .i64 0, .int .i64 7]⟩ ∧ (0 ≤ q → F13 4 2 x y q = .int .i64 (-1)) := by
  constructor
  · show (match ltI q 4 with | true => _ | false => _) = _
    repeat' split
    all_goals first | rfl | (exfalso; simp only [ltI_eq, decide_eq_true_eq, decide_eq_false_iff_not] at *; omega)
  · intro hq
    unfold F13
    repeat' split
    all_goals first | rfl | (exfalso; simp only [ltI_eq, decide_eq_true_eq, decide_eq_false_iff_not] at *; omega)
theorem cd_4_2 (x y q : Int) (h1 : 0 ≤ x ∧ x < 4 ∧ 0 ≤ y ∧ y < 2 ∧ q < 4) (hq : 0 ≤ q) : F12 4 2 x y q = .tuple ⟨[.int .i64 (4 * (y * 4 + x) + q), .int .i64 0]⟩ ∧ F13 4 2 x y q = .int .i64 (4 * (y * 4 + x) + q) := by
  obtain ⟨x0, x1, y0, y1, q1⟩ := h1
  have a1 : wrapF .i64 (Int.mul y 4) = y * 4 := wid_i64 (n := y * 4) (by omega) (by omega)
  have a2 : wrapF .i64 (Int.add (y * 4) x) = y * 4 + x := wid_i64 (n := y * 4 + x) (by omega) (by omega)
  have a3 : wrapF .i64 (Int.mul 4 (y * 4 + x)) = 4 * (y * 4 + x) := wid_i64 (n := 4 * (y * 4 + x)) (by omega) (by omega)
  have a4 : wrapF .i64 (Int.add (4 * (y * 4 + x)) q) = 4 * (y * 4 + x) + q := wid_i64 (n := 4 * (y * 4 + x) + q) (by omega) (by omega)
  have b1 : wrapF .i64 (Int.mul (wrapF .i64 (Int.mul 4 4)) y) = 16 * y := wid_i64 (n := 16 * y) (by omega) (by omega)
  have b2 : wrapF .i64 (Int.mul 4 x) = 4 * x := wid_i64 (n := 4 * x) (by omega) (by omega)
  have b3 : wrapF .i64 (Int.add (16 * y) (4 * x)) = 4 * (y * 4 + x) := by
    rw [show Int.add (16 * y) (4 * x) = 4 * (y * 4 + x) by show 16 * y + 4 * x = _; omega]
    exact wid_i64 (n := 4 * (y * 4 + x)) (by omega) (by omega)
  constructor
  · show (match ltI q 4 with | true => _ | false => _) = _
    rw [lt_tt q1]
    show (match ltI x (-4096) with | true => _ | false => _) = _
    rw [lt_ff (show -4096 ≤ x by omega), lt_ff (show x ≤ 4096 by omega), lt_ff (show -4096 ≤ y by omega), lt_ff (show y ≤ 4096 by omega), lt_ff x0, lt_tt x1, lt_ff y0, lt_tt y1]
    show Value.tuple ⟨[.int .i64 (wrapF .i64 (Int.add (wrapF .i64 (Int.mul 4 (wrapF .i64 (Int.add (wrapF .i64 (Int.mul y 4)) x)))) q)), .int .i64 0]⟩ = _
    rw [a1, a2, a3, a4]
  · unfold F13
    repeat' split
    all_goals first | (exfalso; simp only [ltI_eq, decide_eq_true_eq, decide_eq_false_iff_not] at *; omega) | (rw [b1, b2, b3, a4])

theorem ca_4_3 (i : Int) (h1 : i < 0 ∨ 48 ≤ i) : F11 4 3 i = .tuple ⟨[.agg ⟨[.int .i64 0, .int .i64 0, .int .u8 0]⟩, .int .i64 7]⟩ := by
  show (match ltI i 0 with | true => _ | false => (match ltI i 48 with | true => _ | false => _)) = _
  rcases h1 with h1 | h1
  · rw [lt_tt h1]
  · rw [lt_ff (show 0 ≤ i by omega), lt_ff h1]
theorem cb_4_3 (i : Int) (h1 : 0 ≤ i) (h2 : i < 48) : F11 4 3 i = .tuple ⟨[.agg ⟨[.int .i64 ((i / 4) % 4), .int .i64 ((i / 4) / 4), .int .u8 (wrapF .u8 (i % 4))]⟩, .int .i64 0]⟩ := by
  show (match ltI i 0 with | true => _ | false => (match ltI i 48 with | true => _ | false => _)) = _
  rw [lt_ff h1, lt_tt h2]
theorem cc_4_3 (x y q : Int) (h1 : ¬ (0 ≤ x ∧ x < 4 ∧ 0 ≤ y ∧ y < 3 ∧ q < 4)) : F12 4 3 x y q = .tuple ⟨[.int .i64 0, .int .i64 7]⟩ ∧ (0 ≤ q → F13 4 3 x y q = .int .i64 (-1)) := by
  constructor
  · show (match ltI q 4 with | true => _ | false => _) = _
    repeat' split
    all_goals first | rfl | (exfalso; simp only [ltI_eq, decide_eq_true_eq, decide_eq_false_iff_not] at *; omega)
  · intro hq
    unfold F13
    repeat' split
    all_goals first | rfl | (exfalso; simp only [ltI_eq, decide_eq_true_eq, decide_eq_false_iff_not] at *; omega)
theorem cd_4_3 (x y q : Int) (h1 : 0 ≤ x ∧ x < 4 ∧ 0 ≤ y ∧ y < 3 ∧ q < 4) (hq : 0 ≤ q) : F12 4 3 x y q = .tuple ⟨[.int .i64 (4 * (y * 4 + x) + q), .int .i64 0]⟩ ∧ F13 4 3 x y q = .int .i64 (4 * (y * 4 + x) + q) := by
  obtain ⟨x0, x1, y0, y1, q1⟩ := h1
  have a1 : wrapF .i64 (Int.mul y 4) = y * 4 := wid_i64 (n := y * 4) (by omega) (by omega)
  have a2 : wrapF .i64 (Int.add (y * 4) x) = y * 4 + x := wid_i64 (n := y * 4 + x) (by omega) (by omega)
  have a3 : wrapF .i64 (Int.mul 4 (y * 4 + x)) = 4 * (y * 4 + x) := wid_i64 (n := 4 * (y * 4 + x)) (by omega) (by omega)
  have a4 : wrapF .i64 (Int.add (4 * (y * 4 + x)) q) = 4 * (y * 4 + x) + q := wid_i64 (n := 4 * (y * 4 + x) + q) (by omega) (by omega)
  have b1 : wrapF .i64 (Int.mul (wrapF .i64 (Int.mul 4 4)) y) = 16 * y := wid_i64 (n := 16 * y) (by omega) (by omega)
  have b2 : wrapF .i64 (Int.mul 4 x) = 4 * x := wid_i64 (n := 4 * x) (by omega) (by omega)
  have b3 : wrapF .i64 (Int.add (16 * y) (4 * x)) = 4 * (y * 4 + x) := by
    rw [show Int.add (16 * y) (4 * x) = 4 * (y * 4 + x) by show 16 * y + 4 * x = _; omega]
    exact wid_i64 (n := 4 * (y * 4 + x)) (by omega) (by omega)
  constructor
  · show (match ltI q 4 with | true => _ | false => _) = _
    rw [lt_tt q1]
    show (match ltI x (-4096) with | true => _ | false => _) = _
    rw [lt_ff (show -4096 ≤ x by omega), lt_ff (show x ≤ 4096 by omega), lt_ff (show -4096 ≤ y by omega), lt_ff (show y ≤ 4096 by omega), lt_ff x0, lt_tt x1, lt_ff y0, lt_tt y1]
    show Value.tuple ⟨[.int .i64 (wrapF .i64 (Int.add (wrapF .i64 (Int.mul 4 (wrapF .i64 (Int.add (wrapF .i64 (Int.mul y 4)) x)))) q)), .int .i64 0]⟩ = _
    rw [a1, a2, a3, a4]
  · unfold F13
    repeat' split
    all_goals first | (exfalso; simp only [ltI_eq, decide_eq_true_eq, decide_eq_false_iff_not] at *; omega) | (rw [b1, b2, b3, a4])

theorem ca_4_4 (i : Int) (h1 : i < 0 ∨ 64 ≤ i) : F11 4 4 i = .tuple ⟨[.agg ⟨[.int .i64 0, .int .i64 0, .int .u8 0]⟩, .int .i64 7]⟩ := by
  show (match ltI i 0 with | true => _ | false => (match ltI i 64 with | true => _ | false => _)) = _
  rcases h1 with h1 | h1
  · rw [lt_tt h1]
  · rw [lt_ff (show 0 ≤ i by omega), lt_ff h1]
theorem cb_4_4 (i : Int) (h1 : 0 ≤ i) (h2 : i < 64) : F11 4 4 i = .tuple ⟨[.agg ⟨[.int .i64 ((i / 4) % 4), .int .i64 ((i / 4) / 4), .int .u8 (wrapF .u8 (i % 4))]⟩, .int .i64 0]⟩ := by
  show (match ltI i 0 with | true => _ | false => (match ltI i 64 with | true => _ | false => _)) = _
  rw [lt_ff h1, lt_tt h2]
theorem cc_4_4 (x y q : Int) (h1 : ¬ (0 ≤ x ∧ x < 4 ∧ 0 ≤ y ∧ y < 4 ∧ q < 4)) : F12 4 4 x y q = .tuple ⟨[.int .i64 0, .int .i64 7]⟩ ∧ (0 ≤ q → F13 4 4 x y q = .int .i64 (-1)) := by
  constructor
  · show (match ltI q 4 with | true => _ | false => _) = _
    repeat' split
    all_goals first | rfl | (exfalso; simp only [ltI_eq, decide_eq_true_eq, decide_eq_false_iff_not] at *; omega)
  · intro hq
    unfold F13
    repeat' split
    all_goals first | rfl | (exfalso; simp only [ltI_eq, decide_eq_true_eq, decide_eq_false_iff_not] at *; omega)
theorem cd_4_4 (x y q : Int) (h1 : 0 ≤ x ∧ x < 4 ∧ 0 ≤ y ∧ y < 4 ∧ q < 4) (hq : 0 ≤ q) : F12 4 4 x y q = .tuple ⟨[.int .i64 (4 * (y * 4 + x) + q), .int .i64 0]⟩ ∧ F13 4 4 x y q = .int .i64 (4 * (y * 4 + x) + q) := by
  obtain ⟨x0, x1, y0, y1, q1⟩ := h1
  have a1 : wrapF .i64 (Int.mul y 4) = y * 4 := wid_i64 (n := y * 4) (by omega) (by omega)
  have a2 : wrapF .i64 (Int.add (y * 4) x) = y * 4 + x := wid_i64 (n := y * 4 + x) (by omega) (by omega)
  have a3 : wrapF .i64 (Int.mul 4 (y * 4 + x)) = 4 * (y * 4 + x) := wid_i64 (n := 4 * (y * 4 + x)) (by omega) (by omega)
  have a4 : wrapF .i64 (Int.add (4 * (y * 4 + x)) q) = 4 * (y * 4 + x) + q := wid_i64 (n := 4 * (y * 4 + x) + q) (by omega) (by omega)
  have b1 : wrapF .i64 (Int.mul (wrapF .i64 (Int.mul 4 4)) y) = 16 * y := wid_i64 (n := 16 * y) (by omega) (by omega)
  have b2 : wrapF .i64 (Int.mul 4 x) = 4 * x := wid_i64 (n := 4 * x) (by omega) (by omega)
  have b3 : wrapF .i64 (Int.add (16 * y) (4 * x)) = 4 * (y * 4 + x) := by
    rw [show Int.add (16 * y) (4 * x) = 4 * (y * 4 + x) by show 16 * y + 4 * x = _; omega]
    exact wid_i64 (n := 4 * (y * 4 + x)) (by omega) (by omega)
  constructor
  · show (match ltI q 4 with | true => _ | false => _) = _
    rw [lt_tt q1]
    show (match ltI x (-4096) with | true => _ | false => _) = _
    rw [lt_ff (show -4096 ≤ x by omega), lt_ff (show x ≤ 4096 by omega), lt_ff (show -4096 ≤ y by omega), lt_ff (show y ≤ 4096 by omega), lt_ff x0, lt_tt x1, lt_ff y0, lt_tt y1]
    show Value.tuple ⟨[.int .i64 (wrapF .i64 (Int.add (wrapF .i64 (Int.mul 4 (wrapF .i64 (Int.add (wrapF .i64 (Int.mul y 4)) x)))) q)), .int .i64 0]⟩ = _
    rw [a1, a2, a3, a4]
  · unfold F13
    repeat' split
    all_goals first | (exfalso; simp only [ltI_eq, decide_eq_true_eq, decide_eq_false_iff_not] at *; omega) | (rw [b1, b2, b3, a4])

theorem ca_4_5 (i : Int) (h1 : i < 0 ∨ 80 ≤ i) : F11 4 5 i = .tuple ⟨[.agg ⟨[.int .i64 0, .int .i64 0, .int .u8 0]⟩, .int .i64 7]⟩ := by
  show (match ltI i 0 with | true => _ | false => (match ltI i 80 with | true => _ | false => _)) = _
  rcases h1 with h1 | h1
  · rw [lt_tt h1]
  · rw [lt_ff (show 0 ≤ i by omega), lt_ff h1]
theorem cb_4_5 (i : Int) (h1 : 0 ≤ i) (h2 : i < 80) : F11 4 5 i = .tuple ⟨[.agg ⟨[.int .i64 ((i / 4) % 4), .int .i64 ((i / 4) / 4), .int .u8 (wrapF .u8 (i % 4))]⟩, .int .i64 0]⟩ := by
  show (match ltI i 0 with | true => _ | false => (match ltI i 80 with | true => _ | false => _)) = _
  rw [lt_ff h1, lt_tt h2]
theorem cc_4_5 (x y q : Int) (h1 : ¬ (0 ≤ x ∧ x < 4 ∧ 0 ≤ y ∧ y < 5 ∧ q < 4)) : F12 4 5 x y q = .tuple ⟨[.int .i64 0, .int .i64 7]⟩ ∧ (0 ≤ q → F13 4 5 x y q = .int .i64 (-1)) := by
  constructor
  · show (match ltI q 4 with | true => _ | false => _) = _
    repeat' split
    all_goals first | rfl | (exfalso; simp only [ltI_eq, decide_eq_true_eq, decide_eq_false_iff_not] at *; omega)
  · intro hq
    unfold F13
    repeat' split
    all_goals first | rfl | (exfalso; simp only [ltI_eq, decide_eq_true_eq, decide_eq_false_iff_not] at *; omega)
theorem cd_4_5 (x y q : Int) (h1 : 0 ≤ x ∧ x < 4 ∧ 0 ≤ y ∧ y < 5 ∧ q < 4) (hq : 0 ≤ q) : F12 4 5 x y q = .tuple ⟨[.int .i64 (4 * (y * 4 + x) + q), .int .i64 0]⟩ ∧ F13 4 5 x y q = .int .i64 (4 * (y * 4 + x) + q) := by
  obtain ⟨x0, x1, y0, y1, q1⟩ := h1
  have a1 : wrapF .i64 (Int.mul y 4) = y * 4 := wid_i64 (n := y * 4) (by omega) (by omega)
  have a2 : wrapF .i64 (Int.add (y * 4) x) = y * 4 + x := wid_i64 (n := y * 4 + x) (by omega) (by omega)
  have a3 : wrapF .i64 (Int.mul 4 (y * 4 + x)) = 4 * (y * 4 + x) := wid_i64 (n := 4 * (y * 4 + x)) (by omega) (by omega)
  have a4 : wrapF .i64 (Int.add (4 * (y * 4 + x)) q) = 4 * (y * 4 + x) + q := wid_i64 (n := 4 * (y * 4 + x) + q) (by omega) (by omega)
  have b1 : wrapF .i64 (Int.mul (wrapF .i64 (Int.mul 4 4)) y) = 16 * y := wid_i64 (n := 16 * y) (by omega) (by omega)
  have b2 : wrapF .i64 (Int.mul 4 x) = 4 * x := wid_i64 (n := 4 * x) (by omega) (by omega)
  have b3 : wrapF .i64 (Int.add (16 * y) (4 * x)) = 4 * (y * 4 + x) := by
    rw [show Int.add (16 * y) (4 * x) = 4 * (y * 4 + x) by show 16 * y + 4 * x = _; omega]
    exact wid_i64 (n := 4 * (y * 4 + x)) (by omega) (by omega)
  constructor
  · show (match ltI q 4 with | true => _ | false => _) = _
    rw [lt_tt q1]
    show (match ltI x (-4096) with | true => _ | false => _) = _
    rw [lt_ff (show -4096 ≤ x by omega), lt_ff (show x ≤ 4096 by omega), lt_ff (show -4096 ≤ y by omega), lt_ff (show y ≤ 4096 by omega), lt_ff x0, lt_tt x1, lt_ff y0, lt_tt y1]
    show Value.tuple ⟨[.int .i64 (wrapF .i64 (Int.add (wrapF .i64 (Int.mul 4 (wrapF .i64 (Int.add (wrapF .i64 (Int.mul y 4)) x)))) q)), .int .i64 0]⟩ = _
    rw [a1, a2, a3, a4]
  · unfold F13
    repeat' split
    all_goals first | (exfalso; simp only [ltI_eq, decide_eq_true_eq, decide_eq_false_iff_not] at *; omega) | (rw [b1, b2, b3, a4])

theorem ca_5_1 (i : Int) (h1 : i < 0 ∨ 20 ≤ i) : F11 5 1 i = .tuple ⟨[.agg ⟨[.int .i64 0, .int .i64 0, .int .u8 0]⟩, .int .i64 7]⟩ := by
  show (match ltI i 0 with | true => _ | false => (match ltI i 20 with | true => _ | false => _)) = _
  rcases h1 with h1 | h1
  · rw [lt_tt h1]
  · rw [lt_ff (show 0 ≤ i by omega), lt_ff h1]
theorem cb_5_1 (i : Int) (h1 : 0 ≤ i) (h2 : i < 20) : F11 5 1 i = .tuple ⟨[.agg ⟨[.int .i64 ((i / 4) % 5), .int .i64 ((i / 4) / 5), .int .u8 (wrapF .u8 (i % 4))]⟩, .int .i64 0]⟩ := by
  show (match ltI i 0 with | true => _ | false => (match ltI i 20 with | true => _ | false => _)) = _
  rw [lt_ff h1, lt_tt h2]
theorem cc_5_1 (x y q : Int) (h1 : ¬ (0 ≤ x ∧ x < 5 ∧ 0 ≤ y ∧ y < 1 ∧ q < 4)) : F12 5 1 x y q = .tuple ⟨[.int .i64 0, .int .i64 7]⟩ ∧ (0 ≤ q → F13 5 1 x y q = .int .i64 (-1)) := by
  constructor
  · show (match ltI q 4 with | true => _ | false => _) = _
    repeat' split
    all_goals first | rfl | (exfalso; simp only [ltI_eq, decide_eq_true_eq, decide_eq_false_iff_not] at *; omega)
  · intro hq
    unfold F13
    repeat' split
    all_goals first | rfl | (exfalso; simp only [ltI_eq, decide_eq_true_eq, decide_eq_false_iff_not] at *; omega)
theorem cd_5_1 (x y q : Int) (h1 : 0 ≤ x ∧ x < 5 ∧ 0 ≤ y ∧ y < 1 ∧ q < 4) (hq : 0 ≤ q) : F12 5 1 x y q = .tuple ⟨[.int .i64 (4 * (y * 5 + x) + q), .int .i64 0]⟩ ∧ F13 5 1 x y q = .int .i64 (4 * (y * 5 + x) + q) := by
  obtain ⟨x0, x1, y0, y1, q1⟩ := h1
  have a1 : wrapF .i64 (Int.mul y 5) = y * 5 := wid_i64 (n := y * 5) (by omega) (by omega)
  have a2 : wrapF .i64 (Int.add (y * 5) x) = y * 5 + x := wid_i64 (n := y * 5 + x) (by omega) (by omega)
  have a3 : wrapF .i64 (Int.mul 4 (y * 5 + x)) = 4 * (y * 5 + x) := wid_i64 (n := 4 * (y * 5 + x)) (by omega) (by omega)
  have a4 : wrapF .i64 (Int.add (4 * (y * 5 + x)) q) = 4 * (y * 5 + x) + q := wid_i64 (n := 4 * (y * 5 + x) + q) (by omega) (by omega)
  have b1 : wrapF .i64 (Int.mul (wrapF .i64 (Int.mul 4 5)) y) = 20 * y := wid_i64 (n := 20 * y) (by omega) (by omega)
  have b2 : wrapF .i64 (Int.mul 4 x) = 4 * x := wid_i64 (n := 4 * x) (by omega) (by omega)
  have b3 : wrapF .i64 (Int.add (20 * y) (4 * x)) = 4 * (y * 5 + x) := by
    rw [show Int.add (20 * y) (4 * x) = 4 * (y * 5 + x) by show 20 * y + 4 * x = _; omega]
    exact wid_i64 (n := 4 * (y * 5 + x)) (by omega) (by omega)
  constructor
  · show (match ltI q 4 with | true => _ | false => _) = _
    rw [lt_tt q1]
    show (match ltI x (-4096) with | true => _ | false => _) = _
    rw [lt_ff (show -4096 ≤ x by omega), lt_ff (show x ≤ 4096 by omega), lt_ff (show -4096 ≤ y by omega), lt_ff (show y ≤ 4096 by omega), lt_ff x0, lt_tt x1, lt_ff y0, lt_tt y1]
    show Value.tuple ⟨[.int .i64 (wrapF .i64 (Int.add (wrapF .i64 (Int.mul 4 (wrapF .i64 (Int.add (wrapF .i64 (Int.mul y 5)) x)))) q)), .int .i64 0]⟩ = _
    rw [a1, a2, a3, a4]
  · unfold F13
    repeat' split
    all_goals first | (exfalso; simp only [ltI_eq, decide_eq_true_eq, decide_eq_false_iff_not] at *; omega) | (rw [b1, b2, b3, a4])

theorem ca_5_2 (i : Int) (h1 : i < 0 ∨ 40 ≤ i) : F11 5 2 i = .tuple ⟨[.agg ⟨[.int .i64 0, .int .i64 0, .int .u8 0]⟩, .int .i64 7]⟩ := by
  show (match ltI i 0 with | true => _ | false => (match ltI i 40 with | true => _ | false => _)) = _
  rcases h1 with h1 | h1
  · rw [lt_tt h1]
  · rw [lt_ff (show 0 ≤ i by omega), lt_ff h1]
theorem cb_5_2 (i : Int) (h1 : 0 ≤ i) (h2 : i < 40) : F11 5 2 i = .tuple ⟨[.agg ⟨[.int .i64 ((i / 4) % 5), .int .i64 ((i / 4) / 5), .int .u8 (wrapF .u8 (i % 4))]⟩, .int .i64 0]⟩ := by
  show (match ltI i 0 with | true => _ | false => (match ltI i 40 with | true => _ | false => _)) = _
  rw [lt_ff h1, lt_tt h2]
theorem cc_5_2 (x y q : Int) (h1 : ¬ (0 ≤ x ∧ x < 5 ∧ 0 ≤ y ∧ y < 2 ∧ q < 4)) : F12 5 2 x y q = .tuple ⟨[.int .i64 0, .int .i64 7]⟩ ∧ (0 ≤ q → F13 5 2 x y q = .int .i64 (-1)) := by
  constructor
  · show (match ltI q 4 with | true => _ | false => _) = _
    repeat' split
    all_goals first | rfl | (exfalso; simp only [ltI_eq, decide_eq_true_eq, decide_eq_false_iff_not] at *; omega)
  · intro hq
    unfold F13
    repeat' split
    all_goals first | rfl | (exfalso; simp only [ltI_eq, decide_eq_true_eq, decide_eq_false_iff_not] at *; omega)
theorem cd_5_2 (x y q : Int) (h1 : 0 ≤ x ∧ x < 5 ∧ 0 ≤ y ∧ y < 2 ∧ q < 4) (hq : 0 ≤ q) : F12 5 2 x y q = .tuple ⟨[.int .i64 (4 * (y * 5 + x) + q), .int .i64 0]⟩ ∧ F13 5 2 x y q = .int .i64 (4 * (y * 5 + x) + q) := by
  obtain ⟨x0, x1, y0, y1, q1⟩ := h1
  have a1 : wrapF .i64 (Int.mul y 5) = y * 5 := wid_i64 (n := y * 5) (by omega) (by omega)
  have a2 : wrapF .i64 (Int.add (y * 5) x) = y * 5 + x := wid_i64 (n := y * 5 + x) (by omega) (by omega)
  have a3 : wrapF .i64 (Int.mul 4 (y * 5 + x)) = 4 * (y * 5 + x) := wid_i64 (n := 4 * (y * 5 + x)) (by omega) (by omega)
  have a4 : wrapF .i64 (Int.add (4 * (y * 5 + x)) q) = 4 * (y * 5 + x) + q := wid_i64 (n := 4 * (y * 5 + x) + q) (by omega) (by omega)
  have b1 : wrapF .i64 (Int.mul (wrapF .i64 (Int.mul 4 5)) y) = 20 * y := wid_i64 (n := 20 * y) (by omega) (by omega)
  have b2 : wrapF .i64 (Int.mul 4 x) = 4 * x := wid_i64 (n := 4 * x) (by omega) (by omega)
  have b3 : wrapF .i64 (Int.add (20 * y) (4 * x)) = 4 * (y * 5 + x) := by
    rw [show Int.add (20 * y) (4 * x) = 4 * (y * 5 + x) by show 20 * y + 4 * x = _; omega]
    exact wid_i64 (n := 4 * (y * 5 + x)) (by omega) (by omega)
  constructor
  · show (match ltI q 4 with | true => _ | false => _) = _
    rw [lt_tt q1]
    show (match ltI x (-4096) with | true => _ | false => _) = _
    rw [lt_ff (show -4096 ≤ x by omega), lt_ff (show x ≤ 4096 by omega), lt_ff (show -4096 ≤ y by omega), lt_ff (show y ≤ 4096 by omega), lt_ff x0, lt_tt x1, lt_ff y0, lt_tt y1]
    show Value.tuple ⟨[.int .i64 (wrapF .i64 (Int.add (wrapF .i64 (Int.mul 4 (wrapF .i64 (Int.add (wrapF .i64 (Int.mul y 5)) x)))) q)), .int .i64 0]⟩ = _
    rw [a1, a2, a3, a4]
  · unfold F13
    repeat' split
    all_goals first | (exfalso; simp only [ltI_eq, decide_eq_true_eq, decide_eq_false_iff_not] at *; omega) | (rw [b1, b2, b3, a4])

theorem ca_5_3 (i : Int) (h1 : i < 0 ∨ 60 ≤ i) : F11 5 3 i = .tuple ⟨[.agg ⟨[.int .i64 0, .int .i64 0, .int .u8 0]⟩, .int .i64 7]⟩ := by
  show (match ltI i 0 with | true => _ | false => (match ltI i 60 with | true => _ | false => _)) = _
  rcases h1 with h1 | h1
  · rw [lt_tt h1]
  · rw [lt_ff (show 0 ≤ i by omega), lt_ff h1]
theorem cb_5_3 (i : Int) (h1 : 0 ≤ i) (h2 : i < 60) : F11 5 3 i = .tuple ⟨[.agg ⟨[.int .i64 ((i / 4) % 5), .int .i64 ((i / 4) / 5), .int .u8 (wrapF .u8 (i % 4))]⟩, .int .i64 0]⟩ := by
  show (match ltI i 0 with | true => _ | false => (match ltI i 60 with | true => _ | false => _)) = _
  rw [lt_ff h1, lt_tt h2]
theorem cc_5_3 (x y q : Int) (h1 : ¬ (0 ≤ x ∧ x < 5 ∧ 0 ≤ y ∧ y < 3 ∧ q < 4)) : F12 5 3 x y q = .tuple ⟨[.int .i64 0, .int .i64 7]⟩ ∧ (0 ≤ q → F13 5 3 x y q = .int .i64 (-1)) := by
  constructor
  · show (match ltI q 4 with | true => _ | false => _) = _
    repeat' split
    all_goals first | rfl | (exfalso; simp only [ltI_eq, decide_eq_true_eq, decide_eq_false_iff_not] at *; omega)
  · intro hq
    unfold F13
    repeat' split
    all_goals first | rfl | (exfalso; simp only [ltI_eq, decide_eq_true_eq, decide_eq_false_iff_not] at *; omega)
theorem cd_5_3 (x y q : Int) (h1 : 0 ≤ x ∧ x < 5 ∧ 0 ≤ y ∧ y < 3 ∧ q < 4) (hq : 0 ≤ q) : F12 5 3 x y q = .tuple ⟨[.int .i64 (4 * (y * 5 + x) + q), .int .i64 0]⟩ ∧ F13 5 3 x y q = .int .i64 (4 * (y * 5 + x) + q) := by
  obtain ⟨x0, x1, y0, y1, q1⟩ := h1
  have a1 : wrapF .i64 (Int.mul y 5) = y * 5 := wid_i64 (n := y * 5) (by omega) (by omega)
  have a2 : wrapF .i64 (Int.add (y * 5) x) = y * 5 + x := wid_i64 (n := y * 5 + x) (by omega) (by omega)
  have a3 : wrapF .i64 (Int.mul 4 (y * 5 + x)) = 4 * (y * 5 + x) := wid_i64 (n := 4 * (y * 5 + x)) (by omega) (by omega)
  have a4 : wrapF .i64 (Int.add (4 * (y * 5 + x)) q) = 4 * (y * 5 + x) + q := wid_i64 (n := 4 * (y * 5 + x) + q) (by omega) (by omega)
  have b1 : wrapF .i64 (Int.mul (wrapF .i64 (Int.mul 4 5)) y) = 20 * y := wid_i64 (n := 20 * y) (by omega) (by omega)
  have b2 : wrapF .i64 (Int.mul 4 x) = 4 * x := wid_i64 (n := 4 * x) (by omega) (by omega)
  have b3 : wrapF .i64 (Int.add (20 * y) (4 * x)) = 4 * (y * 5 + x) := by
    rw [show Int.add (20 * y) (4 * x) = 4 * (y * 5 + x) by show 20 * y + 4 * x = _; omega]
    exact wid_i64 (n := 4 * (y * 5 + x)) (by omega) (by omega)
  constructor
  · show (match ltI q 4 with | true => _ | false => _) = _
    rw [lt_tt q1]
    show (match ltI x (-4096) with | true => _ | false => _) = _
    rw [lt_ff (show -4096 ≤ x by omega), lt_ff (show x ≤ 4096 by omega), lt_ff (show -4096 ≤ y by omega), lt_ff (show y ≤ 4096 by omega), lt_ff x0, lt_tt x1, lt_ff y0, lt_tt y1]
    show Value.tuple ⟨[.int .i64 (wrapF .i64 (Int.add (wrapF .i64 (Int.mul 4 (wrapF .i64 (Int.add (wrapF .i64 (Int.mul y 5)) x)))) q)), .int .i64 0]⟩ = _
    rw [a1, a2, a3, a4]
  · unfold F13
    repeat' split
    all_goals first | (exfalso; simp only [ltI_eq, decide_eq_true_eq, decide_eq_false_iff_not] at *; omega) | (rw [b1, b2, b3, a4])

theorem ca_5_4 (i : Int) (h1 : i < 0 ∨ 80 ≤ i) : F11 5 4 i = .tuple ⟨[.agg ⟨[.int .i64 0, .int .i64 0, .int .u8 0]⟩, .int .i64 7]⟩ := by
  show (match ltI i 0 with | true => _ | false => (match ltI i 80 with | true => _ | false => _)) = _
  rcases h1 with h1 | h1
  · rw [lt_tt h1]
  · rw [lt_ff (show 0 ≤ i by omega), lt_ff h1]
theorem cb_5_4 (i : Int) (h1 : 0 ≤ i) (h2 : i < 80) : F11 5 4 i = .tuple ⟨[.agg ⟨[.int .i64 ((i / 4) % 5), .int .i64 ((i / 4) / 5), .int .u8 (wrapF .u8 (i % 4))]⟩, .int .i64 0]⟩ := by
  show (match ltI i 0 with | true => _ | false => (match ltI i 80 with | true => _ | false => _)) = _
  rw [lt_ff h1, lt_tt h2]
theorem cc_5_4 (x y q : Int) (h1 : ¬ (0 ≤ x ∧ x < 5 ∧ 0 ≤ y ∧ y < 4 ∧ q < 4)) : F12 5 4 x y q = .tuple ⟨[.int .i64 0, .int .i64 7]⟩ ∧ (0 ≤ q → F13 5 4 x y q = .int .i64 (-1)) := by
  constructor
  · show (match ltI q 4 with | true => _ | false => _) = _
    repeat' split
    all_goals first | rfl | (exfalso; simp only [ltI_eq, decide_eq_true_eq, decide_eq_false_iff_not] at *; omega)
  · intro hq
    unfold F13
    repeat' split
    all_goals first | rfl | (exfalso; simp only [ltI_eq, decide_eq_true_eq, decide_eq_false_iff_not] at *; omega)
theorem cd_5_4 (x y q : Int) (h1 : 0 ≤ x ∧ x < 5 ∧ 0 ≤ y ∧ y < 4 ∧ q < 4) (hq : 0 ≤ q) : F12 5 4 x y q = .tuple ⟨[.int .i64 (4 * (y * 5 + x) + q), .int .i64 0]⟩ ∧ F13 5 4 x y q = .int .i64 (4 * (y * 5 + x) + q) := by
  obtain ⟨x0, x1, y0, y1, q1⟩ := h1
  have a1 : wrapF .i64 (Int.mul y 5) = y * 5 := wid_i64 (n := y * 5) (by omega) (by omega)
  have a2 : wrapF .i64 (Int.add (y * 5) x) = y * 5 + x := wid_i64 (n := y * 5 + x) (by omega) (by omega)
  have a3 : wrapF .i64 (Int.mul 4 (y * 5 + x)) = 4 * (y * 5 + x) := wid_i64 (n := 4 * (y * 5 + x)) (by omega) (by omega)
  have a4 : wrapF .i64 (Int.add (4 * (y * 5 + x)) q) = 4 * (y * 5 + x) + q := wid_i64 (n := 4 * (y * 5 + x) + q) (by omega) (by omega)
  have b1 : wrapF .i64 (Int.mul (wrapF .i64 (Int.mul 4 5)) y) = 20 * y := wid_i64 (n := 20 * y) (by omega) (by omega)
  have b2 : wrapF .i64 (Int.mul 4 x) = 4 * x := wid_i64 (n := 4 * x) (by omega) (by omega)
  have b3 : wrapF .i64 (Int.add (20 * y) (4 * x)) = 4 * (y * 5 + x) := by
    rw [show Int.add (20 * y) (4 * x) = 4 * (y * 5 + x) by show 20 * y + 4 * x = _; omega]
    exact wid_i64 (n := 4 * (y * 5 + x)) (by omega) (by omega)
  constructor
  · show (match ltI q 4 with | true => _ | false => _) = _
    rw [lt_tt q1]
    show (match ltI x (-4096) with | true => _ | false => _) = _
    rw [lt_ff (show -4096 ≤ x by omega), lt_ff (show x ≤ 4096 by omega), lt_ff (show -4096 ≤ y by omega), lt_ff (show y ≤ 4096 by omega), lt_ff x0, lt_tt x1, lt_ff y0, lt_tt y1]
    show Value.tuple ⟨[.int .i64 (wrapF .i64 (Int.add (wrapF .i64 (Int.mul 4 (wrapF .i64 (Int.add (wrapF .i64 (Int.mul y 5)) x)))) q)), .int .i64 0]⟩ = _
    rw [a1, a2, a3, a4]
  · unfold F13
    repeat' split
    all_goals first | (exfalso; simp only [ltI_eq, decide_eq_true_eq, decide_eq_false_iff_not] at *; omega) | (rw [b1, b2, b3, a4])

theorem ca_5_5 (i : Int) (h1 : i < 0 ∨ 100 ≤ i) : F11 5 5 i = .tuple ⟨[.agg ⟨[.int .i64 0, .int .i64 0, .int .u8 0]⟩, .int .i64 7]⟩ := by
  show (match ltI i 0 with | true => _ | false => (match ltI i 100 with | true => _ | false => _)) = _
  rcases h1 with h1 | h1
  · rw [lt_tt h1]
  · rw [lt_ff (show 0 ≤ i by omega), lt_ff h1]
theorem cb_5_5 (i : Int) (h1 : 0 ≤ i) (h2 : i < 100) : F11 5 5 i = .tuple ⟨[.agg ⟨[.int .i64 ((i / 4) % 5), .int .i64 ((i / 4) / 5), .int .u8 (wrapF .u8 (i % 4))]⟩, .int .i64 0]⟩ := by
  show (match ltI i 0 with | true => _ | false => (match ltI i 100 with | true => _ | false => _)) = _
  rw [lt_ff h1, lt_tt h2]
theorem cc_5_5 (x y q : Int) (h1 : ¬ (0 ≤ x ∧ x < 5 ∧ 0 ≤ y ∧ y < 5 ∧ q < 4)) : F12 5 5 x y q = .tuple ⟨[.int .i64 0, .int .i64 7]⟩ ∧ (0 ≤ q → F13 5 5 x y q = .int .i64 (-1)) := by
  constructor
  · show (match ltI q 4 with | true => _ | false => _) = _
    repeat' split
    all_goals first | rfl | (exfalso; simp only [ltI_eq, decide_eq_true_eq, decide_eq_false_iff_not] at *; omega)
  · intro hq
    unfold F13
    repeat' split
    all_goals first | rfl | (exfalso; simp only [ltI_eq, decide_eq_true_eq, decide_eq_false_iff_not] at *; omega)
theorem cd_5_5 (x y q : Int) (h1 : 0 ≤ x ∧ x < 5 ∧ 0 ≤ y ∧ y < 5 ∧ q < 4) (hq : 0 ≤ q) : F12 5 5 x y q = .tuple ⟨[.int .i64 (4 * (y * 5 + x) + q), .int .i64 0]⟩ ∧ F13 5 5 x y q = .int .i64 (4 * (y * 5 + x) + q) := by
  obtain ⟨x0, x1, y0, y1, q1⟩ := h1
  have a1 : wrapF .i64 (Int.mul y 5) = y * 5 := wid_i64 (n := y * 5) (by omega) (by omega)
  have a2 : wrapF .i64 (Int.add (y * 5) x) = y * 5 + x := wid_i64 (n := y * 5 + x) (by omega) (by omega)
  have a3 : wrapF .i64 (Int.mul 4 (y * 5 + x)) = 4 * (y * 5 + x) := wid_i64 (n := 4 * (y * 5 + x)) (by omega) (by omega)
  have a4 : wrapF .i64 (Int.add (4 * (y * 5 + x)) q) = 4 * (y * 5 + x) + q := wid_i64 (n := 4 * (y * 5 + x) + q) (by omega) (by omega)
  have b1 : wrapF .i64 (Int.mul (wrapF .i64 (Int.mul 4 5)) y) = 20 * y := wid_i64 (n := 20 * y) (by omega) (by omega)
  have b2 : wrapF .i64 (Int.mul 4 x) = 4 * x := wid_i64 (n := 4 * x) (by omega) (by omega)
  have b3 : wrapF .i64 (Int.add (20 * y) (4 * x)) = 4 * (y * 5 + x) := by
    rw [show Int.add (20 * y) (4 * x) = 4 * (y * 5 + x) by show 20 * y + 4 * x = _; omega]
    exact wid_i64 (n := 4 * (y * 5 + x)) (by omega) (by omega)
  constructor
  · show (match ltI q 4 with | true => _ | false => _) = _
    rw [lt_tt q1]
    show (match ltI x (-4096) with | true => _ | false => _) = _
    rw [lt_ff (show -4096 ≤ x by omega), lt_ff (show x ≤ 4096 by omega), lt_ff (show -4096 ≤ y by omega), lt_ff (show y ≤ 4096 by omega), lt_ff x0, lt_tt x1, lt_ff y0, lt_tt y1]
    show Value.tuple ⟨[.int .i64 (wrapF .i64 (Int.add (wrapF .i64 (Int.mul 4 (wrapF .i64 (Int.add (wrapF .i64 (Int.mul y 5)) x)))) q)), .int .i64 0]⟩ = _
    rw [a1, a2, a3, a4]
  · unfold F13
    repeat' split
    all_goals first | (exfalso; simp only [ltI_eq, decide_eq_true_eq, decide_eq_false_iff_not] at *; omega) | (rw [b1, b2, b3, a4])

end Go.Proofs.YtaacmbmnlhoghaaDoor
