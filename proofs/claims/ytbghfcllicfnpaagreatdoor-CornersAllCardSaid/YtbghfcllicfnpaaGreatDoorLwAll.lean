/-
  Says: CornersAll answers true at every input.
-/
import Derived.Test.YtbghfcllicfnpaaGreatDoorLwUn
import Derived.Test.YtbghfcllicfnpaaGreatDoorCe0
import Derived.Test.YtbghfcllicfnpaaGreatDoorCe1
import Derived.Test.YtbghfcllicfnpaaGreatDoorCe2
import Derived.Test.YtbghfcllicfnpaaGreatDoorCe3
import Derived.Test.YtbghfcllicfnpaaGreatDoorCe4
import Derived.Test.YtbghfcllicfnpaaGreatDoorCe5
import Derived.Test.YtbghfcllicfnpaaGreatDoorCe6
import Derived.Test.YtbghfcllicfnpaaGreatDoorCe7
import Derived.Test.YtbghfcllicfnpaaGreatDoorCe8
import Derived.Test.YtbghfcllicfnpaaGreatDoorCe9
import Derived.Test.YtbghfcllicfnpaaGreatDoorCe10
import Derived.Test.YtbghfcllicfnpaaGreatDoorCe11
import Derived.Test.YtbghfcllicfnpaaGreatDoorCe12
import Derived.KernelRfl
set_option maxRecDepth 1000000
set_option linter.unusedVariables false
set_option linter.unusedSimpArgs false
namespace Go.Proofs.YtbghfcllicfnpaaGreatDoor
open Go Go.Vx

open Go.RowKit
attribute [local instance] anyKeeps
theorem mem_all {L : List (Nat × Nat)} {w h : Nat} (h0 : ∀ i < 2 * w, ∀ j < 2 * h, 0 < i → 0 < j → (i + j) % 2 = 0 → (L.any fun p => p.1 == i && p.2 == j) = true) : ∀ i < 2 * w, ∀ j < 2 * h, 0 < i → 0 < j → (i + j) % 2 = 0 → (i, j) ∈ L := fun i hi j hj a b c => by
  obtain ⟨⟨p, q⟩, h1, h2⟩ := List.any_eq_true.1 (h0 i hi j hj a b c)
  simp at h2
  rw [← h2.1, ← h2.2]
  exact h1
theorem q_1_1_ok (t : Nat → TypeId) [Syms] : OrcOk Tryz.prog (tabG t) (q_1_1 t) := (deepOrc_ok (tabs_G t) (base_G t) (orcL_ok (tabs_G t) (Ents.app (e9_ok t) (e33_ok t))) (DeepsOk.app (d8_ok t) (d29_ok t)) noCuts_ok)
theorem tl_1_1 (t : Nat → TypeId) (a b x y : Int) (h_a : 0 ≤ a ∧ a ≤ 255) (h_b : 0 ≤ b ∧ b ≤ 255) (hw : a % 5 = 0) (hh : b % 5 = 0) : Known Tryz.prog (tabG t) 3 [.agg ⟨[.int .u8 a, .int .u8 b]⟩, .agg ⟨[.int .i64 x, .int .i64 y]⟩] (.bool true) :=
  law_sheet (q_1_1_ok t) (ra_1_1 t) (rl_1_1 t) (rk_1_1_0 t) (mem_all (by decide +kernel)) a b x y h_a h_b hw hh
theorem q_1_2_ok (t : Nat → TypeId) [Syms] : OrcOk Tryz.prog (tabG t) (q_1_2 t) := (deepOrc_ok (tabs_G t) (base_G t) (orcL_ok (tabs_G t) (Ents.app (e9_ok t) (e33_ok t))) (DeepsOk.app (d8_ok t) (d29_ok t)) noCuts_ok)
theorem tl_1_2 (t : Nat → TypeId) (a b x y : Int) (h_a : 0 ≤ a ∧ a ≤ 255) (h_b : 0 ≤ b ∧ b ≤ 255) (hw : a % 5 = 0) (hh : b % 5 = 1) : Known Tryz.prog (tabG t) 3 [.agg ⟨[.int .u8 a, .int .u8 b]⟩, .agg ⟨[.int .i64 x, .int .i64 y]⟩] (.bool true) :=
  law_sheet (q_1_2_ok t) (ra_1_2 t) (rl_1_2 t) (rk_1_2_0 t) (mem_all (by decide +kernel)) a b x y h_a h_b hw hh
theorem q_1_3_ok (t : Nat → TypeId) [Syms] : OrcOk Tryz.prog (tabG t) (q_1_3 t) := (deepOrc_ok (tabs_G t) (base_G t) (orcL_ok (tabs_G t) (Ents.app (e9_ok t) (e33_ok t))) (DeepsOk.app (d8_ok t) (d29_ok t)) noCuts_ok)
theorem tl_1_3 (t : Nat → TypeId) (a b x y : Int) (h_a : 0 ≤ a ∧ a ≤ 255) (h_b : 0 ≤ b ∧ b ≤ 255) (hw : a % 5 = 0) (hh : b % 5 = 2) : Known Tryz.prog (tabG t) 3 [.agg ⟨[.int .u8 a, .int .u8 b]⟩, .agg ⟨[.int .i64 x, .int .i64 y]⟩] (.bool true) :=
  law_sheet (q_1_3_ok t) (ra_1_3 t) (rl_1_3 t) (rk_1_3_0 t) (mem_all (by decide +kernel)) a b x y h_a h_b hw hh
theorem q_1_4_ok (t : Nat → TypeId) [Syms] : OrcOk Tryz.prog (tabG t) (q_1_4 t) := (deepOrc_ok (tabs_G t) (base_G t) (orcL_ok (tabs_G t) (Ents.app (e9_ok t) (e33_ok t))) (DeepsOk.app (d8_ok t) (d29_ok t)) noCuts_ok)
theorem tl_1_4 (t : Nat → TypeId) (a b x y : Int) (h_a : 0 ≤ a ∧ a ≤ 255) (h_b : 0 ≤ b ∧ b ≤ 255) (hw : a % 5 = 0) (hh : b % 5 = 3) : Known Tryz.prog (tabG t) 3 [.agg ⟨[.int .u8 a, .int .u8 b]⟩, .agg ⟨[.int .i64 x, .int .i64 y]⟩] (.bool true) :=
  law_sheet (q_1_4_ok t) (ra_1_4 t) (rl_1_4 t) (rk_1_4_0 t) (mem_all (by decide +kernel)) a b x y h_a h_b hw hh
theorem q_1_5_ok (t : Nat → TypeId) [Syms] : OrcOk Tryz.prog (tabG t) (q_1_5 t) := (deepOrc_ok (tabs_G t) (base_G t) (orcL_ok (tabs_G t) (Ents.app (e9_ok t) (e33_ok t))) (DeepsOk.app (d8_ok t) (d30_ok t)) noCuts_ok)
theorem tl_1_5 (t : Nat → TypeId) (a b x y : Int) (h_a : 0 ≤ a ∧ a ≤ 255) (h_b : 0 ≤ b ∧ b ≤ 255) (hw : a % 5 = 0) (hh : b % 5 = 4) : Known Tryz.prog (tabG t) 3 [.agg ⟨[.int .u8 a, .int .u8 b]⟩, .agg ⟨[.int .i64 x, .int .i64 y]⟩] (.bool true) :=
  law_sheet (q_1_5_ok t) (ra_1_5 t) (rl_1_5 t) (rk_1_5_0 t) (mem_all (by decide +kernel)) a b x y h_a h_b hw hh
theorem q_2_1_ok (t : Nat → TypeId) [Syms] : OrcOk Tryz.prog (tabG t) (q_2_1 t) := (deepOrc_ok (tabs_G t) (base_G t) (orcL_ok (tabs_G t) (Ents.app (e9_ok t) (e33_ok t))) (DeepsOk.app (d8_ok t) (d30_ok t)) noCuts_ok)
theorem tl_2_1 (t : Nat → TypeId) (a b x y : Int) (h_a : 0 ≤ a ∧ a ≤ 255) (h_b : 0 ≤ b ∧ b ≤ 255) (hw : a % 5 = 1) (hh : b % 5 = 0) : Known Tryz.prog (tabG t) 3 [.agg ⟨[.int .u8 a, .int .u8 b]⟩, .agg ⟨[.int .i64 x, .int .i64 y]⟩] (.bool true) :=
  law_sheet (q_2_1_ok t) (ra_2_1 t) (rl_2_1 t) (rk_2_1_0 t) (mem_all (by decide +kernel)) a b x y h_a h_b hw hh
theorem q_2_2_ok (t : Nat → TypeId) [Syms] : OrcOk Tryz.prog (tabG t) (q_2_2 t) := (deepOrc_ok (tabs_G t) (base_G t) (orcL_ok (tabs_G t) (Ents.app (e9_ok t) (e33_ok t))) (DeepsOk.app (DeepsOk.app (DeepsOk.app (d8_ok t) (d15_ok t)) (d20_ok t)) (d23_ok t)) noCuts_ok)
theorem tl_2_2 (t : Nat → TypeId) (a b x y : Int) (h_a : 0 ≤ a ∧ a ≤ 255) (h_b : 0 ≤ b ∧ b ≤ 255) (hw : a % 5 = 1) (hh : b % 5 = 1) : Known Tryz.prog (tabG t) 3 [.agg ⟨[.int .u8 a, .int .u8 b]⟩, .agg ⟨[.int .i64 x, .int .i64 y]⟩] (.bool true) :=
  law_sheet (q_2_2_ok t) (ra_2_2 t) (rl_2_2 t) (rk_2_2_0 t) (mem_all (by decide +kernel)) a b x y h_a h_b hw hh
theorem q_2_3_ok (t : Nat → TypeId) [Syms] : OrcOk Tryz.prog (tabG t) (q_2_3 t) := (deepOrc_ok (tabs_G t) (base_G t) (orcL_ok (tabs_G t) (Ents.app (e9_ok t) (e33_ok t))) (DeepsOk.app (DeepsOk.app (DeepsOk.app (d8_ok t) (d16_ok t)) (d20_ok t)) (d23_ok t)) noCuts_ok)
theorem tl_2_3 (t : Nat → TypeId) (a b x y : Int) (h_a : 0 ≤ a ∧ a ≤ 255) (h_b : 0 ≤ b ∧ b ≤ 255) (hw : a % 5 = 1) (hh : b % 5 = 2) : Known Tryz.prog (tabG t) 3 [.agg ⟨[.int .u8 a, .int .u8 b]⟩, .agg ⟨[.int .i64 x, .int .i64 y]⟩] (.bool true) :=
  law_sheet (q_2_3_ok t) (ra_2_3 t) (rl_2_3 t) (rk_2_3_0 t) (mem_all (by decide +kernel)) a b x y h_a h_b hw hh
theorem q_2_4_ok (t : Nat → TypeId) [Syms] : OrcOk Tryz.prog (tabG t) (q_2_4 t) := (deepOrc_ok (tabs_G t) (base_G t) (orcL_ok (tabs_G t) (Ents.app (Ents.app (e9_ok t) (e10_ok t)) (e33_ok t))) (DeepsOk.app (DeepsOk.app (DeepsOk.app (d8_ok t) (d16_ok t)) (d20_ok t)) (d23_ok t)) noCuts_ok)
theorem tl_2_4 (t : Nat → TypeId) (a b x y : Int) (h_a : 0 ≤ a ∧ a ≤ 255) (h_b : 0 ≤ b ∧ b ≤ 255) (hw : a % 5 = 1) (hh : b % 5 = 3) : Known Tryz.prog (tabG t) 3 [.agg ⟨[.int .u8 a, .int .u8 b]⟩, .agg ⟨[.int .i64 x, .int .i64 y]⟩] (.bool true) :=
  law_sheet (q_2_4_ok t) (ra_2_4 t) (rl_2_4 t) (all_app (rk_2_4_0 t) (rk_2_4_1 t)) (mem_all (by decide +kernel)) a b x y h_a h_b hw hh
theorem q_2_5_ok (t : Nat → TypeId) [Syms] : OrcOk Tryz.prog (tabG t) (q_2_5 t) := (deepOrc_ok (tabs_G t) (base_G t) (orcL_ok (tabs_G t) (Ents.app (Ents.app (e9_ok t) (e10_ok t)) (e33_ok t))) (DeepsOk.app (DeepsOk.app (DeepsOk.app (DeepsOk.app (d8_ok t) (d16_ok t)) (d21_ok t)) (d23_ok t)) (d24_ok t)) noCuts_ok)
theorem tl_2_5 (t : Nat → TypeId) (a b x y : Int) (h_a : 0 ≤ a ∧ a ≤ 255) (h_b : 0 ≤ b ∧ b ≤ 255) (hw : a % 5 = 1) (hh : b % 5 = 4) : Known Tryz.prog (tabG t) 3 [.agg ⟨[.int .u8 a, .int .u8 b]⟩, .agg ⟨[.int .i64 x, .int .i64 y]⟩] (.bool true) :=
  law_sheet (q_2_5_ok t) (ra_2_5 t) (rl_2_5 t) (all_app (rk_2_5_0 t) (rk_2_5_1 t)) (mem_all (by decide +kernel)) a b x y h_a h_b hw hh
theorem q_3_1_ok (t : Nat → TypeId) [Syms] : OrcOk Tryz.prog (tabG t) (q_3_1 t) := (deepOrc_ok (tabs_G t) (base_G t) (orcL_ok (tabs_G t) (Ents.app (e9_ok t) (e33_ok t))) (DeepsOk.app (d8_ok t) (d30_ok t)) noCuts_ok)
theorem tl_3_1 (t : Nat → TypeId) (a b x y : Int) (h_a : 0 ≤ a ∧ a ≤ 255) (h_b : 0 ≤ b ∧ b ≤ 255) (hw : a % 5 = 2) (hh : b % 5 = 0) : Known Tryz.prog (tabG t) 3 [.agg ⟨[.int .u8 a, .int .u8 b]⟩, .agg ⟨[.int .i64 x, .int .i64 y]⟩] (.bool true) :=
  law_sheet (q_3_1_ok t) (ra_3_1 t) (rl_3_1 t) (rk_3_1_0 t) (mem_all (by decide +kernel)) a b x y h_a h_b hw hh
theorem q_3_2_ok (t : Nat → TypeId) [Syms] : OrcOk Tryz.prog (tabG t) (q_3_2 t) := (deepOrc_ok (tabs_G t) (base_G t) (orcL_ok (tabs_G t) (Ents.app (e9_ok t) (e33_ok t))) (DeepsOk.app (DeepsOk.app (DeepsOk.app (d8_ok t) (d16_ok t)) (d21_ok t)) (d24_ok t)) noCuts_ok)
theorem tl_3_2 (t : Nat → TypeId) (a b x y : Int) (h_a : 0 ≤ a ∧ a ≤ 255) (h_b : 0 ≤ b ∧ b ≤ 255) (hw : a % 5 = 2) (hh : b % 5 = 1) : Known Tryz.prog (tabG t) 3 [.agg ⟨[.int .u8 a, .int .u8 b]⟩, .agg ⟨[.int .i64 x, .int .i64 y]⟩] (.bool true) :=
  law_sheet (q_3_2_ok t) (ra_3_2 t) (rl_3_2 t) (rk_3_2_0 t) (mem_all (by decide +kernel)) a b x y h_a h_b hw hh
theorem q_3_3_ok (t : Nat → TypeId) [Syms] : OrcOk Tryz.prog (tabG t) (q_3_3 t) := (deepOrc_ok (tabs_G t) (base_G t) (orcL_ok (tabs_G t) (Ents.app (Ents.app (e9_ok t) (e10_ok t)) (e33_ok t))) (DeepsOk.app (DeepsOk.app (DeepsOk.app (DeepsOk.app (DeepsOk.app (d8_ok t) (d15_ok t)) (d16_ok t)) (d17_ok t)) (d21_ok t)) (d24_ok t)) noCuts_ok)
theorem tl_3_3 (t : Nat → TypeId) (a b x y : Int) (h_a : 0 ≤ a ∧ a ≤ 255) (h_b : 0 ≤ b ∧ b ≤ 255) (hw : a % 5 = 2) (hh : b % 5 = 2) : Known Tryz.prog (tabG t) 3 [.agg ⟨[.int .u8 a, .int .u8 b]⟩, .agg ⟨[.int .i64 x, .int .i64 y]⟩] (.bool true) :=
  law_sheet (q_3_3_ok t) (ra_3_3 t) (rl_3_3 t) (all_app (rk_3_3_0 t) (rk_3_3_1 t)) (mem_all (by decide +kernel)) a b x y h_a h_b hw hh
theorem q_3_4_ok (t : Nat → TypeId) [Syms] : OrcOk Tryz.prog (tabG t) (q_3_4 t) := (deepOrc_ok (tabs_G t) (base_G t) (orcL_ok (tabs_G t) (Ents.app (Ents.app (Ents.app (e9_ok t) (e10_ok t)) (e11_ok t)) (e33_ok t))) (DeepsOk.app (DeepsOk.app (DeepsOk.app (DeepsOk.app (d8_ok t) (d15_ok t)) (d17_ok t)) (d21_ok t)) (d24_ok t)) noCuts_ok)
theorem tl_3_4 (t : Nat → TypeId) (a b x y : Int) (h_a : 0 ≤ a ∧ a ≤ 255) (h_b : 0 ≤ b ∧ b ≤ 255) (hw : a % 5 = 2) (hh : b % 5 = 3) : Known Tryz.prog (tabG t) 3 [.agg ⟨[.int .u8 a, .int .u8 b]⟩, .agg ⟨[.int .i64 x, .int .i64 y]⟩] (.bool true) :=
  law_sheet (q_3_4_ok t) (ra_3_4 t) (rl_3_4 t) (all_app (rk_3_4_0 t) (all_app (rk_3_4_1 t) (rk_3_4_2 t))) (mem_all (by decide +kernel)) a b x y h_a h_b hw hh
theorem q_3_5_ok (t : Nat → TypeId) [Syms] : OrcOk Tryz.prog (tabG t) (q_3_5 t) := (deepOrc_ok (tabs_G t) (base_G t) (orcL_ok (tabs_G t) (Ents.app (Ents.app (Ents.app (Ents.app (e9_ok t) (e10_ok t)) (e11_ok t)) (e12_ok t)) (e33_ok t))) (DeepsOk.app (DeepsOk.app (DeepsOk.app (DeepsOk.app (DeepsOk.app (d8_ok t) (d15_ok t)) (d17_ok t)) (d21_ok t)) (d24_ok t)) (d25_ok t)) noCuts_ok)
theorem tl_3_5 (t : Nat → TypeId) (a b x y : Int) (h_a : 0 ≤ a ∧ a ≤ 255) (h_b : 0 ≤ b ∧ b ≤ 255) (hw : a % 5 = 2) (hh : b % 5 = 4) : Known Tryz.prog (tabG t) 3 [.agg ⟨[.int .u8 a, .int .u8 b]⟩, .agg ⟨[.int .i64 x, .int .i64 y]⟩] (.bool true) :=
  law_sheet (q_3_5_ok t) (ra_3_5 t) (rl_3_5 t) (all_app (rk_3_5_0 t) (all_app (rk_3_5_1 t) (all_app (rk_3_5_2 t) (all_app (rk_3_5_3 t) (rk_3_5_4 t))))) (mem_all (by decide +kernel)) a b x y h_a h_b hw hh
theorem q_4_1_ok (t : Nat → TypeId) [Syms] : OrcOk Tryz.prog (tabG t) (q_4_1 t) := (deepOrc_ok (tabs_G t) (base_G t) (orcL_ok (tabs_G t) (Ents.app (e9_ok t) (e33_ok t))) (DeepsOk.app (d8_ok t) (d30_ok t)) noCuts_ok)
theorem tl_4_1 (t : Nat → TypeId) (a b x y : Int) (h_a : 0 ≤ a ∧ a ≤ 255) (h_b : 0 ≤ b ∧ b ≤ 255) (hw : a % 5 = 3) (hh : b % 5 = 0) : Known Tryz.prog (tabG t) 3 [.agg ⟨[.int .u8 a, .int .u8 b]⟩, .agg ⟨[.int .i64 x, .int .i64 y]⟩] (.bool true) :=
  law_sheet (q_4_1_ok t) (ra_4_1 t) (rl_4_1 t) (rk_4_1_0 t) (mem_all (by decide +kernel)) a b x y h_a h_b hw hh
theorem q_4_2_ok (t : Nat → TypeId) [Syms] : OrcOk Tryz.prog (tabG t) (q_4_2 t) := (deepOrc_ok (tabs_G t) (base_G t) (orcL_ok (tabs_G t) (Ents.app (Ents.app (e9_ok t) (e10_ok t)) (e33_ok t))) (DeepsOk.app (DeepsOk.app (DeepsOk.app (d8_ok t) (d17_ok t)) (d22_ok t)) (d25_ok t)) noCuts_ok)
theorem tl_4_2 (t : Nat → TypeId) (a b x y : Int) (h_a : 0 ≤ a ∧ a ≤ 255) (h_b : 0 ≤ b ∧ b ≤ 255) (hw : a % 5 = 3) (hh : b % 5 = 1) : Known Tryz.prog (tabG t) 3 [.agg ⟨[.int .u8 a, .int .u8 b]⟩, .agg ⟨[.int .i64 x, .int .i64 y]⟩] (.bool true) :=
  law_sheet (q_4_2_ok t) (ra_4_2 t) (rl_4_2 t) (all_app (rk_4_2_0 t) (rk_4_2_1 t)) (mem_all (by decide +kernel)) a b x y h_a h_b hw hh
theorem q_4_3_ok (t : Nat → TypeId) [Syms] : OrcOk Tryz.prog (tabG t) (q_4_3 t) := (deepOrc_ok (tabs_G t) (base_G t) (orcL_ok (tabs_G t) (Ents.app (Ents.app (Ents.app (e9_ok t) (e10_ok t)) (e11_ok t)) (e33_ok t))) (DeepsOk.app (DeepsOk.app (DeepsOk.app (DeepsOk.app (DeepsOk.app (d8_ok t) (d15_ok t)) (d17_ok t)) (d18_ok t)) (d22_ok t)) (d25_ok t)) noCuts_ok)
theorem tl_4_3 (t : Nat → TypeId) (a b x y : Int) (h_a : 0 ≤ a ∧ a ≤ 255) (h_b : 0 ≤ b ∧ b ≤ 255) (hw : a % 5 = 3) (hh : b % 5 = 2) : Known Tryz.prog (tabG t) 3 [.agg ⟨[.int .u8 a, .int .u8 b]⟩, .agg ⟨[.int .i64 x, .int .i64 y]⟩] (.bool true) :=
  law_sheet (q_4_3_ok t) (ra_4_3 t) (rl_4_3 t) (all_app (rk_4_3_0 t) (all_app (rk_4_3_1 t) (rk_4_3_2 t))) (mem_all (by decide +kernel)) a b x y h_a h_b hw hh
theorem q_4_4_ok (t : Nat → TypeId) [Syms] : OrcOk Tryz.prog (tabG t) (q_4_4 t) := (deepOrc_ok (tabs_G t) (base_G t) (orcL_ok (tabs_G t) (Ents.app (Ents.app (Ents.app (Ents.app (e9_ok t) (e10_ok t)) (e11_ok t)) (e12_ok t)) (e33_ok t))) (DeepsOk.app (DeepsOk.app (DeepsOk.app (DeepsOk.app (DeepsOk.app (d8_ok t) (d15_ok t)) (d18_ok t)) (d22_ok t)) (d25_ok t)) (d26_ok t)) noCuts_ok)
theorem tl_4_4 (t : Nat → TypeId) (a b x y : Int) (h_a : 0 ≤ a ∧ a ≤ 255) (h_b : 0 ≤ b ∧ b ≤ 255) (hw : a % 5 = 3) (hh : b % 5 = 3) : Known Tryz.prog (tabG t) 3 [.agg ⟨[.int .u8 a, .int .u8 b]⟩, .agg ⟨[.int .i64 x, .int .i64 y]⟩] (.bool true) :=
  law_sheet (q_4_4_ok t) (ra_4_4 t) (rl_4_4 t) (all_app (rk_4_4_0 t) (all_app (rk_4_4_1 t) (all_app (rk_4_4_2 t) (all_app (rk_4_4_3 t) (rk_4_4_4 t))))) (mem_all (by decide +kernel)) a b x y h_a h_b hw hh
theorem q_4_5_ok (t : Nat → TypeId) [Syms] : OrcOk Tryz.prog (tabG t) (q_4_5 t) := (deepOrc_ok (tabs_G t) (base_G t) (orcL_ok (tabs_G t) (Ents.app (Ents.app (Ents.app (Ents.app (Ents.app (e9_ok t) (e10_ok t)) (e11_ok t)) (e12_ok t)) (e13_ok t)) (e33_ok t))) (DeepsOk.app (DeepsOk.app (DeepsOk.app (DeepsOk.app (DeepsOk.app (d8_ok t) (d15_ok t)) (d18_ok t)) (d22_ok t)) (d26_ok t)) (d27_ok t)) noCuts_ok)
theorem tl_4_5 (t : Nat → TypeId) (a b x y : Int) (h_a : 0 ≤ a ∧ a ≤ 255) (h_b : 0 ≤ b ∧ b ≤ 255) (hw : a % 5 = 3) (hh : b % 5 = 4) : Known Tryz.prog (tabG t) 3 [.agg ⟨[.int .u8 a, .int .u8 b]⟩, .agg ⟨[.int .i64 x, .int .i64 y]⟩] (.bool true) :=
  law_sheet (q_4_5_ok t) (ra_4_5 t) (rl_4_5 t) (all_app (rk_4_5_0 t) (all_app (rk_4_5_1 t) (all_app (rk_4_5_2 t) (all_app (rk_4_5_3 t) (all_app (rk_4_5_4 t) (all_app (rk_4_5_5 t) (all_app (rk_4_5_6 t) (rk_4_5_7 t)))))))) (mem_all (by decide +kernel)) a b x y h_a h_b hw hh
theorem q_5_1_ok (t : Nat → TypeId) [Syms] : OrcOk Tryz.prog (tabG t) (q_5_1 t) := (deepOrc_ok (tabs_G t) (base_G t) (orcL_ok (tabs_G t) (Ents.app (e9_ok t) (e33_ok t))) (DeepsOk.app (DeepsOk.app (d8_ok t) (d30_ok t)) (d31_ok t)) noCuts_ok)
theorem tl_5_1 (t : Nat → TypeId) (a b x y : Int) (h_a : 0 ≤ a ∧ a ≤ 255) (h_b : 0 ≤ b ∧ b ≤ 255) (hw : a % 5 = 4) (hh : b % 5 = 0) : Known Tryz.prog (tabG t) 3 [.agg ⟨[.int .u8 a, .int .u8 b]⟩, .agg ⟨[.int .i64 x, .int .i64 y]⟩] (.bool true) :=
  law_sheet (q_5_1_ok t) (ra_5_1 t) (rl_5_1 t) (rk_5_1_0 t) (mem_all (by decide +kernel)) a b x y h_a h_b hw hh
theorem q_5_2_ok (t : Nat → TypeId) [Syms] : OrcOk Tryz.prog (tabG t) (q_5_2 t) := (deepOrc_ok (tabs_G t) (base_G t) (orcL_ok (tabs_G t) (Ents.app (Ents.app (e9_ok t) (e10_ok t)) (e33_ok t))) (DeepsOk.app (DeepsOk.app (DeepsOk.app (DeepsOk.app (d8_ok t) (d18_ok t)) (d19_ok t)) (d22_ok t)) (d27_ok t)) noCuts_ok)
theorem tl_5_2 (t : Nat → TypeId) (a b x y : Int) (h_a : 0 ≤ a ∧ a ≤ 255) (h_b : 0 ≤ b ∧ b ≤ 255) (hw : a % 5 = 4) (hh : b % 5 = 1) : Known Tryz.prog (tabG t) 3 [.agg ⟨[.int .u8 a, .int .u8 b]⟩, .agg ⟨[.int .i64 x, .int .i64 y]⟩] (.bool true) :=
  law_sheet (q_5_2_ok t) (ra_5_2 t) (rl_5_2 t) (all_app (rk_5_2_0 t) (rk_5_2_1 t)) (mem_all (by decide +kernel)) a b x y h_a h_b hw hh
theorem q_5_3_ok (t : Nat → TypeId) [Syms] : OrcOk Tryz.prog (tabG t) (q_5_3 t) := (deepOrc_ok (tabs_G t) (base_G t) (orcL_ok (tabs_G t) (Ents.app (Ents.app (Ents.app (Ents.app (e9_ok t) (e10_ok t)) (e11_ok t)) (e12_ok t)) (e33_ok t))) (DeepsOk.app (DeepsOk.app (DeepsOk.app (DeepsOk.app (d8_ok t) (d15_ok t)) (d19_ok t)) (d23_ok t)) (d27_ok t)) noCuts_ok)
theorem tl_5_3 (t : Nat → TypeId) (a b x y : Int) (h_a : 0 ≤ a ∧ a ≤ 255) (h_b : 0 ≤ b ∧ b ≤ 255) (hw : a % 5 = 4) (hh : b % 5 = 2) : Known Tryz.prog (tabG t) 3 [.agg ⟨[.int .u8 a, .int .u8 b]⟩, .agg ⟨[.int .i64 x, .int .i64 y]⟩] (.bool true) :=
  law_sheet (q_5_3_ok t) (ra_5_3 t) (rl_5_3 t) (all_app (rk_5_3_0 t) (all_app (rk_5_3_1 t) (all_app (rk_5_3_2 t) (all_app (rk_5_3_3 t) (rk_5_3_4 t))))) (mem_all (by decide +kernel)) a b x y h_a h_b hw hh
theorem q_5_4_ok (t : Nat → TypeId) [Syms] : OrcOk Tryz.prog (tabG t) (q_5_4 t) := (deepOrc_ok (tabs_G t) (base_G t) (orcL_ok (tabs_G t) (Ents.app (Ents.app (Ents.app (Ents.app (Ents.app (e9_ok t) (e10_ok t)) (e11_ok t)) (e12_ok t)) (e13_ok t)) (e33_ok t))) (DeepsOk.app (DeepsOk.app (DeepsOk.app (DeepsOk.app (DeepsOk.app (DeepsOk.app (d8_ok t) (d15_ok t)) (d16_ok t)) (d19_ok t)) (d23_ok t)) (d27_ok t)) (d28_ok t)) noCuts_ok)
theorem tl_5_4 (t : Nat → TypeId) (a b x y : Int) (h_a : 0 ≤ a ∧ a ≤ 255) (h_b : 0 ≤ b ∧ b ≤ 255) (hw : a % 5 = 4) (hh : b % 5 = 3) : Known Tryz.prog (tabG t) 3 [.agg ⟨[.int .u8 a, .int .u8 b]⟩, .agg ⟨[.int .i64 x, .int .i64 y]⟩] (.bool true) :=
  law_sheet (q_5_4_ok t) (ra_5_4 t) (rl_5_4 t) (all_app (rk_5_4_0 t) (all_app (rk_5_4_1 t) (all_app (rk_5_4_2 t) (all_app (rk_5_4_3 t) (all_app (rk_5_4_4 t) (all_app (rk_5_4_5 t) (all_app (rk_5_4_6 t) (rk_5_4_7 t)))))))) (mem_all (by decide +kernel)) a b x y h_a h_b hw hh
theorem q_5_5_ok (t : Nat → TypeId) [Syms] : OrcOk Tryz.prog (tabG t) (q_5_5 t) := (deepOrc_ok (tabs_G t) (base_G t) (orcL_ok (tabs_G t) (Ents.app (Ents.app (Ents.app (Ents.app (Ents.app (e9_ok t) (e10_ok t)) (e11_ok t)) (e12_ok t)) (e13_ok t)) (e33_ok t))) (DeepsOk.app (DeepsOk.app (DeepsOk.app (DeepsOk.app (DeepsOk.app (DeepsOk.app (d8_ok t) (d16_ok t)) (d20_ok t)) (d23_ok t)) (d28_ok t)) (d29_ok t)) (d31_ok t)) noCuts_ok)
theorem tl_5_5 (t : Nat → TypeId) (a b x y : Int) (h_a : 0 ≤ a ∧ a ≤ 255) (h_b : 0 ≤ b ∧ b ≤ 255) (hw : a % 5 = 4) (hh : b % 5 = 4) : Known Tryz.prog (tabG t) 3 [.agg ⟨[.int .u8 a, .int .u8 b]⟩, .agg ⟨[.int .i64 x, .int .i64 y]⟩] (.bool true) :=
  law_sheet (q_5_5_ok t) (ra_5_5 t) (rl_5_5 t) (all_app (rk_5_5_0 t) (all_app (rk_5_5_1 t) (all_app (rk_5_5_2 t) (all_app (rk_5_5_3 t) (all_app (rk_5_5_4 t) (all_app (rk_5_5_5 t) (all_app (rk_5_5_6 t) (all_app (rk_5_5_7 t) (all_app (rk_5_5_8 t) (all_app (rk_5_5_9 t) (all_app (rk_5_5_10 t) (all_app (rk_5_5_11 t) (all_app (rk_5_5_12 t) (rk_5_5_13 t)))))))))))))) (mem_all (by decide +kernel)) a b x y h_a h_b hw hh
theorem la_all (t : Nat → TypeId) (a b x y : Int) (h_a : 0 ≤ a ∧ a ≤ 255) (h_b : 0 ≤ b ∧ b ≤ 255) : Known Tryz.prog (tabG t) 3 [.agg ⟨[.int .u8 a, .int .u8 b]⟩, .agg ⟨[.int .i64 x, .int .i64 y]⟩] (.bool true) := by
  have ca : a % 5 = 0 ∨ a % 5 = 1 ∨ a % 5 = 2 ∨ a % 5 = 3 ∨ a % 5 = 4 := by omega
  have cb : b % 5 = 0 ∨ b % 5 = 1 ∨ b % 5 = 2 ∨ b % 5 = 3 ∨ b % 5 = 4 := by omega
  rcases ca with ca | ca | ca | ca | ca
  · rcases cb with cb | cb | cb | cb | cb
    · exact tl_1_1 t a b x y h_a h_b ca cb
    · exact tl_1_2 t a b x y h_a h_b ca cb
    · exact tl_1_3 t a b x y h_a h_b ca cb
    · exact tl_1_4 t a b x y h_a h_b ca cb
    · exact tl_1_5 t a b x y h_a h_b ca cb
  · rcases cb with cb | cb | cb | cb | cb
    · exact tl_2_1 t a b x y h_a h_b ca cb
    · exact tl_2_2 t a b x y h_a h_b ca cb
    · exact tl_2_3 t a b x y h_a h_b ca cb
    · exact tl_2_4 t a b x y h_a h_b ca cb
    · exact tl_2_5 t a b x y h_a h_b ca cb
  · rcases cb with cb | cb | cb | cb | cb
    · exact tl_3_1 t a b x y h_a h_b ca cb
    · exact tl_3_2 t a b x y h_a h_b ca cb
    · exact tl_3_3 t a b x y h_a h_b ca cb
    · exact tl_3_4 t a b x y h_a h_b ca cb
    · exact tl_3_5 t a b x y h_a h_b ca cb
  · rcases cb with cb | cb | cb | cb | cb
    · exact tl_4_1 t a b x y h_a h_b ca cb
    · exact tl_4_2 t a b x y h_a h_b ca cb
    · exact tl_4_3 t a b x y h_a h_b ca cb
    · exact tl_4_4 t a b x y h_a h_b ca cb
    · exact tl_4_5 t a b x y h_a h_b ca cb
  · rcases cb with cb | cb | cb | cb | cb
    · exact tl_5_1 t a b x y h_a h_b ca cb
    · exact tl_5_2 t a b x y h_a h_b ca cb
    · exact tl_5_3 t a b x y h_a h_b ca cb
    · exact tl_5_4 t a b x y h_a h_b ca cb
    · exact tl_5_5 t a b x y h_a h_b ca cb
theorem cornersall_law (a b x y : Int) (w : World) (hL : Lay w) (a0 : 0 ≤ a) (a1 : a ≤ 255) (b0 : 0 ≤ b) (b1 : b ≤ 255) : Calls Tryz.prog 3 #[.agg #[.int .u8 a, .int .u8 b], .agg #[.int .i64 x, .int .i64 y]] w fun r w' => r = .returned (.bool true) ∧ Below w.heap.size w w' := by
  haveI := anySyms
  exact (la_all (typ w) a b x y ⟨a0, a1⟩ ⟨b0, b1⟩).calls (lies_G hL)

end Go.Proofs.YtbghfcllicfnpaaGreatDoor
