/-
  Says: PatternsCheck answers true at every input.
-/
import Derived.Test.YtdnekeegpenioaaDoorPcM0
import Derived.Test.YtdnekeegpenioaaDoorPcM1
import Derived.Test.YtdnekeegpenioaaDoorPcM2
set_option linter.unusedVariables false
set_option linter.unusedSimpArgs false
namespace Go.Proofs.YtdnekeegpenioaaDoor
open Go Go.RowKit

theorem patternscheck_law (W H id ed : Int) (c e k : Nat → Int) (pa : Option Addr) (n ca : Nat) (w : World) (hL : Lay w) (ra : Crs w pa n c e k) (hr : ∀ i, i < n → (0 ≤ e i ∧ e i ≤ 255) ∧ (0 ≤ k i ∧ k i ≤ 255)) (hn : (n : Int) ≤ 9223372036854775807) :
    Calls Tryd.prog 3 #[.agg #[.int .i64 W, .int .i64 H, .slice pa n ca], .int .i64 id, .int .u8 ed] w fun r w' => r = .returned (.bool true) ∧ Below w.heap.size w w' := by
  by_cases hl : 40 < (n : Int)
  · exact law_long W H id ed c e k pa n ca w hL hn hl
  by_cases hs : OkS W H
  · by_cases hw : 5 < W
    · exact law_w5 W H id ed c e k pa n ca w hL hl hs hw
    by_cases hh : 5 < H
    · exact law_h5 W H id ed c e k pa n ca w hL hl hs hw hh
    obtain ⟨a, rfl⟩ : ∃ a : Nat, W = (a : Int) := ⟨W.toNat, by have := hs.1; omega⟩
    obtain ⟨b, rfl⟩ : ∃ b : Nat, H = (b : Int) := ⟨H.toNat, by have := hs.2.1; omega⟩
    have h1 : 1 ≤ a := by have := hs.1; omega
    have h3 : 1 ≤ b := by have := hs.2.1; omega
    have hC := fun V (hV : Below w.heap.size w V) => check_any h1 (by omega) h3 (by omega) c e k pa n ca V (lay_below hL hV) (by omega) (ra.below hV) hr
    have hR := fun V (hV : Below w.heap.size w V) => refc_any h1 (by omega) h3 (by omega) c e k pa n ca V (lay_below hL hV) (by omega) (ra.below hV) hr
    by_cases hE : errP a b n c e k = 0
    · exact main_ok0 (a : Int) (b : Int) id ed c e k pa n ca w hL _ hE hl hs hw hh hC hR
    · exact main_okE (a : Int) (b : Int) id ed c e k pa n ca w hL _ hE hl hs hw hh hC hR
  · have hC := fun V (hV : Below w.heap.size w V) => check_inv W H pa n ca V (lay_below hL hV) hs
    have hR := fun V (hV : Below w.heap.size w V) => ref_inv W H pa n ca V (lay_below hL hV) hs
    by_cases hw : 5 < W <;> by_cases hh : 5 < H
    · exact main_bad_11 W H id ed c e k pa n ca w hL 1 rfl hl hs hw hh hC hR
    · exact main_bad_10 W H id ed c e k pa n ca w hL 1 rfl hl hs hw hh hC hR
    · exact main_bad_01 W H id ed c e k pa n ca w hL 1 rfl hl hs hw hh hC hR
    · exact main_bad_00 W H id ed c e k pa n ca w hL 1 rfl hl hs hw hh hC hR

end Go.Proofs.YtdnekeegpenioaaDoor
