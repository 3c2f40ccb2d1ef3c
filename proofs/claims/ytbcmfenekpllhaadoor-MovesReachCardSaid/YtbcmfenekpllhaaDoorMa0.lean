/-
  Says: small facts for MovesAssociate: three new variables in a region; the move of an M; products of turns in any order.
-/
import Derived.Test.YtbcmfenekpllhaaDoorMv12
import Derived.Test.YtbcmfenekpllhaaDoorMvz
import Derived.Deep.RegionHeld3
import Derived.RowKit3
set_option linter.unusedVariables false
set_option linter.unusedSimpArgs false
namespace Go.Proofs.YtbcmfenekpllhaaDoor
open Go Go.RowKit

attribute [local go_sem] World.cell?_alloc_some frozen?_alloc_cells fz0 fz1 fz2 fz3 fz4 fz5

section
variable {P : Program}
/-- THREE NEW VARIABLES of one type. -/
theorem region_free3 {id : Nat} {Q : Exit → Act → World → Prop} {a : Act} {W : World} {l : List Oper} (n i d j e k f T : Nat) (ob : Obj) (hm : P.follows .mixedOrders = true)
    (hB : Region.lexTailB .any l.toArray n = true) (hde : d ≠ e) (hdf : d ≠ f) (hef : e ≠ f) (h1 : newB l.toArray n i d T = true) (h2 : newB l.toArray n j e T = true) (h3 : newB l.toArray n k f T = true)
    (hr : ∀ w, (Instr.alloc T true (.tuple #[])).run P w = .ok (.pointer (some ⟨w.heap.size, 0, none⟩)) (w.alloc ob))
    (h : wpLex P l.toArray W [i, j, k] (fun ap => ∀ (b b' b'' : Nat) (u : Later W), W.heap.size ≤ b → (on u).heap[b]? = some ob → W.heap.size ≤ b' → (on u).heap[b']? = some ob → W.heap.size ≤ b'' → (on u).heap[b'']? = some ob → b ≠ b' → b ≠ b'' → b' ≠ b'' →
      wpList P l.toArray Q (l.drop n) (((ap.put (some f) (.pointer (some ⟨b'', 0, none⟩))).put (some e) (.pointer (some ⟨b', 0, none⟩))).put (some d) (.pointer (some ⟨b, 0, none⟩))) (on u)) 0 (l.take n) a) : (Code.region id l.toArray true).wp P Q a W :=
  wp_region_free n (fun _ => ob) [(i, d), (j, e), (k, f)] hm hB (fun x hx => by
      rcases List.mem_cons.1 hx with rfl | hx
      · exact newAt h1 hr
      · rcases List.mem_cons.1 hx with rfl | hx
        · exact newAt h2 hr
        · rw [List.mem_singleton.1 hx]; exact newAt h3 hr) (by simp [hde, hdf, hef])
    (fun x hx y hy hxy => by
      simp only [List.mem_cons, List.mem_nil_iff, or_false] at hx hy
      rcases hx with rfl | rfl | rfl <;> rcases hy with rfl | rfl | rfl <;> first | rfl | exact absurd hxy hde | exact absurd hxy hdf | exact absurd hxy hef | exact absurd hxy.symm hde | exact absurd hxy.symm hdf | exact absurd hxy.symm hef)
    (by
      refine wpLex_mono (fun ap hap B u hB' hne => ?_) _ _ _ h
      exact hap (B d) (B e) (B f) u (hB' d (by simp)).1 (hB' d (by simp)).2 (hB' e (by simp)).1 (hB' e (by simp)).2 (hB' f (by simp)).1 (hB' f (by simp)).2 (hne d (by simp) e (by simp) hde) (hne d (by simp) f (by simp) hdf) (hne e (by simp) f (by simp) hef))
end
theorem stored3 {W : World} {u : Later W} {b : Nat} {x0 x1 x2 : Value} {t : TypeId} (hb : W.heap.size ≤ b) (h : (on u).heap[b]? = some (.cells #[x0, x1, x2] t)) (v0 v1 v2 : Value) :
    ∃ u' : Later W, (((on u).setCell ⟨b, 0, none⟩ v0).setCell ⟨b, 1, none⟩ v1).setCell ⟨b, 2, none⟩ v2 = on u' ∧ (on u').heap[b]? = some (.cells #[v0, v1, v2] t) ∧ ∀ b' o, b' ≠ b → (on u).heap[b']? = some o → (on u').heap[b']? = some o :=
  ⟨⟨_, ((u.b.setCell (p := ⟨b, 0, none⟩) hb v0).setCell (p := ⟨b, 1, none⟩) hb v1).setCell (p := ⟨b, 2, none⟩) hb v2⟩, rfl, held_set (held_set (held_set h 0 v0) 1 v1) 2 v2, fun b' o hne ho => held_set_other (held_set_other (held_set_other ho hne _ _) hne _ _) hne _ _⟩
theorem mulT_assoc (s t u : Int) (a1 : 0 ≤ s) (a2 : s ≤ 7) (b1 : 0 ≤ t) (b2 : t ≤ 7) (c1 : 0 ≤ u) (c2 : u ≤ 7) : mulT (mulT s t) u = mulT s (mulT t u) := by
  unfold mulT
  by_cases h1 : s < 4 <;> by_cases h2 : t < 4 <;> by_cases h3 : u < 4 <;> simp only [h1, h2, h3, if_true, if_false] <;> (repeat' split) <;> omega
/-- Y of the move of an M: the parity is mended. -/
def yfix (x y : Int) : Int := if (x + y) % 2 = 0 then y else y + 1
set_option maxRecDepth 100000 in
set_option maxHeartbeats 2000000 in
theorem mof2_any (a x y : Int) (w : World) (h0 : 0 ≤ a) (h1 : a ≤ 255) (x1 : -128 ≤ x) (x2 : x ≤ 127) (y1 : -128 ≤ y) (y2 : y ≤ 127) : Calls Tryd.prog 41 #[.agg #[.int .u8 a, .int .i8 x, .int .i8 y]] w fun e w' => e = .returned (mv (a % 8) x (yfix x y)) ∧ Below w.heap.size w w' := by
  by_cases hp : (x + y) % 2 = 0
  · have p0 : (x + y).tmod 2 = 0 := tm_even _ hp
    rw [yfix, if_pos hp]
    clear hp
    go_enter Tryd.func41, Tryd.ntmps41
    go_wp2
    exact bodyPost_ret (v := mv (a % 8) x y) (by simp [results, Tryd.results41, go_sem]) rfl ⟨rfl, (by repeat first | (with_reducible exact Below.refl _ _) | (with_reducible refine below_on ?_ _) | (with_reducible refine below_alloc ?_ _) | (with_reducible refine below_set ?_ (by simp; try omega) _))⟩
  · have p1 := tm_odd1 _ hp
    have p2 := tm_odd2 _ hp
    rw [yfix, if_neg hp]
    clear hp
    go_enter Tryd.func41, Tryd.ntmps41
    go_wp2
    exact bodyPost_ret (v := mv (a % 8) x (y + 1)) (by simp [results, Tryd.results41, go_sem]) rfl ⟨rfl, (by repeat first | (with_reducible exact Below.refl _ _) | (with_reducible refine below_on ?_ _) | (with_reducible refine below_alloc ?_ _) | (with_reducible refine below_set ?_ (by simp; try omega) _))⟩
theorem yfix_ok (x y : Int) (y1 : -128 ≤ y) (y2 : y ≤ 127) : (x + yfix x y) % 2 = 0 ∧ -128 ≤ yfix x y ∧ yfix x y ≤ 128 := by
  unfold yfix; split <;> omega
theorem alloc51 : ∀ w, (Instr.alloc 51 true (.tuple #[])).run Tryd.prog w = .ok (.pointer (some ⟨w.heap.size, 0, none⟩)) (w.alloc (.cells #[.int .u8 0, .int .i64 0, .int .i64 0] 51)) := fun _ => by kernel_rfl

end Go.Proofs.YtbcmfenekpllhaaDoor
