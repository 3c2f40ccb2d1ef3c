/-
  Says: small facts for MovesReach: objects made in a row, cells of an owned row, stores of three cells.
-/
import Derived.Test.YtbcmfenekpllhaaDoorMa0
import Derived.Test.YtbcmfenekpllhaaDoorMvz
import Derived.Deep.RegionHeld3
import Derived.RowKit3
import Derived.Laws.AppendOwn
import Derived.Laws.Rows
set_option linter.unusedVariables false
set_option linter.unusedSimpArgs false
namespace Go.Proofs.YtbcmfenekpllhaaDoor
open Go Go.RowKit

attribute [local go_sem] World.cell?_alloc_some frozen?_alloc_cells fz0 fz1 fz2 fz3 fz4 fz5

theorem foldl_size : ∀ (l : List Obj) (w : World), (l.foldl World.alloc w).heap.size = w.heap.size + l.length
  | [], w => rfl
  | o :: l, w => by
    show (l.foldl World.alloc (w.alloc o)).heap.size = _
    rw [foldl_size l, World.size_alloc, List.length_cons]; omega
theorem foldl_old : ∀ (l : List Obj) (w : World) (i : Nat), i < w.heap.size → (l.foldl World.alloc w).heap[i]? = w.heap[i]?
  | [], w, i, _ => rfl
  | o :: l, w, i, h => by
    show (l.foldl World.alloc (w.alloc o)).heap[i]? = _
    rw [foldl_old l _ i (by rw [World.size_alloc]; omega), heap_alloc_old _ _ h]
theorem foldl_new : ∀ (l : List Obj) (w : World) (i : Nat), i < l.length → (l.foldl World.alloc w).heap[w.heap.size + i]? = l[i]?
  | [], w, i, h => by simp at h
  | o :: l, w, 0, _ => by
    show (l.foldl World.alloc (w.alloc o)).heap[w.heap.size]? = _
    rw [foldl_old l _ _ (by rw [World.size_alloc]; omega)]; exact heap_alloc_new _ _
  | o :: l, w, i + 1, h => by
    show (l.foldl World.alloc (w.alloc o)).heap[w.heap.size + (i + 1)]? = _
    have := foldl_new l (w.alloc o) i (by simpa using h)
    rw [World.size_alloc] at this
    rw [show w.heap.size + (i + 1) = w.heap.size + 1 + i by omega, this]; rfl
theorem row_reads {W : World} {g : Nat} {cs : List Value} {t : TypeId} {fr : Nat × Nat} (h : W.heap[g]? = some (.cells cs.toArray t fr)) : ∀ (j : Nat) (u : Value), cs[j]? = some u → W.cell? ((⟨g, 0, none⟩ : Addr).add j) = some u := fun j u hj => by
  have hadd : (⟨g, 0, none⟩ : Addr).add j = ⟨g, j, none⟩ := by unfold Addr.add; split <;> simp_all
  rw [hadd, cell_of_row _ _ _ _ _ _ h]; simpa using hj
theorem infoLn : ∃ i z, Tryd.prog.info? 24 = some i ∧ i.zero = some z ∧ i.size = 2 ∧ i.bytes = 16 ∧ z.cells.size = 2 := by
  have h : (Tryd.prog.info? 24).map (fun i => (i.zero, i.size, i.bytes)) = some (some (.agg #[.int .u8 0, .int .i64 0]), 2, 16) := by kernel_rfl
  cases hi : Tryd.prog.info? 24 with
  | none => rw [hi] at h; cases h
  | some i =>
    rw [hi] at h
    simp only [Option.map_some, Option.some.injEq, Prod.mk.injEq] at h
    exact ⟨i, _, rfl, h.1, h.2.1, h.2.2, rfl⟩

theorem foldl_below : ∀ (l : List Obj) {w W : World}, Below w.heap.size w W → Below w.heap.size w (l.foldl World.alloc W)
  | [], w, W, h => h
  | o :: l, w, W, h => foldl_below l (below_alloc h _)
theorem own_cell {W : World} {base n size g cap : Nat} {t : TypeId} {xs : List Value} (h : W.ownsRow base t size (.slice (some ⟨g, 0, none⟩) n cap) n xs) (j : Nat) (u : Value) (hu : xs[j]? = some u) : W.cell? ⟨g, j, none⟩ = some u := by
  have hadd : (⟨g, 0, none⟩ : Addr).add j = ⟨g, j, none⟩ := by unfold Addr.add; split <;> simp_all
  have := h.cells (g := g) rfl j u hu
  rwa [hadd] at this
theorem far3 {W : World} {b b' i : Nat} {v : Value} (hne : b' ≠ b) (h : W.cell? ⟨b', i, none⟩ = some v) (v0 v1 v2 : Value) : (((W.setCell ⟨b, 0, none⟩ v0).setCell ⟨b, 1, none⟩ v1).setCell ⟨b, 2, none⟩ v2).cell? ⟨b', i, none⟩ = some v := by
  rw [World.cell?_setCell_far _ _ _ _ (Ne.symm hne), World.cell?_setCell_far _ _ _ _ (Ne.symm hne), World.cell?_setCell_far _ _ _ _ (Ne.symm hne)]; exact h
theorem held_c {W : World} (u : Later W) {a : Addr} {v : Value} (h : W.cell? a = some v) : (on u).cell? a = some v := (u.b.cell (World.block_lt_of_cell? _ _ h)).trans h
theorem stored3c {W0 W : World} {b : Nat} {x0 x1 x2 : Value} {t : TypeId} (hB : Below W0.heap.size W0 W) (hb : W0.heap.size ≤ b) (h : W.heap[b]? = some (.cells #[x0, x1, x2] t)) (v0 v1 v2 : Value) :
    ∃ u' : Later W0, ((W.setCell ⟨b, 0, none⟩ v0).setCell ⟨b, 1, none⟩ v1).setCell ⟨b, 2, none⟩ v2 = on u' ∧ (on u').heap[b]? = some (.cells #[v0, v1, v2] t) :=
  ⟨⟨_, below_set (below_set (below_set hB hb _) hb _) hb _⟩, rfl, held_set (held_set (held_set h 0 v0) 1 v1) 2 v2⟩

theorem grown_below {B : Nat} {w W W' : World} {row : Option Nat} (h : Below B w W) (hB : B ≤ w.heap.size) (hg : W.grownBy W' row) (hr : ∀ k, row = some k → B ≤ k) : Below B w W' := by
  refine ⟨hg.os.trans h.os, hg.tape.trans h.tape, hg.output.trans h.output, Nat.le_trans h.size hg.size, fun k hk => ?_⟩
  rw [hg.block k (Nat.lt_of_lt_of_le hk (Nat.le_trans hB h.size)) (fun e => by have := hr k e.symm; omega)]
  exact h.block k hk

end Go.Proofs.YtbcmfenekpllhaaDoor
