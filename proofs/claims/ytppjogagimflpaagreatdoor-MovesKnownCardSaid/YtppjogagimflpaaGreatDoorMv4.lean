/-
  Says: what chain gives for the motions of two moves.
-/
import Derived.Test.YtppjogagimflpaaGreatDoorMv2
import Derived.Test.YtppjogagimflpaaGreatDoorMv3
import Derived.Laws.Rows
set_option linter.unusedVariables false
set_option linter.unusedSimpArgs false
namespace Go.Proofs.YtppjogagimflpaaGreatDoor
open Go Go.RowKit

theorem chain_fac (s t X Y U V : Int) (a1 : 0 ≤ s) (a2 : s ≤ 7) (a3 : 0 ≤ t) (a4 : t ≤ 7) :
    mvx t (mvx s 0 0 + X) (mvy s 0 0 + Y) + U = mvx t X Y + U ∧ mvy t (mvx s 0 0 + X) (mvy s 0 0 + Y) + V = mvy t X Y + V ∧
    mvx t (mvx s 1 0 + X) (mvy s 1 0 + Y) + U - (mvx t X Y + U) = mvx (mulT s t) 1 0 ∧ mvx t (mvx s 0 1 + X) (mvy s 0 1 + Y) + U - (mvx t X Y + U) = mvx (mulT s t) 0 1 ∧
    mvy t (mvx s 1 0 + X) (mvy s 1 0 + Y) + V - (mvy t X Y + V) = mvy (mulT s t) 1 0 ∧ mvy t (mvx s 0 1 + X) (mvy s 0 1 + Y) + V - (mvy t X Y + V) = mvy (mulT s t) 0 1 := by
  simp only [mvx_add _ _ _ _ _ a3 a4, mvy_add _ _ _ _ _ a3 a4, mvx_comp s t _ _ a1 a2 a3 a4, mvy_comp s t _ _ a1 a2 a3 a4]
  have z := mulT_range s t a1 a2 a3 a4
  rw [mvx_zero _ z.1 z.2, mvy_zero _ z.1 z.2]
  refine ⟨?_, ?_, ?_, ?_, ?_, ?_⟩ <;> omega
theorem stored222 {W : World} {u : Later W} {b b' b'' : Nat} {x0 x1 y0 y1 z0 z1 : Value} {t t' t'' : TypeId} (hb : W.heap.size ≤ b) (hb' : W.heap.size ≤ b') (hb'' : W.heap.size ≤ b'') (h : (on u).heap[b]? = some (.cells #[x0, x1] t)) (h' : (on u).heap[b']? = some (.cells #[y0, y1] t')) (h'' : (on u).heap[b'']? = some (.cells #[z0, z1] t'')) (n1 : b ≠ b') (n2 : b ≠ b'') (n3 : b' ≠ b'') (v0 v1 v2 v3 v4 v5 : Value) :
    ∃ u' : Later W, ((((((on u).setCell ⟨b, 0, none⟩ v0).setCell ⟨b, 1, none⟩ v1).setCell ⟨b', 0, none⟩ v2).setCell ⟨b', 1, none⟩ v3).setCell ⟨b'', 0, none⟩ v4).setCell ⟨b'', 1, none⟩ v5 = on u' ∧ (on u').heap[b]? = some (.cells #[v0, v1] t) ∧ (on u').heap[b']? = some (.cells #[v2, v3] t') ∧ (on u').heap[b'']? = some (.cells #[v4, v5] t'') := by
  refine ⟨⟨_, (((((u.b.setCell (p := ⟨b, 0, none⟩) hb v0).setCell (p := ⟨b, 1, none⟩) hb v1).setCell (p := ⟨b', 0, none⟩) hb' v2).setCell (p := ⟨b', 1, none⟩) hb' v3).setCell (p := ⟨b'', 0, none⟩) hb'' v4).setCell (p := ⟨b'', 1, none⟩) hb'' v5⟩, rfl, ?_, ?_, ?_⟩
  · exact held_set_other (held_set_other (held_set_other (held_set_other (held_set (held_set h 0 v0) 1 v1) n1 _ _) n1 _ _) n2 _ _) n2 _ _
  · exact held_set_other (held_set_other (held_set (held_set (held_set_other (held_set_other h' n1.symm _ _) n1.symm _ _) 0 v2) 1 v3) n3 _ _) n3 _ _
  · exact held_set (held_set (held_set_other (held_set_other (held_set_other (held_set_other h'' n2.symm _ _) n2.symm _ _) n3.symm _ _) n3.symm _ _) 0 v4) 1 v5

theorem mvx_rng (t x y : Int) (n : Int) (a1 : 0 ≤ t) (a2 : t ≤ 7) (x1 : -n ≤ x) (x2 : x ≤ n) (y1 : -n ≤ y) (y2 : y ≤ n) : -n ≤ mvx t x y := (mvx_range n t x y a1 a2 x1 x2 y1 y2).1
theorem al4 (w : World) (A B C D : Obj) : ((((w.alloc A).alloc B).alloc C).alloc D).heap[w.heap.size + 1]? = some B ∧ ((((w.alloc A).alloc B).alloc C).alloc D).heap[w.heap.size + 1 + 1]? = some C ∧ ((((w.alloc A).alloc B).alloc C).alloc D).heap[w.heap.size + 1 + 1 + 1]? = some D := by
  have z1 : (w.alloc A).heap.size = w.heap.size + 1 := World.size_alloc _ _
  have z2 : ((w.alloc A).alloc B).heap.size = w.heap.size + 1 + 1 := by rw [World.size_alloc, z1]
  have z3 : (((w.alloc A).alloc B).alloc C).heap.size = w.heap.size + 1 + 1 + 1 := by rw [World.size_alloc, z2]
  refine ⟨?_, ?_, ?_⟩
  · rw [heap_alloc_old _ _ (by rw [z3]; omega), heap_alloc_old _ _ (by rw [z2]; omega), ← z1]; exact heap_alloc_new _ _
  · rw [heap_alloc_old _ _ (by rw [z3]; omega), ← z2]; exact heap_alloc_new _ _
  · rw [← z3]; exact heap_alloc_new _ _
set_option maxRecDepth 100000 in
set_option maxHeartbeats 4000000 in
theorem chain_any (s X Y t U V : Int) (b : Nat) (w : World) (hU : Turns w) (hb : w.heap[b]? = some (.cells #[(.func (.func 42) #[mv s X Y] #[]), (.func (.func 42) #[mv t U V] #[])] 76)) (a1 : 0 ≤ s) (a2 : s ≤ 7) (a3 : 0 ≤ t) (a4 : t ≤ 7) (bX1 : -20000 ≤ X) (bX2 : X ≤ 20000) (bY1 : -20000 ≤ Y) (bY2 : Y ≤ 20000) (bU1 : -20000 ≤ U) (bU2 : U ≤ 20000) (bV1 : -20000 ≤ V) (bV2 : V ≤ 20000) :
    Calls Tryz.prog 41 #[.slice (some ⟨b, 0, none⟩) 2 2] w fun e w' => e = .returned (mv (mulT s t) (mvx t X Y + U) (mvy t X Y + V)) ∧ Below w.heap.size w w' := by
  have hlt := held_lt hb
  have hU' : ∀ W, Below w.heap.size w W → Turns W := fun W h => turns_below hU h
  have g : ∀ x y : Int, -1 ≤ x → x ≤ 1 → -1 ≤ y → y ≤ 1 → -1000000 ≤ mvx s x y + X ∧ mvx s x y + X ≤ 1000000 ∧ -1000000 ≤ mvy s x y + Y ∧ mvy s x y + Y ≤ 1000000 := fun x y p1 p2 p3 p4 => by
    have q1 := mvx_range 1 s x y a1 a2 p1 p2 p3 p4
    have q2 := mvy_range 1 s x y a1 a2 p1 p2 p3 p4
    omega
  have G : Hid (∀ x y : Int, -1 ≤ x → x ≤ 1 → -1 ≤ y → y ≤ 1 → -1000000 ≤ mvx s x y + X ∧ mvx s x y + X ≤ 1000000 ∧ -1000000 ≤ mvy s x y + Y ∧ mvy s x y + Y ≤ 1000000) := g
  clear g
  go_enter Tryz.func41, Tryz.ntmps41
  go_wp2_with fail
  go_loopw [14] (fun iv wr => ∃ i ox oy rx ry ux uy : Int, iv = .int .i64 i ∧ ((i = 0 ∧ ox = 0 ∧ oy = 0 ∧ rx = 1 ∧ ry = 0 ∧ ux = 0 ∧ uy = 1) ∨ (i = 1 ∧ ox = mvx s 0 0 + X ∧ oy = mvy s 0 0 + Y ∧ rx = mvx s 1 0 + X ∧ ry = mvy s 1 0 + Y ∧ ux = mvx s 0 1 + X ∧ uy = mvy s 0 1 + Y) ∨ (i = 2 ∧ ox = mvx t (mvx s 0 0 + X) (mvy s 0 0 + Y) + U ∧ oy = mvy t (mvx s 0 0 + X) (mvy s 0 0 + Y) + V ∧ rx = mvx t (mvx s 1 0 + X) (mvy s 1 0 + Y) + U ∧ ry = mvy t (mvx s 1 0 + X) (mvy s 1 0 + Y) + V ∧ ux = mvx t (mvx s 0 1 + X) (mvy s 0 1 + Y) + U ∧ uy = mvy t (mvx s 0 1 + X) (mvy s 0 1 + Y) + V)) ∧ ∃ q : Later (w.alloc (.cells #[.int .u8 0, .int .i64 0, .int .i64 0] 36)), wr = on q ∧ (on q).heap[w.heap.size + 1]? = some (.cells #[.int .i64 (ox), .int .i64 (oy)] 32) ∧ (on q).heap[w.heap.size + 1 + 1]? = some (.cells #[.int .i64 (rx), .int .i64 (ry)] 32) ∧ (on q).heap[w.heap.size + 1 + 1 + 1]? = some (.cells #[.int .i64 (ux), .int .i64 (uy)] 32)) (fun iv _ => (2 - intOf iv).toNat)
  case atStart => exact ⟨0, 0, 0, 1, 0, 0, 1, rfl, by omega, ⟨_, below_alloc (below_alloc (below_alloc (Below.refl _ _) _) _) _⟩, rfl, al4 _ _ _ _ _⟩
  case round =>
    obtain ⟨i, ox, oy, rx, ry, ux, uy, rfl, hi, q, rfl, k3, k4, k5⟩ := hrel
    have hbb : (on q).heap[b]? = _ := held_on q (held_on ⟨_, below_alloc (Below.refl _ _) _⟩ hb)
    have c0 : (on q).cell? ⟨b, 0, none⟩ = some (.func (.func 42) #[mv s X Y] #[]) := held_cell hbb 0
    have c1 : (on q).cell? ⟨b, 1, none⟩ = some (.func (.func 42) #[mv t U V] #[]) := held_cell hbb 1
    have d0 : (on q).cell? ⟨w.heap.size + 1, 0, none⟩ = some (.int .i64 ox) := held_cell k3 0
    have d1 : (on q).cell? ⟨w.heap.size + 1, 1, none⟩ = some (.int .i64 oy) := held_cell k3 1
    have d2 : (on q).cell? ⟨w.heap.size + 1 + 1, 0, none⟩ = some (.int .i64 rx) := held_cell k4 0
    have d3 : (on q).cell? ⟨w.heap.size + 1 + 1, 1, none⟩ = some (.int .i64 ry) := held_cell k4 1
    have d4 : (on q).cell? ⟨w.heap.size + 1 + 1 + 1, 0, none⟩ = some (.int .i64 ux) := held_cell k5 0
    have d5 : (on q).cell? ⟨w.heap.size + 1 + 1 + 1, 1, none⟩ = some (.int .i64 uy) := held_cell k5 1
    have hq : Below w.heap.size w (on q) := below_on (below_alloc (Below.refl _ _) _) q
    clear hbb
    obtain ⟨rfl, hs⟩ | ⟨rfl, hs⟩ | ⟨rfl, hs⟩ := hi
    · obtain ⟨rfl, rfl, rfl, rfl, rfl, rfl⟩ := hs
      go_wp2_with fail
      refine region_tail 9 (by kernel_rfl) (by kernel_rfl) ?_
      simp only [List.take_succ_cons, List.take_zero, List.drop_succ_cons, List.drop_zero]
      repeat (first
        | (refine wpLex_plain (by rfl) (by rfl) (by rfl) (fun K hK => ?_); go_big_quiet_op; refine hK _ ?_; clear hK K)
        | (refine wpLex_call (by rfl) (by rfl) (fun K hK => ?_); go_simp; apply Exists.intro; refine ⟨fun _ => ?_, hK _ ?_⟩; ((first | (go_at_call 42; with_reducible exact Calls.laterL (take_any s X Y _ _ _ (hU' _ (below_on hq _)) a1 a2 (by omega) (by omega) (by omega) (by omega) (by omega) (by omega) (by omega) (by omega))))); clear hK K)
        | (refine wpLex_new (by rfl) ?_; simp only [Act.put, List.setIfInBounds_toArray, List.set_cons_zero, List.set_cons_succ]))
      refine wpLex_nil ?_
      intro u9
      have m3 := held_on u9 k3
      have m4 := held_on u9 k4
      have m5 := held_on u9 k5
      have e0 : (on u9).cell? ⟨w.heap.size + 1, 0, none⟩ = _ := held_cell m3 0
      have e1 : (on u9).cell? ⟨w.heap.size + 1, 1, none⟩ = _ := held_cell m3 1
      have f0 : (on u9).frozen? ⟨w.heap.size + 1, 0, none⟩ = false := held_free m3 0
      have f1 : (on u9).frozen? ⟨w.heap.size + 1, 1, none⟩ = false := held_free m3 1
      have e2 : (on u9).cell? ⟨w.heap.size + 1 + 1, 0, none⟩ = _ := held_cell m4 0
      have e3 : (on u9).cell? ⟨w.heap.size + 1 + 1, 1, none⟩ = _ := held_cell m4 1
      have f2 : (on u9).frozen? ⟨w.heap.size + 1 + 1, 0, none⟩ = false := held_free m4 0
      have f3 : (on u9).frozen? ⟨w.heap.size + 1 + 1, 1, none⟩ = false := held_free m4 1
      have e4 : (on u9).cell? ⟨w.heap.size + 1 + 1 + 1, 0, none⟩ = _ := held_cell m5 0
      have e5 : (on u9).cell? ⟨w.heap.size + 1 + 1 + 1, 1, none⟩ = _ := held_cell m5 1
      have f4 : (on u9).frozen? ⟨w.heap.size + 1 + 1 + 1, 0, none⟩ = false := held_free m5 0
      have f5 : (on u9).frozen? ⟨w.heap.size + 1 + 1 + 1, 1, none⟩ = false := held_free m5 1
      simp only [List.getElem?_toArray, List.getElem?_cons_zero, List.getElem?_cons_succ] at e0 e1 e2 e3 e4 e5
      go_wp2_with fail
      obtain ⟨q1, hq1, hm⟩ := stored222 (W := (w.alloc (.cells #[.int .u8 0, .int .i64 0, .int .i64 0] 36))) (u := ⟨on u9, q.b.trans (u9.b.mono q.b.size)⟩) (b := w.heap.size + 1) (b' := w.heap.size + 1 + 1) (b'' := w.heap.size + 1 + 1 + 1) (by simp) (by simp) (by simp) m3 m4 m5 (by omega) (by omega) (by omega) (.int .i64 (mvx s 0 0 + X)) (.int .i64 (mvy s 0 0 + Y)) (.int .i64 (mvx s 1 0 + X)) (.int .i64 (mvy s 1 0 + Y)) (.int .i64 (mvx s 0 1 + X)) (.int .i64 (mvy s 0 1 + Y))
      refine ⟨⟨1, mvx s 0 0 + X, mvy s 0 0 + Y, mvx s 1 0 + X, mvy s 1 0 + Y, mvx s 0 1 + X, mvy s 0 1 + Y, rfl, .inr (.inl ⟨rfl, rfl, rfl, rfl, rfl, rfl, rfl⟩), q1, hq1, hm⟩, by simp [intOf]⟩
    · obtain ⟨g1, g2, g3, g4⟩ : -1000000 ≤ ox ∧ ox ≤ 1000000 ∧ -1000000 ≤ oy ∧ oy ≤ 1000000 := by
        rw [hs.1, hs.2.1]; exact G.out 0 0 (by omega) (by omega) (by omega) (by omega)
      obtain ⟨g5, g6, g7, g8⟩ : -1000000 ≤ rx ∧ rx ≤ 1000000 ∧ -1000000 ≤ ry ∧ ry ≤ 1000000 := by
        rw [hs.2.2.1, hs.2.2.2.1]; exact G.out 1 0 (by omega) (by omega) (by omega) (by omega)
      obtain ⟨g9, g10, g11, g12⟩ : -1000000 ≤ ux ∧ ux ≤ 1000000 ∧ -1000000 ≤ uy ∧ uy ≤ 1000000 := by
        rw [hs.2.2.2.2.1, hs.2.2.2.2.2]; exact G.out 0 1 (by omega) (by omega) (by omega) (by omega)
      have HS : Hid _ := hs
      clear hs
      go_wp2_with fail
      refine region_tail 9 (by kernel_rfl) (by kernel_rfl) ?_
      simp only [List.take_succ_cons, List.take_zero, List.drop_succ_cons, List.drop_zero]
      repeat (first
        | (refine wpLex_plain (by rfl) (by rfl) (by rfl) (fun K hK => ?_); go_big_quiet_op; refine hK _ ?_; clear hK K)
        | (refine wpLex_call (by rfl) (by rfl) (fun K hK => ?_); go_simp; apply Exists.intro; refine ⟨fun _ => ?_, hK _ ?_⟩; ((first | (go_at_call 42; with_reducible exact Calls.laterL (take_any t U V _ _ _ (hU' _ (below_on hq _)) a3 a4 g1 g2 g3 g4 (by omega) (by omega) (by omega) (by omega))) | (go_at_call 42; with_reducible exact Calls.laterL (take_any t U V _ _ _ (hU' _ (below_on hq _)) a3 a4 g5 g6 g7 g8 (by omega) (by omega) (by omega) (by omega))) | (go_at_call 42; with_reducible exact Calls.laterL (take_any t U V _ _ _ (hU' _ (below_on hq _)) a3 a4 g9 g10 g11 g12 (by omega) (by omega) (by omega) (by omega))))); clear hK K)
        | (refine wpLex_new (by rfl) ?_; simp only [Act.put, List.setIfInBounds_toArray, List.set_cons_zero, List.set_cons_succ]))
      refine wpLex_nil ?_
      intro u9
      have m3 := held_on u9 k3
      have m4 := held_on u9 k4
      have m5 := held_on u9 k5
      have e0 : (on u9).cell? ⟨w.heap.size + 1, 0, none⟩ = _ := held_cell m3 0
      have e1 : (on u9).cell? ⟨w.heap.size + 1, 1, none⟩ = _ := held_cell m3 1
      have f0 : (on u9).frozen? ⟨w.heap.size + 1, 0, none⟩ = false := held_free m3 0
      have f1 : (on u9).frozen? ⟨w.heap.size + 1, 1, none⟩ = false := held_free m3 1
      have e2 : (on u9).cell? ⟨w.heap.size + 1 + 1, 0, none⟩ = _ := held_cell m4 0
      have e3 : (on u9).cell? ⟨w.heap.size + 1 + 1, 1, none⟩ = _ := held_cell m4 1
      have f2 : (on u9).frozen? ⟨w.heap.size + 1 + 1, 0, none⟩ = false := held_free m4 0
      have f3 : (on u9).frozen? ⟨w.heap.size + 1 + 1, 1, none⟩ = false := held_free m4 1
      have e4 : (on u9).cell? ⟨w.heap.size + 1 + 1 + 1, 0, none⟩ = _ := held_cell m5 0
      have e5 : (on u9).cell? ⟨w.heap.size + 1 + 1 + 1, 1, none⟩ = _ := held_cell m5 1
      have f4 : (on u9).frozen? ⟨w.heap.size + 1 + 1 + 1, 0, none⟩ = false := held_free m5 0
      have f5 : (on u9).frozen? ⟨w.heap.size + 1 + 1 + 1, 1, none⟩ = false := held_free m5 1
      simp only [List.getElem?_toArray, List.getElem?_cons_zero, List.getElem?_cons_succ] at e0 e1 e2 e3 e4 e5
      go_wp2_with fail
      obtain ⟨q1, hq1, hm⟩ := stored222 (W := (w.alloc (.cells #[.int .u8 0, .int .i64 0, .int .i64 0] 36))) (u := ⟨on u9, q.b.trans (u9.b.mono q.b.size)⟩) (b := w.heap.size + 1) (b' := w.heap.size + 1 + 1) (b'' := w.heap.size + 1 + 1 + 1) (by simp) (by simp) (by simp) m3 m4 m5 (by omega) (by omega) (by omega) (.int .i64 (mvx t ox oy + U)) (.int .i64 (mvy t ox oy + V)) (.int .i64 (mvx t rx ry + U)) (.int .i64 (mvy t rx ry + V)) (.int .i64 (mvx t ux uy + U)) (.int .i64 (mvy t ux uy + V))
      refine ⟨⟨2, mvx t ox oy + U, mvy t ox oy + V, mvx t rx ry + U, mvy t rx ry + V, mvx t ux uy + U, mvy t ux uy + V, rfl, .inr (.inr ⟨rfl, by rw [HS.out.1, HS.out.2.1], by rw [HS.out.1, HS.out.2.1], by rw [HS.out.2.2.1, HS.out.2.2.2.1], by rw [HS.out.2.2.1, HS.out.2.2.2.1], by rw [HS.out.2.2.2.2.1, HS.out.2.2.2.2.2], by rw [HS.out.2.2.2.2.1, HS.out.2.2.2.2.2]⟩), q1, hq1, hm⟩, by simp [intOf]⟩
    · obtain ⟨rfl, rfl, rfl, rfl, rfl, rfl⟩ := hs
      have H0 := mulT_range s t a1 a2 a3 a4
      have E := chain_fac s t X Y U V a1 a2 a3 a4
      have R := mvx_range 50000 t X Y a3 a4 (by omega) (by omega) (by omega) (by omega)
      have R' := mvy_range 50000 t X Y a3 a4 (by omega) (by omega) (by omega) (by omega)
      have R1 := mvx_range 1 (mulT s t) 1 0 H0.1 H0.2 (by omega) (by omega) (by omega) (by omega)
      have R2 := mvx_range 1 (mulT s t) 0 1 H0.1 H0.2 (by omega) (by omega) (by omega) (by omega)
      have R3 := mvy_range 1 (mulT s t) 1 0 H0.1 H0.2 (by omega) (by omega) (by omega) (by omega)
      have R4 := mvy_range 1 (mulT s t) 0 1 H0.1 H0.2 (by omega) (by omega) (by omega) (by omega)
      generalize mvx t (mvx s 0 0 + X) (mvy s 0 0 + Y) + U = o0 at *
      generalize mvy t (mvx s 0 0 + X) (mvy s 0 0 + Y) + V = o1 at *
      generalize mvx t (mvx s 1 0 + X) (mvy s 1 0 + Y) + U = r0 at *
      generalize mvy t (mvx s 1 0 + X) (mvy s 1 0 + Y) + V = r1 at *
      generalize mvx t (mvx s 0 1 + X) (mvy s 0 1 + Y) + U = v0 at *
      generalize mvy t (mvx s 0 1 + X) (mvy s 0 1 + Y) + V = v1 at *
      obtain ⟨E1, E2, E3, E4, E5, E6⟩ := E
      have y1 : -200000 ≤ o0 ∧ o0 ≤ 200000 := by omega
      have y2 : -200000 ≤ o1 ∧ o1 ≤ 200000 := by omega
      have y3 : -200000 ≤ r0 ∧ r0 ≤ 200000 := by omega
      have y4 : -200000 ≤ r1 ∧ r1 ≤ 200000 := by omega
      have y5 : -200000 ≤ v0 ∧ v0 ≤ 200000 := by omega
      have y6 : -200000 ≤ v1 ∧ v1 ≤ 200000 := by omega
      have TO : ∀ W, Turns W → Calls Tryz.prog 57 #[.agg #[.int .i64 (r0 - o0), .int .i64 (v0 - o0), .int .i64 (r1 - o1), .int .i64 (v1 - o1)]] W (fun e w' => e = .returned (.int .u8 (mulT s t)) ∧ Below W.heap.size W w') := fun W h => by
        rw [E1, E2, E3, E4, E5, E6]; exact turnOf_any _ W h H0.1 H0.2
      have HE : Hid (o0 = mvx t X Y + U ∧ o1 = mvy t X Y + V) := ⟨E1, E2⟩
      clear E1 E2 E3 E4 E5 E6 R R' R1 R2 R3 R4
      go_wp2_with (first | (go_at_call 57; with_reducible refine (TO _ (hU' _ hq)).mono ?_; rintro e wx ⟨rfl, hx⟩; obtain ⟨ux9, rfl⟩ := after hx; clear hx) | fail)
      exact bodyPost_ret (v := mv (mulT s t) (mvx t X Y + U) (mvy t X Y + V)) (by simp [results, Tryz.results41, go_sem, HE.out.1, HE.out.2] <;> omega) rfl ⟨rfl, (by repeat first | (with_reducible exact Below.refl _ _) | (with_reducible refine below_on ?_ _) | (with_reducible refine below_alloc ?_ _) | (with_reducible refine below_set ?_ (by simp; try omega) _))⟩

end Go.Proofs.YtppjogagimflpaaGreatDoor
