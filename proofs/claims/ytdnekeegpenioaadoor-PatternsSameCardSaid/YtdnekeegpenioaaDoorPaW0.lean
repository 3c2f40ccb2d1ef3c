/-
  Says: rows of creases that a call makes.
-/
import Derived.Test.YtdnekeegpenioaaDoorPa0
import Derived.Deep.RegionHeld3
import Derived.RowKit3
import Derived.BigQuiet
import Derived.Deep.QuietTactic
import Derived.Laws.AppendOwn
set_option linter.unusedVariables false
set_option linter.unusedSimpArgs false
namespace Go.Proofs.YtdnekeegpenioaaDoor
open Go Go.RowKit

attribute [local go_sem] World.cell?_alloc_some frozen?_alloc_cells fz0 fz1 fz2 fz3 fz4 fz5

theorem infoCr : ∃ i z, Tryd.prog.info? 58 = some i ∧ i.zero = some z ∧ i.size = 3 ∧ i.bytes = 16 ∧ z.cells.size = 3 := by
  have h : (Tryd.prog.info? 58).map (fun i => (i.zero, i.size, i.bytes)) = some (some (.agg #[.int .i64 0, .int .u8 0, .int .u8 0]), 3, 16) := by kernel_rfl
  cases hi : Tryd.prog.info? 58 with
  | none => rw [hi] at h; cases h
  | some i =>
    rw [hi] at h
    simp only [Option.map_some, Option.some.injEq, Prod.mk.injEq] at h
    exact ⟨i, _, rfl, h.1, h.2.1, h.2.2, rfl⟩
theorem row_reads {W : World} {g : Nat} {cs : List Value} {t : TypeId} {fr : Nat × Nat} (h : W.heap[g]? = some (.cells cs.toArray t fr)) : ∀ (j : Nat) (u : Value), cs[j]? = some u → W.cell? ((⟨g, 0, none⟩ : Addr).add j) = some u := fun j u hj => by
  have hadd : (⟨g, 0, none⟩ : Addr).add j = ⟨g, j, none⟩ := by unfold Addr.add; split <;> simp_all
  rw [hadd]; simp [World.cell?, h]; simpa using hj
theorem own_cell {W : World} {base n size g cap : Nat} {t : TypeId} {xs : List Value} (h : W.ownsRow base t size (.slice (some ⟨g, 0, none⟩) n cap) n xs) (j : Nat) (u : Value) (hu : xs[j]? = some u) : W.cell? ⟨g, j, none⟩ = some u := by
  have hadd : (⟨g, 0, none⟩ : Addr).add j = ⟨g, j, none⟩ := by unfold Addr.add; split <;> simp_all
  have := h.cells (g := g) rfl j u hu
  rwa [hadd] at this
theorem grown_below {B : Nat} {w W W' : World} {row : Option Nat} (h : Below B w W) (hB : B ≤ w.heap.size) (hg : W.grownBy W' row) (hr : ∀ k, row = some k → B ≤ k) : Below B w W' := by
  refine ⟨hg.os.trans h.os, hg.tape.trans h.tape, hg.output.trans h.output, Nat.le_trans h.size hg.size, fun k hk => ?_⟩
  rw [hg.block k (Nat.lt_of_lt_of_le hk (Nat.le_trans hB h.size)) (fun e => by have := hr k e.symm; omega)]
  exact h.block k hk
/-- A row of units. -/
def UnsAt (m : Nat) (uc ue : Nat → Int) (r : Ending) (w' : World) : Prop :=
  ∃ ab ao cap, r = .returned (.slice (some ⟨ab, ao, none⟩) m cap) ∧ ∀ i, i < m → w'.cell? ⟨ab, ao + i * 2, none⟩ = some (.int .i64 (uc i)) ∧ w'.cell? ⟨ab, ao + i * 2 + 1, none⟩ = some (.int .u8 (ue i))
/-- The cells of the creases of the first units. -/
def crV (uc ue kd : Nat → Int) : Nat → List Value
  | 0 => []
  | i + 1 => crV uc ue kd i ++ (if kd i = 0 then [] else [.int .i64 (uc i), .int .u8 (ue i), .int .u8 (kd i)])
def crN (kd : Nat → Int) : Nat → Nat
  | 0 => 0
  | i + 1 => crN kd i + (if kd i = 0 then 0 else 1)
theorem crN_le (kd : Nat → Int) : ∀ i, crN kd i ≤ i
  | 0 => Nat.le_refl _
  | i + 1 => by have := crN_le kd i; unfold crN; split <;> omega
theorem crV_len (uc ue kd : Nat → Int) : ∀ i, (crV uc ue kd i).length = crN kd i * 3
  | 0 => rfl
  | i + 1 => by
    have := crV_len uc ue kd i
    unfold crV crN
    rw [List.length_append, this]
    split
    · simp
    · simp; omega
theorem crV_at (uc ue kd : Nat → Int) : ∀ i j, j < crN kd i → ∃ t, t < i ∧ kd t ≠ 0 ∧ (crV uc ue kd i)[j * 3]? = some (.int .i64 (uc t)) ∧ (crV uc ue kd i)[j * 3 + 1]? = some (.int .u8 (ue t)) ∧ (crV uc ue kd i)[j * 3 + 2]? = some (.int .u8 (kd t))
  | 0, j, h => by simp [crN] at h
  | i + 1, j, h => by
    have hl := crV_len uc ue kd i
    unfold crN at h
    rcases Nat.lt_or_ge j (crN kd i) with hj | hj
    · obtain ⟨t, h0, h1, h2, h3, h4⟩ := crV_at uc ue kd i j hj
      refine ⟨t, by omega, h1, ?_, ?_, ?_⟩ <;> (unfold crV; rw [List.getElem?_append_left (by omega)]; assumption)
    · split at h
      · omega
      · rename_i hk
        have : j = crN kd i := by omega
        subst this
        refine ⟨i, by omega, hk, ?_, ?_, ?_⟩ <;> (unfold crV; rw [List.getElem?_append_right (by omega), hl, if_neg hk])
        · simp
        · rw [show crN kd i * 3 + 1 - crN kd i * 3 = 1 by omega]; rfl
        · rw [show crN kd i * 3 + 2 - crN kd i * 3 = 2 by omega]; rfl
def iv : Value → Int
  | .int _ n => n
  | _ => 0
def cC (uc ue kd : Nat → Int) (i j : Nat) : Int := iv ((crV uc ue kd i).getD (j * 3) undef)
def cE (uc ue kd : Nat → Int) (i j : Nat) : Int := iv ((crV uc ue kd i).getD (j * 3 + 1) undef)
def cK (uc ue kd : Nat → Int) (i j : Nat) : Int := iv ((crV uc ue kd i).getD (j * 3 + 2) undef)
theorem crV_cells (uc ue kd : Nat → Int) (i j : Nat) (h : j < crN kd i) : (crV uc ue kd i)[j * 3]? = some (.int .i64 (cC uc ue kd i j)) ∧ (crV uc ue kd i)[j * 3 + 1]? = some (.int .u8 (cE uc ue kd i j)) ∧ (crV uc ue kd i)[j * 3 + 2]? = some (.int .u8 (cK uc ue kd i j)) ∧ ∃ t, t < i ∧ kd t ≠ 0 ∧ cC uc ue kd i j = uc t ∧ cE uc ue kd i j = ue t ∧ cK uc ue kd i j = kd t := by
  obtain ⟨t, h0, h1, h2, h3, h4⟩ := crV_at uc ue kd i j h
  have e2 : cC uc ue kd i j = uc t := by unfold cC; rw [List.getD_eq_getElem?_getD, h2]; rfl
  have e3 : cE uc ue kd i j = ue t := by unfold cE; rw [List.getD_eq_getElem?_getD, h3]; rfl
  have e4 : cK uc ue kd i j = kd t := by unfold cK; rw [List.getD_eq_getElem?_getD, h4]; rfl
  exact ⟨by rw [e2]; exact h2, by rw [e3]; exact h3, by rw [e4]; exact h4, t, h0, h1, e2, e3, e4⟩
/-- A pattern that the call has made. -/
def PatAt (B : Nat) (a b : Int) (n : Nat) (c e k : Nat → Int) (r : Ending) (w' : World) : Prop :=
  ∃ pa cap, r = .returned (.agg #[.int .i64 a, .int .i64 b, .slice pa n cap]) ∧ Crs w' pa n c e k ∧ ∀ ad, pa = some ad → B ≤ ad.block ∧ ad.off = 0 ∧ ad.spot = none ∧ ∃ cs, w'.heap[ad.block]? = some (.cells cs 58 (0, 0))
theorem own_crs {W : World} {base i : Nat} {v : Value} {uc ue kd : Nat → Int} (h : W.ownsRow base 58 3 v (crN kd i) (crV uc ue kd i)) :
    ∃ pa cap, v = .slice pa (crN kd i) cap ∧ Crs W pa (crN kd i) (cC uc ue kd i) (cE uc ue kd i) (cK uc ue kd i) ∧ ∀ ad, pa = some ad → base ≤ ad.block ∧ ad.off = 0 ∧ ad.spot = none ∧ ∃ cs, W.heap[ad.block]? = some (.cells cs 58 (0, 0)) := by
  have h' := h
  obtain ⟨_, ⟨rfl, h0⟩ | ⟨g, cap, cur, rfl, hb, hg, _⟩⟩ := h
  · rw [h0]
    exact ⟨none, 0, rfl, fun hn => absurd hn (by omega), (fun _ h => by cases h)⟩
  · refine ⟨_, cap, rfl, fun _ => ⟨g, 0, rfl, fun j hj => ?_⟩, fun ad h => ?_⟩
    · obtain ⟨h1, h2, h3, _⟩ := crV_cells uc ue kd i j hj
      rw [Nat.zero_add]
      exact ⟨own_cell h' _ _ h1, own_cell h' _ _ h2, own_cell h' _ _ h3⟩
    · cases h
      exact ⟨hb, rfl, rfl, cur, hg⟩
theorem owns_set {W : World} {base n size : Nat} {t : TypeId} {v u : Value} {xs : List Value} {p : Addr} (h : W.ownsRow base t size v n xs) (hp : p.block < base) : (W.setCell p u).ownsRow base t size v n xs := by
  obtain ⟨h1, h2 | ⟨g, cap, cur, h3, h4, h5, h6⟩⟩ := h
  · exact ⟨h1, .inl h2⟩
  · refine ⟨h1, .inr ⟨g, cap, cur, h3, h4, ?_, h6⟩⟩
    rw [← h5]
    exact Below.heap_setCell W p u g (by omega)

theorem held_set2 {W : World} {b : Nat} {x0 x1 x2 u : Value} {t : TypeId} (h : W.heap[b]? = some (.cells #[x0, x1, x2] t)) : (W.setCell ⟨b, 2, none⟩ u).heap[b]? = some (.cells #[x0, x1, u] t) := by
  simp [World.setCell, Array.getElem?_modify, h]
theorem Crs.set {W : World} {pa : Option Addr} {n : Nat} {c e k : Nat → Int} (h : Crs W pa n c e k) {p : Addr} (hp : ∀ ad, pa = some ad → ad.block ≠ p.block) (u : Value) : Crs (W.setCell p u) pa n c e k := fun hn => by
  obtain ⟨ab, ao, rfl, h2⟩ := h hn
  have hne := hp _ rfl
  have e : ∀ j, (W.setCell p u).cell? ⟨ab, j, none⟩ = W.cell? ⟨ab, j, none⟩ := fun j => World.cell?_of_block (Below.heap_setCell W p u ab hne)
  exact ⟨ab, ao, rfl, fun i hi => by rw [e, e, e]; exact h2 i hi⟩

end Go.Proofs.YtdnekeegpenioaaDoor
