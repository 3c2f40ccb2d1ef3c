/-
  Says: Regions whose operations come in any order: what stands in order.
-/
import Derived.Test.YtghkkohjmleepaaDoorVx11
/-! Regions whose operations come in any order: what stands in order. -/
set_option linter.unusedVariables false
set_option linter.unusedSimpArgs false
namespace Go.Vx
open Go.RowKit

/-! ### What must have come before -/
theorem foldl_app {α β : Type} (g : List β → α → β) : ∀ (l : List α) (init : List β), ∃ t, l.foldl (fun acc o => acc ++ [g acc o]) init = init ++ t ∧ t.length = l.length
  | [], init => ⟨[], by simp, rfl⟩
  | o :: l, init => by
    obtain ⟨t, h1, h2⟩ := foldl_app g l (init ++ [g init o])
    exact ⟨g init o :: t, by simp [h1], by simp [h2]⟩

theorem ancs_snoc (l : List Oper) (o : Oper) : ancsL (l ++ [o]) = ancsL l ++ [ancOf (ancsL l) o] := by simp [ancsL]
theorem ancs_length (l : List Oper) : (ancsL l).length = l.length := by
  obtain ⟨t, h1, h2⟩ := foldl_app ancOf l []
  unfold ancsL; rw [h1]; simpa using h2
theorem ancs_prefix (l k : List Oper) : ∃ t, ancsL (l ++ k) = ancsL l ++ t := by
  unfold ancsL
  rw [List.foldl_append]
  obtain ⟨t, h1, _⟩ := foldl_app ancOf k (l.foldl (fun acc o => acc ++ [ancOf acc o]) [])
  exact ⟨t, h1⟩
theorem ancs_get (l : List Oper) (i : Nat) (h : i < l.length) : (ancsL l).getD i 0 = ancOf (ancsL (l.take i)) l[i] := by
  have hl : l = (l.take i ++ [l[i]]) ++ l.drop (i + 1) := by simp
  have h1 := ancs_prefix (l.take i ++ [l[i]]) (l.drop (i + 1))
  obtain ⟨t, ht⟩ := h1
  rw [← hl] at ht
  rw [ht, ancs_snoc]
  have hlen : (ancsL (l.take i)).length = i := by rw [ancs_length]; simp; omega
  simp [List.getD_eq_getElem?_getD, List.getElem?_append, hlen]
theorem ancs_take (l : List Oper) (i j : Nat) (h : j < i) : (ancsL (l.take i)).getD j 0 = (ancsL l).getD j 0 := by
  obtain ⟨t, ht⟩ := ancs_prefix (l.take i) (l.drop i)
  rw [List.take_append_drop] at ht
  rw [ht]
  by_cases hj : j < (ancsL (l.take i)).length
  · simp [List.getD_eq_getElem?_getD, List.getElem?_append, hj]
  · have hlen := ancs_length (l.take i)
    have hle : l.length ≤ j := by
      rw [hlen] at hj; simp at hj; omega
    have : l.drop i = [] := List.drop_eq_nil_of_le (by omega)
    rw [List.take_of_length_le (by omega)] at ht ⊢
    have ht0 : t = [] := by
      have := congrArg List.length ht; simp at this; exact this
    subst ht0; simp

theorem anc_fold (acc : List Nat) (j : Nat) : ∀ (es : List Edge) (s : Nat), (es.foldl (fun s e => if Region.binds .any e then s ||| 2 ^ e.on ||| acc.getD e.on 0 else s) s).testBit j = true →
    s.testBit j = true ∨ ∃ e ∈ es, Region.binds .any e = true ∧ (e.on = j ∨ (acc.getD e.on 0).testBit j = true)
  | [], s, h => .inl h
  | e :: es, s, h => by
    simp only [List.foldl_cons] at h
    rcases anc_fold acc j es _ h with h | ⟨e', h1, h2, h3⟩
    · split at h
      · rename_i hb
        simp only [Nat.testBit_or, Bool.or_eq_true] at h
        rcases h with (h | h) | h
        · exact .inl h
        · refine .inr ⟨e, by simp, hb, .inl ?_⟩
          rw [Nat.testBit_two_pow] at h
          simpa using h
        · exact .inr ⟨e, by simp, hb, .inr h⟩
      · exact .inl h
    · exact .inr ⟨e', by simp [h1], h2, h3⟩

/-- What has all that it stands on. -/
def Closed (l : List Oper) (D : Nat → Prop) : Prop := ∀ i (h : i < l.length), D i → ∀ e ∈ l[i].after, Region.binds .any e = true → D e.on
def ReadyD (l : List Oper) (D : Nat → Prop) (i : Nat) : Prop := ∃ h : i < l.length, ¬ D i ∧ ∀ e ∈ l[i].after, Region.binds .any e = true → D e.on

theorem anc_in {l : List Oper} (hord : ∀ i (h : i < l.length), ∀ e ∈ l[i].after, Region.binds .any e = true → e.on < i) {D : Nat → Prop} (hc : Closed l D) :
    ∀ (n i : Nat), i < n → ∀ (h : i < l.length) (j : Nat), bit (ancsL l) i j = true → (∀ e ∈ l[i].after, Region.binds .any e = true → D e.on) → D j := by
  intro n
  induction n with
  | zero => intro i hi; omega
  | succ n ih =>
    intro i hi h j hb hall
    unfold bit at hb
    rw [ancs_get l i h] at hb
    unfold ancOf at hb
    rcases anc_fold _ _ _ _ hb with h0 | ⟨e, h1, h2, h3⟩
    · simp at h0
    · have he : e ∈ l[i].after := by simpa using h1
      have hd := hall e he h2
      have hlt := hord i h e he h2
      rcases h3 with h3 | h3
      · rw [← h3]; exact hd
      · rw [ancs_take l i e.on hlt] at h3
        have hel : e.on < l.length := by omega
        exact ih e.on (by omega) hel j h3 (hc e.on hel hd)

/-- What the look found. -/
structure Drawn (l : List Oper) : Prop where
  ord : ∀ i (h : i < l.length), ∀ e ∈ l[i].after, Region.binds .any e = true → e.on < i
  tmp : ∀ j (hj : j < l.length) d, l[j].dst = some d → ∀ i (hi : i < l.length), i ≠ j → (d ∈ looksL l l[i] ∨ l[i].dst = some d) → ordB (ancsL l) i j = true
  five : ∀ i (hi : i < l.length), (clsL l)[i]? = some 5 → ∀ j (hj : j < l.length), i ≠ j → 2 ≤ clsOf l[j].op → ordB (ancsL l) i j = true
  four : ∀ i j, (clsL l)[i]? = some 4 → (clsL l)[j]? = some 3 → ordB (ancsL l) i j = true

theorem zipIdx_all {α : Type} {l : List α} {p : α × Nat → Bool} (h : l.zipIdx.all p = true) (i : Nat) (hi : i < l.length) : p (l[i], i) = true := by
  refine List.all_eq_true.1 h _ ?_
  rw [List.mem_iff_getElem]
  exact ⟨i, by simpa using hi, by simp⟩

theorem cls_get (l : List Oper) (i : Nat) (h : i < l.length) : (clsL l)[i]? = some (if clsOf l[i].op == 4 && (l.map fun o => clsOf o.op).zipIdx.all (fun (c', j) => Nat.blt c' 2 || i == j || ordB (ancsL l) i j) then 5 else clsOf l[i].op) := by
  unfold clsL
  rw [List.getElem?_map]
  have hz : ((l.map fun o => clsOf o.op).zipIdx)[i]? = some (clsOf l[i].op, i) := by rw [List.getElem?_zipIdx]; simp [h]
  rw [hz]
  rfl
theorem cls_length (l : List Oper) : (clsL l).length = l.length := by unfold clsL; simp

theorem drawn_of {l : List Oper} (h : drawOk l = true) : Drawn l := by
  unfold drawOk at h
  simp only [Bool.and_eq_true] at h
  obtain ⟨⟨h1, h2⟩, h3⟩ := h
  refine ⟨fun i hi e he hb => ?_, fun j hj d hd i hi hne hlook => ?_, fun i hi hc j hj hne h2' => ?_, fun i j hi hj => ?_⟩
  · have := zipIdx_all h1 i hi
    simp only at this
    have := List.all_eq_true.1 this e (by simpa using he)
    rw [hb] at this
    exact blt_lt (by simpa using this)
  · have := zipIdx_all h2 j hj
    simp only [hd] at this
    have := zipIdx_all this i hi
    simp only [Bool.or_eq_true, Bool.not_eq_true', beq_iff_eq] at this
    rcases this with (h | h) | h
    · exact absurd h hne
    · rcases hlook with hl | hl
      · simp [hl] at h
      · simp [hl] at h
    · exact h
  · rw [cls_get l i hi] at hc
    split at hc
    · rename_i hcond
      simp only [Bool.and_eq_true] at hcond
      have := zipIdx_all hcond.2 j (by simpa using hj)
      simp only [List.getElem_map, Bool.or_eq_true, beq_iff_eq] at this
      rcases this with (h | h) | h
      · exact absurd (blt_lt h) (by omega)
      · exact absurd h hne
      · exact h
    · have hc := Option.some.inj hc
      exfalso
      cases hq : l[i].op <;> simp [clsOf, hq] at hc
      all_goals (first | (split at hc <;> omega) | omega | skip)
  · obtain ⟨hil, hi'⟩ := List.getElem?_eq_some_iff.1 hi
    obtain ⟨hjl, hj'⟩ := List.getElem?_eq_some_iff.1 hj
    have := zipIdx_all h3 i hil
    simp only [hi', show (!((4 : Nat) == 4)) = false from rfl, Bool.false_or] at this
    have := zipIdx_all this j hjl
    simpa [hj'] using this
end Go.Vx
