/-
  Says: what Text of package segments gives.
-/
import Derived.Test.YtkmmnlhmfiabfaaGreatDoorFnK
import Derived.Test.YtkmmnlhmfiabfaaGreatDoorShelfB
import Derived.Lib.AtoiAllCases
import Derived.Lib.CutLaws
import Derived.Lib.SplitLaws
import Derived.Lib.ItoaMem
import Derived.RowKit3
import Derived.Deep.RegionHeld3
set_option linter.unusedVariables false
set_option linter.unusedSimpArgs false
namespace Go.Proofs.YtkmmnlhmfiabfaaGreatDoor
open Go Go.RowKit

/-- What of the package-level variables the functions of package segments need. -/
structure Std (w : World) : Prop where
  tab : Tab w
  es : ∃ ev, w.cell? ⟨2, 0, none⟩ = some ev ∧ (ev = .nilIface ∨ ∃ te pe, ev = .iface te pe)
  er : ∃ ev, w.cell? ⟨3, 0, none⟩ = some ev ∧ (ev = .nilIface ∨ ∃ te pe, ev = .iface te pe)
  ml : ∃ m, w.cell? ⟨0, 0, none⟩ = some (.int .i64 m)
theorem std_below {w w' : World} (h : Std w) (hb : Below w.heap.size w w') : Std w' := by
  obtain ⟨h1, ⟨e1, h3, h3'⟩, ⟨e2, h4, h4'⟩, ⟨m, h5⟩⟩ := h
  exact ⟨tab_below h1 hb, ⟨e1, (hb.cell (World.block_lt_of_cell? _ _ h3)).trans h3, h3'⟩, ⟨e2, (hb.cell (World.block_lt_of_cell? _ _ h4)).trans h4, h4'⟩, ⟨m, (hb.cell (World.block_lt_of_cell? _ _ h5)).trans h5⟩⟩
theorem eqf {A B : Int} (h : A ≠ B) : (A == B) = false := by simpa using h
theorem fz (w : World) (n i : Nat) (h : w.heap.size ≤ n) : w.frozen? ⟨n, i, none⟩ = false := by
  have e : w.heap[n]? = none := Array.getElem?_eq_none h
  simp [World.frozen?, e]
theorem fz0 (w : World) (i : Nat) : w.frozen? ⟨w.heap.size, i, none⟩ = false := fz w _ _ (by omega)
theorem fz1 (w : World) (i : Nat) : w.frozen? ⟨w.heap.size + 1, i, none⟩ = false := fz w _ _ (by omega)
theorem fz2 (w : World) (i : Nat) : w.frozen? ⟨w.heap.size + 1 + 1, i, none⟩ = false := fz w _ _ (by omega)
theorem fz3 (w : World) (i : Nat) : w.frozen? ⟨w.heap.size + 1 + 1 + 1, i, none⟩ = false := fz w _ _ (by omega)
theorem fz4 (w : World) (i : Nat) : w.frozen? ⟨w.heap.size + 1 + 1 + 1 + 1, i, none⟩ = false := fz w _ _ (by omega)
theorem fz5 (w : World) (i : Nat) : w.frozen? ⟨w.heap.size + 1 + 1 + 1 + 1 + 1, i, none⟩ = false := fz w _ _ (by omega)
/-- The number that Atoi gives, with whatever error. -/
def atv (l : List UInt8) : Int := match Lib.atoiAll l with
  | .ok v => v
  | .«syntax» => 0
  | .range => Lib.atoiSat l
def AtE (s : ByteArray) (w : World) (e : Ending) (w' : World) : Prop := ∃ er, e = .returned (.tuple #[.int .i64 (atv s.data.toList), er]) ∧ Below w.heap.size w w'
theorem atoi_gen (s : ByteArray) (w : World) (hS : Std w) (hl : s.size ≤ 281474976710656) : Calls Tryz.prog 79 #[.string s] w (AtE s w) := by
  cases h : Lib.atoiAll s.data.toList with
  | ok v =>
    refine (Tryz.strconv_Atoi_ok s (by omega) v h w).mono fun e w' ⟨he, hw⟩ => ⟨.nilIface, ?_, ?_⟩
    · rw [he]; unfold atv; rw [h]
    · obtain rfl | ⟨t, rfl⟩ := hw
      · exact Below.refl _ _
      · exact Lib.bytesWorld_below _ _ _
  | «syntax» =>
    obtain ⟨ev, h3, h3'⟩ := hS.es
    refine (Tryz.strconv_Atoi_syntax s hl h ev w h3 h3').mono fun e w' ⟨N, he, _, _, hb⟩ => ⟨.iface 233 (.pointer (some ⟨N, 0, none⟩)), he.trans ?_, hb⟩
    unfold atv; rw [h]
  | range =>
    obtain ⟨ev, h3, h3'⟩ := hS.er
    refine (Tryz.strconv_Atoi_range s hl h ev w h3 h3').mono fun e w' ⟨N, he, _, _, hb⟩ => ⟨.iface 233 (.pointer (some ⟨N, 0, none⟩)), he.trans ?_, hb⟩
    unfold atv; rw [h]

theorem dig_rng (n : Nat) : ∀ u, u ≤ n → ∀ b ∈ Lib.decDigits u, 48 ≤ b.toNat ∧ b.toNat ≤ 57 := by
  induction n with
  | zero =>
    intro u hn b hb
    rw [Lib.decDigits_one (by omega)] at hb
    rw [List.mem_singleton.1 hb, UInt8.toNat_ofNat']; omega
  | succ n ih =>
    intro u hn b hb
    by_cases h : u < 10
    · rw [Lib.decDigits_one h] at hb
      rw [List.mem_singleton.1 hb, UInt8.toNat_ofNat']; omega
    · rw [Lib.decDigits.eq_1 u, dif_neg h] at hb
      rcases List.mem_append.1 hb with hb | hb
      · exact ih (u / 10) (by omega) b hb
      · rw [List.mem_singleton.1 hb, UInt8.toNat_ofNat']; omega
theorem dig_ne (u : Nat) : Lib.decDigits u ≠ [] := by
  by_cases h : u < 10
  · rw [Lib.decDigits_one h]; simp
  · rw [Lib.decDigits.eq_1 u, dif_neg h]; simp
theorem parse_snoc (c : UInt8) (h1 : 48 ≤ c.toNat) (h2 : c.toNat ≤ 57) : ∀ (l : List UInt8) (acc v : Nat), Lib.parseUint10 acc l = .ok v → v ≤ 100000 → Lib.parseUint10 acc (l ++ [c]) = .ok (v * 10 + (c.toNat - 48))
  | [], acc, v, h, hv => by
    simp only [Lib.parseUint10] at h
    cases h
    simp only [List.nil_append, Lib.parseUint10]
    rw [if_pos ⟨h1, h2⟩, if_neg (by omega), if_neg (by omega)]
  | b :: l, acc, v, h, hv => by
    simp only [Lib.parseUint10, List.cons_append] at h ⊢
    split at h
    · rename_i hb
      rw [if_pos hb]
      split at h
      · cases h
      · rename_i ha
        rw [if_neg ha]
        split at h
        · cases h
        · rename_i hc
          rw [if_neg hc]
          exact parse_snoc c h1 h2 l _ v h hv
    · cases h
theorem parse_dig (n : Nat) : ∀ u, u ≤ n → u ≤ 100000 → Lib.parseUint10 0 (Lib.decDigits u) = .ok u := by
  induction n with
  | zero =>
    intro u hn h
    have : u = 0 := by omega
    subst this
    rw [Lib.decDigits_one (by omega)]
    rfl
  | succ n ih =>
    intro u hn h
    by_cases h10 : u < 10
    · rw [Lib.decDigits_one h10]
      have e : (UInt8.ofNat (48 + u)).toNat = 48 + u := by rw [UInt8.toNat_ofNat']; omega
      have := parse_snoc (UInt8.ofNat (48 + u)) (by omega) (by omega) [] 0 0 rfl (by omega)
      rw [List.nil_append] at this
      rw [this, e]
      congr 1; omega
    · rw [Lib.decDigits.eq_1 u, dif_neg h10]
      have e : (UInt8.ofNat (48 + u % 10)).toNat = 48 + u % 10 := by rw [UInt8.toNat_ofNat']; omega
      rw [parse_snoc _ (by omega) (by omega) _ 0 (u / 10) (ih (u / 10) (by omega) (by omega)) (by omega), e]
      congr 1; omega
theorem mag_dig (u : Nat) (h : u ≤ 100000) : Lib.parseMag (Lib.decDigits u) = .ok u := by
  unfold Lib.parseMag
  rw [if_neg (dig_ne u)]
  exact parse_dig u u (Nat.le_refl _) h
theorem atv_itoa (n : Int) (h1 : -100000 ≤ n) (h2 : n ≤ 100000) : atv (Lib.itoa n) = n := by
  have key : Lib.atoiAll (Lib.itoa n) = .ok n := by
    by_cases h : n < 0
    · obtain ⟨u, rfl⟩ : ∃ u : Nat, n = -(u : Int) := ⟨n.natAbs, by omega⟩
      rw [Lib.itoa_neg u (by omega), Lib.atoiAll_minus, mag_dig u (by omega)]
      unfold Lib.signed
      simp only
      rw [if_neg (by omega)]
    · obtain ⟨u, rfl⟩ : ∃ u : Nat, n = (u : Int) := ⟨n.natAbs, by omega⟩
      rw [Lib.itoa_nonneg u]
      have hm := mag_dig u (by omega)
      have hr := dig_rng u u (Nat.le_refl _)
      cases hd : Lib.decDigits u with
      | nil => exact absurd hd (dig_ne u)
      | cons c r =>
        have hc := hr c (by rw [hd]; exact List.mem_cons_self ..)
        rw [hd] at hm
        rw [Lib.atoiAll_plain c r (by omega) (by omega), hm]
        unfold Lib.signless
        simp only
        rw [if_neg (by omega)]
  unfold atv
  rw [key]
theorem itoa_no32 (n : Int) : ∀ b ∈ Lib.itoa n, b ≠ 32 := by
  intro b hb
  have key : b.toNat ≠ 32 := by
    by_cases h : n < 0
    · obtain ⟨u, rfl⟩ : ∃ u : Nat, n = -(u : Int) := ⟨n.natAbs, by omega⟩
      rw [Lib.itoa_neg u (by omega)] at hb
      rcases List.mem_cons.1 hb with hb | hb
      · rw [hb]; decide
      · have := dig_rng u u (Nat.le_refl _) b hb; omega
    · obtain ⟨u, rfl⟩ : ∃ u : Nat, n = (u : Int) := ⟨n.natAbs, by omega⟩
      rw [Lib.itoa_nonneg u] at hb
      have := dig_rng u u (Nat.le_refl _) b hb; omega
  intro e
  rw [e] at key
  exact key rfl
theorem idx_hit (r : List UInt8) : ∀ l : List UInt8, (∀ b ∈ l, b ≠ 32) → Lib.indexByte (l ++ 32 :: r) 32 = l.length
  | [], _ => rfl
  | b :: l, h => by
    have hb : (b == 32) = false := by simpa using h b (List.mem_cons_self ..)
    have ih := idx_hit r l (fun x hx => h x (List.mem_cons_of_mem _ hx))
    rw [List.cons_append, Lib.indexByte, ih, hb]
    have e : ((l.length : Int) == -1) = false := eqf (by omega)
    simp [e]
theorem splitK_hit (A r : List UInt8) (k : Nat) (h : ∀ b ∈ A, b ≠ 32) : Lib.splitK [32] 0 (k + 1) (A ++ 32 :: r) = A :: Lib.splitK [32] 0 k r := by
  have e := idx_hit r A h
  rw [Lib.splitK, Lib.index_one, e]
  have e1 : ((A.length : Int) == -1) = false := eqf (by omega)
  rw [e1]
  simp

theorem bytes_inj : ∀ (l m : List ByteArray), l.map (·.data.toList) = m.map (·.data.toList) → l = m := by
  intro l
  induction l with
  | nil => intro m hm; cases m with
    | nil => rfl
    | cons => simp at hm
  | cons x l ih => intro m hm; cases m with
    | nil => simp at hm
    | cons y m =>
      simp only [List.map_cons, List.cons.injEq] at hm
      obtain ⟨h1, h2⟩ := hm
      rw [ih m h2]
      congr 1
      cases x; cases y
      congr 1
      exact Array.toList_inj.1 h1
theorem split_text5 (A B C D E : List UInt8) (ha : ∀ b ∈ A, b ≠ 32) (hb : ∀ b ∈ B, b ≠ 32) (hc : ∀ b ∈ C, b ≠ 32) (hd : ∀ b ∈ D, b ≠ 32) : Lib.splitB ⟨#[32]⟩ 0 4 ⟨(A ++ 32 :: (B ++ 32 :: (C ++ 32 :: (D ++ 32 :: E)))).toArray⟩ = [⟨A.toArray⟩, ⟨B.toArray⟩, ⟨C.toArray⟩, ⟨D.toArray⟩, ⟨E.toArray⟩] := by
  have h := Lib.splitB_data ⟨#[32]⟩ 0 4 ⟨(A ++ 32 :: (B ++ 32 :: (C ++ 32 :: (D ++ 32 :: E)))).toArray⟩
  have e : (ByteArray.mk (A ++ 32 :: (B ++ 32 :: (C ++ 32 :: (D ++ 32 :: E)))).toArray).data.toList = A ++ 32 :: (B ++ 32 :: (C ++ 32 :: (D ++ 32 :: E))) := by simp
  rw [e, show (ByteArray.mk #[32]).data.toList = [32] from rfl, splitK_hit A _ 3 ha, splitK_hit B _ 2 hb, splitK_hit C _ 1 hc, splitK_hit D _ 0 hd] at h
  refine bytes_inj _ _ ?_
  rw [h]
  simp [Lib.splitK]
end Go.Proofs.YtkmmnlhmfiabfaaGreatDoor
set_option linter.unusedVariables false
set_option linter.unusedSimpArgs false
namespace Go.Proofs.YtkmmnlhmfiabfaaGreatDoor
open Go Go.RowKit

attribute [local go_sem] World.cell?_alloc_some frozen?_alloc_cells fz0 fz1 fz2 fz3 fz4 fz5

abbrev sg (k l c f t : Int) : Value := .agg #[.int .u8 k, .int .u8 l, .int .i64 c, .int .i64 f, .int .i64 t]
/-- The letter of a kind of crease; the text of a segment. -/
def letS (k : Int) : UInt8 := if k = 1 then 109 else if k = 2 then 118 else 97
def textS (k l c f t : Int) : List UInt8 := [letS k, 32] ++ textL l c ++ [32] ++ Lib.itoa f ++ [32] ++ Lib.itoa t

set_option maxRecDepth 100000 in
set_option maxHeartbeats 4000000 in
theorem isg_yes (k l c f t : Int) (w : World) (a1 : 1 ≤ k) (a2 : k ≤ 3) (b1 : 1 ≤ l) (b2 : l ≤ 4) (b3 : -4096 ≤ c) (b4 : c ≤ 4096) (e1 : f < t) : Calls Tryz.prog 32 #[sg k l c f t] w fun e w' => e = .returned (.bool true) ∧ Below w.heap.size w w' := by
  go_enter Tryz.func32, Tryz.ntmps32
  go_wp2_with (first | (go_at_call 58; (with_reducible refine (check_ok l c _ b1 b2 b3 b4).mono ?_); rintro e wx ⟨rfl, hx⟩; obtain ⟨ux, rfl⟩ := after hx; clear hx) | fail)
  go_ret
  exact ⟨rfl, (by repeat first | (with_reducible exact Below.refl _ _) | (with_reducible refine below_on ?_ _) | (with_reducible refine below_alloc ?_ _) | (with_reducible refine below_set ?_ (by simp; try omega) _))⟩

set_option maxRecDepth 100000 in
set_option maxHeartbeats 4000000 in
theorem isg_no1 (k l c f t : Int) (w : World) (h : k < 1) : Calls Tryz.prog 32 #[sg k l c f t] w fun e w' => e = .returned (.bool false) ∧ Below w.heap.size w w' := by
  go_enter Tryz.func32, Tryz.ntmps32
  go_wp2_with (first | fail | fail)
  go_ret
  exact ⟨rfl, (by repeat first | (with_reducible exact Below.refl _ _) | (with_reducible refine below_on ?_ _) | (with_reducible refine below_alloc ?_ _) | (with_reducible refine below_set ?_ (by simp; try omega) _))⟩

set_option maxRecDepth 100000 in
set_option maxHeartbeats 4000000 in
theorem isg_no2 (k l c f t : Int) (w : World) (a1 : 1 ≤ k) (h : 3 < k) : Calls Tryz.prog 32 #[sg k l c f t] w fun e w' => e = .returned (.bool false) ∧ Below w.heap.size w w' := by
  go_enter Tryz.func32, Tryz.ntmps32
  go_wp2_with (first | fail | fail)
  go_ret
  exact ⟨rfl, (by repeat first | (with_reducible exact Below.refl _ _) | (with_reducible refine below_on ?_ _) | (with_reducible refine below_alloc ?_ _) | (with_reducible refine below_set ?_ (by simp; try omega) _))⟩

set_option maxRecDepth 100000 in
set_option maxHeartbeats 4000000 in
theorem isg_no3 (k l c f t : Int) (w : World) (a1 : 1 ≤ k) (a2 : k ≤ 3) (h : l < 1 ∨ 4 < l ∨ c < -4096 ∨ 4096 < c) : Calls Tryz.prog 32 #[sg k l c f t] w fun e w' => e = .returned (.bool false) ∧ Below w.heap.size w w' := by
  have H : Hid (l < 1 ∨ 4 < l ∨ c < -4096 ∨ 4096 < c) := h
  clear h
  go_enter Tryz.func32, Tryz.ntmps32
  go_wp2_with (first | (go_at_call 58; (with_reducible refine (check_bad l c _ H.out).mono ?_); rintro e wx ⟨rfl, hx⟩; obtain ⟨ux, rfl⟩ := after hx; clear hx) | fail)
  go_ret
  exact ⟨rfl, (by repeat first | (with_reducible exact Below.refl _ _) | (with_reducible refine below_on ?_ _) | (with_reducible refine below_alloc ?_ _) | (with_reducible refine below_set ?_ (by simp; try omega) _))⟩

set_option maxRecDepth 100000 in
set_option maxHeartbeats 4000000 in
theorem isg_no4 (k l c f t : Int) (w : World) (a1 : 1 ≤ k) (a2 : k ≤ 3) (b1 : 1 ≤ l) (b2 : l ≤ 4) (b3 : -4096 ≤ c) (b4 : c ≤ 4096) (h : t ≤ f) : Calls Tryz.prog 32 #[sg k l c f t] w fun e w' => e = .returned (.bool false) ∧ Below w.heap.size w w' := by
  go_enter Tryz.func32, Tryz.ntmps32
  go_wp2_with (first | (go_at_call 58; (with_reducible refine (check_ok l c _ b1 b2 b3 b4).mono ?_); rintro e wx ⟨rfl, hx⟩; obtain ⟨ux, rfl⟩ := after hx; clear hx) | fail)
  go_ret
  exact ⟨congrArg (fun b => Ending.returned (.bool b)) (decide_eq_false (by omega)), (by repeat first | (with_reducible exact Below.refl _ _) | (with_reducible refine below_on ?_ _) | (with_reducible refine below_alloc ?_ _) | (with_reducible refine below_set ?_ (by simp; try omega) _))⟩

theorem isg_no (k l c f t : Int) (w : World) (h : k < 1 ∨ 3 < k ∨ l < 1 ∨ 4 < l ∨ c < -4096 ∨ 4096 < c ∨ t ≤ f) : Calls Tryz.prog 32 #[sg k l c f t] w fun e w' => e = .returned (.bool false) ∧ Below w.heap.size w w' := by
  by_cases q1 : k < 1
  · exact isg_no1 k l c f t w q1
  by_cases q2 : 3 < k
  · exact isg_no2 k l c f t w (by omega) q2
  by_cases q3 : l < 1 ∨ 4 < l ∨ c < -4096 ∨ 4096 < c
  · exact isg_no3 k l c f t w (by omega) (by omega) q3
  exact isg_no4 k l c f t w (by omega) (by omega) (by omega) (by omega) (by omega) (by omega) (by omega)

set_option maxRecDepth 100000 in
set_option maxHeartbeats 4000000 in
theorem stext_1 (l c f t : Int) (w : World) (hT : Tab w) (b1 : 1 ≤ l) (b2 : l ≤ 4) (b3 : -4096 ≤ c) (b4 : c ≤ 4096) (e1 : f < t) (e2 : -4096 ≤ f) (e3 : t ≤ 4096) : Calls Tryz.prog 29 #[sg 1 l c f t] w fun e w' => e = .returned (.string ⟨(textS 1 l c f t).toArray⟩) ∧ Below w.heap.size w w' := by
  have hT' : ∀ W, Below w.heap.size w W → Tab W := fun W hb => tab_below hT hb
  have l1 := itoa_len f (by omega) (by omega)
  have l2 := itoa_len t (by omega) (by omega)
  have l3 := itoa_len c (by omega) (by omega)
  have l4 : (textL l c).length ≤ 23 := by unfold textL; simp; omega
  have hix : ∀ w, (Instr.index 9 (.string ⟨#[109, 118, 97]⟩) (.int .u8 0)).run Tryz.prog w = .ok (.int .u8 109) w := fun _ => by kernel_rfl
  have hcv : ∀ w, (convert 5 9 (.int .u8 109)).run Tryz.prog w = .ok (.string ⟨#[109]⟩) w := fun _ => by kernel_rfl
  have hA : ∀ w, (Op.stringOp .add ⟨#[109]⟩ ⟨#[32]⟩).run Tryz.prog w = .ok (.string ⟨#[109, 32]⟩) w := fun w => run_string_add_lists w [109] [32] (by simp) (by simp)
  have hB : ∀ w, (Op.stringOp .add ⟨#[109, 32]⟩ ⟨(textL l c).toArray⟩).run Tryz.prog w = .ok (.string ⟨([109, 32] ++ textL l c).toArray⟩) w := fun w => run_string_add_lists w [109, 32] _ (by simp) (by omega)
  have hC : ∀ w, (Op.stringOp .add ⟨([109, 32] ++ textL l c).toArray⟩ ⟨#[32]⟩).run Tryz.prog w = .ok (.string ⟨([109, 32] ++ textL l c ++ [32]).toArray⟩) w := fun w => run_string_add_lists w _ [32] (by simp; omega) (by simp)
  have hD : ∀ w, (Op.stringOp .add ⟨([109, 32] ++ textL l c ++ [32]).toArray⟩ ⟨(Lib.itoa f).toArray⟩).run Tryz.prog w = .ok (.string ⟨([109, 32] ++ textL l c ++ [32] ++ Lib.itoa f).toArray⟩) w := fun w => run_string_add_lists w _ _ (by simp; omega) (by omega)
  have hE : ∀ w, (Op.stringOp .add ⟨([109, 32] ++ textL l c ++ [32] ++ Lib.itoa f).toArray⟩ ⟨#[32]⟩).run Tryz.prog w = .ok (.string ⟨([109, 32] ++ textL l c ++ [32] ++ Lib.itoa f ++ [32]).toArray⟩) w := fun w => run_string_add_lists w _ [32] (by simp; omega) (by simp)
  have hF : ∀ w, (Op.stringOp .add ⟨([109, 32] ++ textL l c ++ [32] ++ Lib.itoa f ++ [32]).toArray⟩ ⟨(Lib.itoa t).toArray⟩).run Tryz.prog w = .ok (.string ⟨(textS 1 l c f t).toArray⟩) w := fun w => run_string_add_lists w _ _ (by simp; omega) (by omega)
  clear l1 l2 l3 l4
  generalize hX5 : [109, 32] ++ textL l c ++ [32] ++ Lib.itoa f ++ [32] = X5 at *
  generalize hX4 : [109, 32] ++ textL l c ++ [32] ++ Lib.itoa f = X4 at *
  generalize hX3 : [109, 32] ++ textL l c ++ [32] = X3 at *
  generalize hX2 : [109, 32] ++ textL l c = X2 at *
  clear hX5 hX4 hX3 hX2
  go_enter Tryz.func29, Tryz.ntmps29
  go_wp2_with (first | (go_at_call 32; (with_reducible refine (isg_yes 1 l c f t _ (by omega) (by omega) b1 b2 b3 b4 e1).mono ?_); rintro e wx ⟨rfl, hx⟩; obtain ⟨ux, rfl⟩ := after hx; clear hx) | fail)
  refine region_later (by kernel_rfl) (by kernel_rfl) ?_
  repeat (go_big_quiet_step ((first | (go_at_call 56; with_reducible exact Calls.later (text_ok l c _ (hT' _ (by repeat first | (with_reducible exact Below.refl _ _) | (with_reducible refine below_on ?_ _) | (with_reducible refine below_alloc ?_ _) | (with_reducible refine below_set ?_ (by simp; try omega) _))) b1 b2 b3 b4)) | (go_at_call 57; with_reducible exact Calls.later (itoa_any f _ (hT' _ (by repeat first | (with_reducible exact Below.refl _ _) | (with_reducible refine below_on ?_ _) | (with_reducible refine below_alloc ?_ _) | (with_reducible refine below_set ?_ (by simp; try omega) _))) (by omega) (by omega))) | (go_at_call 57; with_reducible exact Calls.later (itoa_any t _ (hT' _ (by repeat first | (with_reducible exact Below.refl _ _) | (with_reducible refine below_on ?_ _) | (with_reducible refine below_alloc ?_ _) | (with_reducible refine below_set ?_ (by simp; try omega) _))) (by omega) (by omega))))))
  refine wpQuiet_nil ?_
  rintro _ ⟨u3, rfl⟩
  go_wp2
  go_ret
  exact ⟨rfl, (by repeat first | (with_reducible exact Below.refl _ _) | (with_reducible refine below_on ?_ _) | (with_reducible refine below_alloc ?_ _) | (with_reducible refine below_set ?_ (by simp; try omega) _))⟩

set_option maxRecDepth 100000 in
set_option maxHeartbeats 4000000 in
theorem stext_2 (l c f t : Int) (w : World) (hT : Tab w) (b1 : 1 ≤ l) (b2 : l ≤ 4) (b3 : -4096 ≤ c) (b4 : c ≤ 4096) (e1 : f < t) (e2 : -4096 ≤ f) (e3 : t ≤ 4096) : Calls Tryz.prog 29 #[sg 2 l c f t] w fun e w' => e = .returned (.string ⟨(textS 2 l c f t).toArray⟩) ∧ Below w.heap.size w w' := by
  have hT' : ∀ W, Below w.heap.size w W → Tab W := fun W hb => tab_below hT hb
  have l1 := itoa_len f (by omega) (by omega)
  have l2 := itoa_len t (by omega) (by omega)
  have l3 := itoa_len c (by omega) (by omega)
  have l4 : (textL l c).length ≤ 23 := by unfold textL; simp; omega
  have hix : ∀ w, (Instr.index 9 (.string ⟨#[109, 118, 97]⟩) (.int .u8 1)).run Tryz.prog w = .ok (.int .u8 118) w := fun _ => by kernel_rfl
  have hcv : ∀ w, (convert 5 9 (.int .u8 118)).run Tryz.prog w = .ok (.string ⟨#[118]⟩) w := fun _ => by kernel_rfl
  have hA : ∀ w, (Op.stringOp .add ⟨#[118]⟩ ⟨#[32]⟩).run Tryz.prog w = .ok (.string ⟨#[118, 32]⟩) w := fun w => run_string_add_lists w [118] [32] (by simp) (by simp)
  have hB : ∀ w, (Op.stringOp .add ⟨#[118, 32]⟩ ⟨(textL l c).toArray⟩).run Tryz.prog w = .ok (.string ⟨([118, 32] ++ textL l c).toArray⟩) w := fun w => run_string_add_lists w [118, 32] _ (by simp) (by omega)
  have hC : ∀ w, (Op.stringOp .add ⟨([118, 32] ++ textL l c).toArray⟩ ⟨#[32]⟩).run Tryz.prog w = .ok (.string ⟨([118, 32] ++ textL l c ++ [32]).toArray⟩) w := fun w => run_string_add_lists w _ [32] (by simp; omega) (by simp)
  have hD : ∀ w, (Op.stringOp .add ⟨([118, 32] ++ textL l c ++ [32]).toArray⟩ ⟨(Lib.itoa f).toArray⟩).run Tryz.prog w = .ok (.string ⟨([118, 32] ++ textL l c ++ [32] ++ Lib.itoa f).toArray⟩) w := fun w => run_string_add_lists w _ _ (by simp; omega) (by omega)
  have hE : ∀ w, (Op.stringOp .add ⟨([118, 32] ++ textL l c ++ [32] ++ Lib.itoa f).toArray⟩ ⟨#[32]⟩).run Tryz.prog w = .ok (.string ⟨([118, 32] ++ textL l c ++ [32] ++ Lib.itoa f ++ [32]).toArray⟩) w := fun w => run_string_add_lists w _ [32] (by simp; omega) (by simp)
  have hF : ∀ w, (Op.stringOp .add ⟨([118, 32] ++ textL l c ++ [32] ++ Lib.itoa f ++ [32]).toArray⟩ ⟨(Lib.itoa t).toArray⟩).run Tryz.prog w = .ok (.string ⟨(textS 2 l c f t).toArray⟩) w := fun w => run_string_add_lists w _ _ (by simp; omega) (by omega)
  clear l1 l2 l3 l4
  generalize hX5 : [118, 32] ++ textL l c ++ [32] ++ Lib.itoa f ++ [32] = X5 at *
  generalize hX4 : [118, 32] ++ textL l c ++ [32] ++ Lib.itoa f = X4 at *
  generalize hX3 : [118, 32] ++ textL l c ++ [32] = X3 at *
  generalize hX2 : [118, 32] ++ textL l c = X2 at *
  clear hX5 hX4 hX3 hX2
  go_enter Tryz.func29, Tryz.ntmps29
  go_wp2_with (first | (go_at_call 32; (with_reducible refine (isg_yes 2 l c f t _ (by omega) (by omega) b1 b2 b3 b4 e1).mono ?_); rintro e wx ⟨rfl, hx⟩; obtain ⟨ux, rfl⟩ := after hx; clear hx) | fail)
  refine region_later (by kernel_rfl) (by kernel_rfl) ?_
  repeat (go_big_quiet_step ((first | (go_at_call 56; with_reducible exact Calls.later (text_ok l c _ (hT' _ (by repeat first | (with_reducible exact Below.refl _ _) | (with_reducible refine below_on ?_ _) | (with_reducible refine below_alloc ?_ _) | (with_reducible refine below_set ?_ (by simp; try omega) _))) b1 b2 b3 b4)) | (go_at_call 57; with_reducible exact Calls.later (itoa_any f _ (hT' _ (by repeat first | (with_reducible exact Below.refl _ _) | (with_reducible refine below_on ?_ _) | (with_reducible refine below_alloc ?_ _) | (with_reducible refine below_set ?_ (by simp; try omega) _))) (by omega) (by omega))) | (go_at_call 57; with_reducible exact Calls.later (itoa_any t _ (hT' _ (by repeat first | (with_reducible exact Below.refl _ _) | (with_reducible refine below_on ?_ _) | (with_reducible refine below_alloc ?_ _) | (with_reducible refine below_set ?_ (by simp; try omega) _))) (by omega) (by omega))))))
  refine wpQuiet_nil ?_
  rintro _ ⟨u3, rfl⟩
  go_wp2
  go_ret
  exact ⟨rfl, (by repeat first | (with_reducible exact Below.refl _ _) | (with_reducible refine below_on ?_ _) | (with_reducible refine below_alloc ?_ _) | (with_reducible refine below_set ?_ (by simp; try omega) _))⟩

set_option maxRecDepth 100000 in
set_option maxHeartbeats 4000000 in
theorem stext_3 (l c f t : Int) (w : World) (hT : Tab w) (b1 : 1 ≤ l) (b2 : l ≤ 4) (b3 : -4096 ≤ c) (b4 : c ≤ 4096) (e1 : f < t) (e2 : -4096 ≤ f) (e3 : t ≤ 4096) : Calls Tryz.prog 29 #[sg 3 l c f t] w fun e w' => e = .returned (.string ⟨(textS 3 l c f t).toArray⟩) ∧ Below w.heap.size w w' := by
  have hT' : ∀ W, Below w.heap.size w W → Tab W := fun W hb => tab_below hT hb
  have l1 := itoa_len f (by omega) (by omega)
  have l2 := itoa_len t (by omega) (by omega)
  have l3 := itoa_len c (by omega) (by omega)
  have l4 : (textL l c).length ≤ 23 := by unfold textL; simp; omega
  have hix : ∀ w, (Instr.index 9 (.string ⟨#[109, 118, 97]⟩) (.int .u8 2)).run Tryz.prog w = .ok (.int .u8 97) w := fun _ => by kernel_rfl
  have hcv : ∀ w, (convert 5 9 (.int .u8 97)).run Tryz.prog w = .ok (.string ⟨#[97]⟩) w := fun _ => by kernel_rfl
  have hA : ∀ w, (Op.stringOp .add ⟨#[97]⟩ ⟨#[32]⟩).run Tryz.prog w = .ok (.string ⟨#[97, 32]⟩) w := fun w => run_string_add_lists w [97] [32] (by simp) (by simp)
  have hB : ∀ w, (Op.stringOp .add ⟨#[97, 32]⟩ ⟨(textL l c).toArray⟩).run Tryz.prog w = .ok (.string ⟨([97, 32] ++ textL l c).toArray⟩) w := fun w => run_string_add_lists w [97, 32] _ (by simp) (by omega)
  have hC : ∀ w, (Op.stringOp .add ⟨([97, 32] ++ textL l c).toArray⟩ ⟨#[32]⟩).run Tryz.prog w = .ok (.string ⟨([97, 32] ++ textL l c ++ [32]).toArray⟩) w := fun w => run_string_add_lists w _ [32] (by simp; omega) (by simp)
  have hD : ∀ w, (Op.stringOp .add ⟨([97, 32] ++ textL l c ++ [32]).toArray⟩ ⟨(Lib.itoa f).toArray⟩).run Tryz.prog w = .ok (.string ⟨([97, 32] ++ textL l c ++ [32] ++ Lib.itoa f).toArray⟩) w := fun w => run_string_add_lists w _ _ (by simp; omega) (by omega)
  have hE : ∀ w, (Op.stringOp .add ⟨([97, 32] ++ textL l c ++ [32] ++ Lib.itoa f).toArray⟩ ⟨#[32]⟩).run Tryz.prog w = .ok (.string ⟨([97, 32] ++ textL l c ++ [32] ++ Lib.itoa f ++ [32]).toArray⟩) w := fun w => run_string_add_lists w _ [32] (by simp; omega) (by simp)
  have hF : ∀ w, (Op.stringOp .add ⟨([97, 32] ++ textL l c ++ [32] ++ Lib.itoa f ++ [32]).toArray⟩ ⟨(Lib.itoa t).toArray⟩).run Tryz.prog w = .ok (.string ⟨(textS 3 l c f t).toArray⟩) w := fun w => run_string_add_lists w _ _ (by simp; omega) (by omega)
  clear l1 l2 l3 l4
  generalize hX5 : [97, 32] ++ textL l c ++ [32] ++ Lib.itoa f ++ [32] = X5 at *
  generalize hX4 : [97, 32] ++ textL l c ++ [32] ++ Lib.itoa f = X4 at *
  generalize hX3 : [97, 32] ++ textL l c ++ [32] = X3 at *
  generalize hX2 : [97, 32] ++ textL l c = X2 at *
  clear hX5 hX4 hX3 hX2
  go_enter Tryz.func29, Tryz.ntmps29
  go_wp2_with (first | (go_at_call 32; (with_reducible refine (isg_yes 3 l c f t _ (by omega) (by omega) b1 b2 b3 b4 e1).mono ?_); rintro e wx ⟨rfl, hx⟩; obtain ⟨ux, rfl⟩ := after hx; clear hx) | fail)
  refine region_later (by kernel_rfl) (by kernel_rfl) ?_
  repeat (go_big_quiet_step ((first | (go_at_call 56; with_reducible exact Calls.later (text_ok l c _ (hT' _ (by repeat first | (with_reducible exact Below.refl _ _) | (with_reducible refine below_on ?_ _) | (with_reducible refine below_alloc ?_ _) | (with_reducible refine below_set ?_ (by simp; try omega) _))) b1 b2 b3 b4)) | (go_at_call 57; with_reducible exact Calls.later (itoa_any f _ (hT' _ (by repeat first | (with_reducible exact Below.refl _ _) | (with_reducible refine below_on ?_ _) | (with_reducible refine below_alloc ?_ _) | (with_reducible refine below_set ?_ (by simp; try omega) _))) (by omega) (by omega))) | (go_at_call 57; with_reducible exact Calls.later (itoa_any t _ (hT' _ (by repeat first | (with_reducible exact Below.refl _ _) | (with_reducible refine below_on ?_ _) | (with_reducible refine below_alloc ?_ _) | (with_reducible refine below_set ?_ (by simp; try omega) _))) (by omega) (by omega))))))
  refine wpQuiet_nil ?_
  rintro _ ⟨u3, rfl⟩
  go_wp2
  go_ret
  exact ⟨rfl, (by repeat first | (with_reducible exact Below.refl _ _) | (with_reducible refine below_on ?_ _) | (with_reducible refine below_alloc ?_ _) | (with_reducible refine below_set ?_ (by simp; try omega) _))⟩

theorem stext_ok (k l c f t : Int) (w : World) (hT : Tab w) (a1 : 1 ≤ k) (a2 : k ≤ 3) (b1 : 1 ≤ l) (b2 : l ≤ 4) (b3 : -4096 ≤ c) (b4 : c ≤ 4096) (e1 : f < t) (e2 : -4096 ≤ f) (e3 : t ≤ 4096) : Calls Tryz.prog 29 #[sg k l c f t] w fun e w' => e = .returned (.string ⟨(textS k l c f t).toArray⟩) ∧ Below w.heap.size w w' := by
  obtain rfl | rfl | rfl : k = 1 ∨ k = 2 ∨ k = 3 := by omega
  · exact stext_1 l c f t w hT b1 b2 b3 b4 e1 e2 e3
  · exact stext_2 l c f t w hT b1 b2 b3 b4 e1 e2 e3
  · exact stext_3 l c f t w hT b1 b2 b3 b4 e1 e2 e3

set_option maxRecDepth 100000 in
set_option maxHeartbeats 4000000 in
theorem stext_bad1 (k l c f t : Int) (w : World) (h : k < 1 ∨ 3 < k ∨ l < 1 ∨ 4 < l ∨ c < -4096 ∨ 4096 < c ∨ t ≤ f) : Calls Tryz.prog 29 #[sg k l c f t] w fun e w' => e = .returned (.string ⟨#[]⟩) ∧ Below w.heap.size w w' := by
  have H : Hid (k < 1 ∨ 3 < k ∨ l < 1 ∨ 4 < l ∨ c < -4096 ∨ 4096 < c ∨ t ≤ f) := h
  clear h
  go_enter Tryz.func29, Tryz.ntmps29
  go_wp2_with (first | (go_at_call 32; (with_reducible refine (isg_no k l c f t _ H.out).mono ?_); rintro e wx ⟨rfl, hx⟩; obtain ⟨ux, rfl⟩ := after hx; clear hx) | fail)
  go_ret
  exact ⟨rfl, (by repeat first | (with_reducible exact Below.refl _ _) | (with_reducible refine below_on ?_ _) | (with_reducible refine below_alloc ?_ _) | (with_reducible refine below_set ?_ (by simp; try omega) _))⟩

set_option maxRecDepth 100000 in
set_option maxHeartbeats 4000000 in
theorem stext_bad2 (k l c f t : Int) (w : World) (a1 : 1 ≤ k) (a2 : k ≤ 3) (b1 : 1 ≤ l) (b2 : l ≤ 4) (b3 : -4096 ≤ c) (b4 : c ≤ 4096) (e1 : f < t) (h : f < -4096) : Calls Tryz.prog 29 #[sg k l c f t] w fun e w' => e = .returned (.string ⟨#[]⟩) ∧ Below w.heap.size w w' := by
  go_enter Tryz.func29, Tryz.ntmps29
  go_wp2_with (first | (go_at_call 32; (with_reducible refine (isg_yes k l c f t _ a1 a2 b1 b2 b3 b4 e1).mono ?_); rintro e wx ⟨rfl, hx⟩; obtain ⟨ux, rfl⟩ := after hx; clear hx) | fail)
  go_ret
  exact ⟨rfl, (by repeat first | (with_reducible exact Below.refl _ _) | (with_reducible refine below_on ?_ _) | (with_reducible refine below_alloc ?_ _) | (with_reducible refine below_set ?_ (by simp; try omega) _))⟩

set_option maxRecDepth 100000 in
set_option maxHeartbeats 4000000 in
theorem stext_bad3 (k l c f t : Int) (w : World) (a1 : 1 ≤ k) (a2 : k ≤ 3) (b1 : 1 ≤ l) (b2 : l ≤ 4) (b3 : -4096 ≤ c) (b4 : c ≤ 4096) (e1 : f < t) (e2 : -4096 ≤ f) (h : 4096 < t) : Calls Tryz.prog 29 #[sg k l c f t] w fun e w' => e = .returned (.string ⟨#[]⟩) ∧ Below w.heap.size w w' := by
  go_enter Tryz.func29, Tryz.ntmps29
  go_wp2_with (first | (go_at_call 32; (with_reducible refine (isg_yes k l c f t _ a1 a2 b1 b2 b3 b4 e1).mono ?_); rintro e wx ⟨rfl, hx⟩; obtain ⟨ux, rfl⟩ := after hx; clear hx) | fail)
  go_ret
  exact ⟨rfl, (by repeat first | (with_reducible exact Below.refl _ _) | (with_reducible refine below_on ?_ _) | (with_reducible refine below_alloc ?_ _) | (with_reducible refine below_set ?_ (by simp; try omega) _))⟩

theorem stext_bad (k l c f t : Int) (w : World) (h : k < 1 ∨ 3 < k ∨ l < 1 ∨ 4 < l ∨ c < -4096 ∨ 4096 < c ∨ t ≤ f ∨ f < -4096 ∨ 4096 < t) : Calls Tryz.prog 29 #[sg k l c f t] w fun e w' => e = .returned (.string ⟨#[]⟩) ∧ Below w.heap.size w w' := by
  by_cases q1 : k < 1 ∨ 3 < k ∨ l < 1 ∨ 4 < l ∨ c < -4096 ∨ 4096 < c ∨ t ≤ f
  · exact stext_bad1 k l c f t w q1
  by_cases q2 : f < -4096
  · exact stext_bad2 k l c f t w (by omega) (by omega) (by omega) (by omega) (by omega) (by omega) (by omega) q2
  exact stext_bad3 k l c f t w (by omega) (by omega) (by omega) (by omega) (by omega) (by omega) (by omega) (by omega) (by omega)

end Go.Proofs.YtkmmnlhmfiabfaaGreatDoor
