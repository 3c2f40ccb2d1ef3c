/-
  Says: Decimal of the reference gives the decimal numeral of a number.
-/
import Derived.Test.YtkmmnlhmfiabfaaGreatDoorRfA
import Derived.Lib.ItoaMem
import Derived.Lib.ItoaNum
import Derived.Lib.ItoaLen
import Derived.Laws.BytesString
import Derived.Laws.Concat
import Derived.Deep.RegionWith
import Derived.IntWalk
set_option linter.unusedVariables false
set_option linter.unusedSimpArgs false
namespace Go.Proofs.YtkmmnlhmfiabfaaGreatDoor
open Go Go.RowKit

/-- What string() of a slice gives (a name that the walk does not open). -/
noncomputable def convFall (b : Nat) (w : World) : Result Value := (convert 44 9 (.slice (some ⟨b, 0, none⟩) 1 1)).run Tryz.prog w
theorem conv_one (b : Nat) (w : World) : (convert 44 9 (.slice (some ⟨b, 0, none⟩) 1 1)).run Tryz.prog w =
    match w.cell? ⟨b, 0, none⟩ with | some (.int .u8 v) => .ok (Value.string ⟨#[UInt8.ofNat v.toNat]⟩) w | _ => convFall b w := by
  cases h : w.cell? ⟨b, 0, none⟩ with
  | none => rfl
  | some x =>
    cases x with
    | int k v =>
      cases k with
      | u8 =>
        show _ = Result.ok (Value.string ⟨#[UInt8.ofNat v.toNat]⟩) w
        rw [run_convert_bytes_string w _ _ 5 _ 1 1 Tryz.underlying44 Tryz.underlying5 Tryz.underlying9]
        rw [run_bytesToString w ⟨b, 0, none⟩ 1 1 [v] (run_loadCells_list w ⟨b, 0, none⟩ [.int .u8 v] (fun j x hj => by
          match j, hj with
          | 0, hj => simp only [List.getElem?_cons_zero, Option.some.injEq] at hj; subst hj; exact h))]
        rfl
      | _ => rfl
    | _ => rfl

theorem dec_len (n : Int) (h0 : 0 ≤ n) (h2 : n ≤ 100000) : (Lib.decDigits n.toNat).length ≤ 21 := by
  have := Lib.itoa_length_le n (by omega) (by omega)
  rwa [show n = ((n.toNat : Nat) : Int) by omega, Lib.itoa_nonneg] at this
theorem dec_step (n : Int) (h : 10 ≤ n) : Lib.decDigits (n / 10).toNat ++ [UInt8.ofNat (48 + n % 10).toNat] = Lib.decDigits n.toNat := by
  rw [Lib.decDigits.eq_1 n.toNat, dif_neg (by omega)]
  congr 3 <;> omega
theorem dec_last (n : Int) (h0 : 0 ≤ n) (h : n < 10) : [UInt8.ofNat (48 + n).toNat] = Lib.decDigits n.toNat := by
  rw [Lib.decDigits_one (by omega)]
  congr 2; omega
theorem ret_str {a b : List UInt8} (h : a = b) : Ending.returned (.string ⟨a.toArray⟩) = .returned (.string ⟨b.toArray⟩) := by rw [h]

set_option maxHeartbeats 400000 in
theorem dec_small (n : Int) (w : World) (h0 : 0 ≤ n) (h : n < 10) : Calls Tryz.prog 54 #[.int .i64 n] w fun e w' => e = .returned (.string ⟨(Lib.decDigits n.toNat).toArray⟩) ∧ Below w.heap.size w w' := by
  have hc := conv_one
  go_enter Tryz.func54, Tryz.ntmps54
  go_wp2_with fail
  go_ret
  exact ⟨ret_str (dec_last n h0 h), by repeat first | (with_reducible exact Below.refl _ _) | (with_reducible refine below_on ?_ _) | (with_reducible refine below_alloc ?_ _) | (with_reducible refine below_set ?_ (by simp; try omega) _) | (with_reducible refine below_drew ?_)⟩
set_option maxHeartbeats 400000 in
theorem dec_big (n : Int) (w : World) (h0 : 0 ≤ n) (h : 10 ≤ n) (h2 : n ≤ 100000) (ih : Hid (∀ w, Calls Tryz.prog 54 #[.int .i64 (n / 10)] w fun e w' => e = .returned (.string ⟨(Lib.decDigits (n / 10).toNat).toArray⟩) ∧ Below w.heap.size w w')) : Calls Tryz.prog 54 #[.int .i64 n] w fun e w' => e = .returned (.string ⟨(Lib.decDigits n.toNat).toArray⟩) ∧ Below w.heap.size w w' := by
  have hc := conv_one
  have h9 : ¬ n < 10 := by omega
  have hadd : ∀ w, (Op.stringOp .add ⟨(Lib.decDigits (n / 10).toNat).toArray⟩ ⟨#[UInt8.ofNat (48 + n % 10).toNat]⟩).run Tryz.prog w = .ok (.string ⟨(Lib.decDigits n.toNat).toArray⟩) w := fun w => by
    rw [← dec_step n h]
    have := dec_len (n / 10) (by omega) (by omega)
    exact run_string_add_lists w _ _ (by omega) (by simp)
  go_enter Tryz.func54, Tryz.ntmps54
  go_wp2_with fail
  have q1 : IntKind.i64.wrap (n.tdiv 10) = n / 10 := by rw [Int.tdiv_eq_ediv_of_nonneg h0]; exact IntWalk.i64_in _ (by omega)
  have q2 : n.tmod 10 = n % 10 := Int.tmod_eq_emod_of_nonneg h0
  have q3 : IntKind.i64.wrap (48 + n % 10) = 48 + n % 10 := IntWalk.i64_in _ (by omega)
  have q4 : IntKind.u8.wrap (48 + n % 10) = 48 + n % 10 := IntWalk.u8_in _ (by omega)
  go_region_with (go_at_call 54; with_reducible refine (ih.out _).mono ?_; rintro e w1 ⟨rfl, hb1⟩; obtain ⟨u1, rfl⟩ := after hb1; clear hb1)
  all_goals clear q1 q2 q3 q4
  all_goals go_wp2_with fail
  all_goals go_ret
  all_goals exact ⟨rfl, by repeat first | (with_reducible exact Below.refl _ _) | (with_reducible refine below_on ?_ _) | (with_reducible refine below_alloc ?_ _) | (with_reducible refine below_set ?_ (by simp; try omega) _) | (with_reducible refine below_drew ?_)⟩
theorem dec_nat (k : Nat) : ∀ (n : Int) (w : World), n.toNat ≤ k → 0 ≤ n → n ≤ 100000 → Calls Tryz.prog 54 #[.int .i64 n] w fun e w' => e = .returned (.string ⟨(Lib.decDigits n.toNat).toArray⟩) ∧ Below w.heap.size w w' := by
  induction k with
  | zero => intro n w hk h0 h2; exact dec_small n w h0 (by omega)
  | succ k ih =>
    intro n w hk h0 h2
    by_cases h : n < 10
    · exact dec_small n w h0 h
    · exact dec_big n w h0 (by omega) h2 (fun w => ih (n / 10) w (by omega) (by omega) (by omega))
theorem itoa_len (c : Int) (h1 : -100000 ≤ c) (h2 : c ≤ 100000) : (Lib.itoa c).length ≤ 21 := Lib.itoa_length_le c (by omega) (by omega)
set_option maxHeartbeats 400000 in
theorem dec_any (c : Int) (w : World) (h1 : -100000 ≤ c) (h2 : c ≤ 100000) : Calls Tryz.prog 54 #[.int .i64 c] w fun e w' => e = .returned (.string ⟨(Lib.itoa c).toArray⟩) ∧ Below w.heap.size w w' := by
  by_cases h : c < 0
  · have hadd : ∀ w, (Op.stringOp .add ⟨#[45]⟩ ⟨(Lib.decDigits (-c).toNat).toArray⟩).run Tryz.prog w = .ok (.string ⟨(Lib.itoa c).toArray⟩) w := fun w => by
      have hl := dec_len (-c) (by omega) (by omega)
      have := run_string_add_lists (P := Tryz.prog) w [45] (Lib.decDigits (-c).toNat) (by simp) (by omega)
      rw [show Lib.itoa c = [45] ++ Lib.decDigits (-c).toNat by unfold Lib.itoa; rw [if_pos h]; congr 2; omega]
      exact this
    go_enter Tryz.func54, Tryz.ntmps54
    go_wp2_with (go_at_call 54; refine (dec_nat (-c).toNat (-c) _ (Nat.le_refl _) (by omega) (by omega)).mono ?_; rintro e w1 ⟨rfl, hb1⟩; obtain ⟨u1, rfl⟩ := after hb1; clear hb1)
    go_ret
    exact ⟨rfl, by repeat first | (with_reducible exact Below.refl _ _) | (with_reducible refine below_on ?_ _) | (with_reducible refine below_alloc ?_ _) | (with_reducible refine below_set ?_ (by simp; try omega) _) | (with_reducible refine below_drew ?_)⟩
  · have := dec_nat c.toNat c w (Nat.le_refl _) (by omega) h2
    rw [show Lib.itoa c = Lib.decDigits c.toNat by unfold Lib.itoa; rw [if_neg h]]
    exact this

end Go.Proofs.YtkmmnlhmfiabfaaGreatDoor
