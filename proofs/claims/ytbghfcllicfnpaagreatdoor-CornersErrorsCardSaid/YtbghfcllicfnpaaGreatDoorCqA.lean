/-
  Says: All and Around, at any point of a sheet of at most 5 by 5.
-/
import Derived.Test.YtbghfcllicfnpaaGreatDoorCqR
import Derived.Test.YtbghfcllicfnpaaGreatDoorLwUn
import Derived.KernelRfl
set_option linter.unusedVariables false
set_option linter.unusedSimpArgs false
namespace Go.Proofs.YtbghfcllicfnpaaGreatDoor
open Go Go.RowKit

open Go.Vx
set_option maxRecDepth 100000
attribute [local instance] anyKeeps
/-- A value and a number, without rows handed in. -/
def shapeB (e : DeepE) : Bool := match e.rows, e.val with
  | [], .tuple ⟨[_, .int .i64 0]⟩ => true
  | _, _ => false
section
attribute [local instance] anySyms
theorem deep_calls (t : Nat → TypeId) {e : DeepE} (hf : e.args.all flat = true) (hs : shapeB e = true) (h : DeepOk Tryz.prog (tabG t) e) (w : World) (hL : Lies Tryz.prog (tabG t) w) :
    Calls Tryz.prog e.f ⟨e.args⟩ w fun x w' => (∃ v, x = .returned (.tuple #[v, .int .i64 0])) ∧ Below w.heap.size w w' := by
  obtain ⟨fn, args, rws, val, new⟩ := e
  unfold shapeB at hs
  simp only at hs hf ⊢
  split at hs
  · rename_i s_
    intro cs
    obtain ⟨h, _⟩ := h
    obtain ⟨w', fr, v', β', st, hfn, hlv, hbe, _, _, hnew, _, hv⟩ := h ⟨anySyms⟩ w hL (fun g => if g < Tryz.prog.globals.size then .live g 0 0 else .fresh) (fun g hg => if_pos hg) (fun y hy => if_neg (by have : Tryz.prog.globals.size + 0 ≤ y := hy; omega)) (fun j r hj => by simp at hj)
      (fun i j b cp sh cp' sh' h1 h2 => by
        skip
        split at h1
        · split at h2
          · cases h1; cases h2; rfl
          · cases h2
        · cases h1) args (VRs.flatL hf) cs
    have hv := hv ⟨anySyms⟩
    refine ⟨.returned v', w', fr, ⟨?_, hbe⟩, st, hfn, hlv⟩
    change VR β' (.tuple ⟨[s_, .int .i64 0]⟩) v' at hv
    cases hv with
    | atom h => simp [Vx.atom] at h
    | tuple hl =>
      cases hl with
      | cons h0 hr =>
        cases hr with
        | cons h1 hn =>
          cases hn
          cases h1 with
          | atom _ => exact ⟨_, rfl⟩
  · cases hs
end
/-- An entry for a call is in a list. -/
noncomputable def hasB (l : List DeepE) (f : Nat) (args : List Value) : Bool := l.any fun e => Nat.beq e.f f && (eqA e.args args && shapeB e)
theorem has_ok {P : Program} {G : VW} {l : List DeepE} (hl : DeepsOk P G l) {f : Nat} {args : List Value} (h : hasB l f args = true) : ∃ e : DeepE, e.f = f ∧ e.args = args ∧ shapeB e = true ∧ DeepOk P G e := by
  haveI := anySyms
  obtain ⟨e, h1, h2⟩ := List.any_eq_true.1 h
  simp only [Bool.and_eq_true] at h2
  exact ⟨e, Nat.eq_of_beq_eq_true h2.1, eqA_eq h2.2.1, h2.2.2, hl e h1⟩
noncomputable def hasA (l : List DeepE) (q : Nat × Nat × Nat × Nat) : Bool := hasB l 13 [va [vi q.1, vi q.2.1], va [vi q.2.2.1, vi q.2.2.2]]
noncomputable def hasL (l : List DeepE) (q : Nat × Nat) : Bool := hasB l 10 [va [vi q.1, vi q.2]]
theorem mem_of_any {α : Type} {l : List α} {p : α → Bool} (h : l.any p = true) : ∃ x ∈ l, p x = true := List.any_eq_true.1 h
def ql8 : List (Nat × Nat) := [(1, 1), (1, 2), (1, 3), (1, 4), (2, 1), (2, 2), (2, 3), (2, 4), (2, 5), (3, 1), (3, 2), (3, 3), (3, 4), (3, 5), (4, 1), (4, 2), (4, 3), (4, 4), (5, 2), (5, 3)]
theorem hl8 : allL (hasL d8) ql8 = true := by kernel_rfl
def ql16 : List (Nat × Nat) := [(1, 5), (4, 5), (5, 1), (5, 4), (5, 5)]
theorem hl16 : allL (hasL d16) ql16 = true := by kernel_rfl
def qc16 : List (Nat × Nat × Nat × Nat) := [(2, 3, 3, 3), (2, 4, 3, 3), (2, 5, 3, 3), (3, 3, 3, 3), (3, 4, 3, 3), (3, 4, 3, 5), (3, 5, 3, 3), (4, 2, 5, 1), (4, 3, 5, 1), (4, 3, 3, 3), (4, 3, 5, 3), (4, 4, 5, 1), (4, 4, 3, 3), (4, 4, 5, 3), (5, 2, 5, 1), (5, 2, 7, 1), (5, 3, 5, 1), (5, 3, 7, 1), (5, 3, 3, 3)]
theorem ha16 : allL (hasA d16) qc16 = true := by kernel_rfl
def qc17 : List (Nat × Nat × Nat × Nat) := [(2, 4, 1, 5), (2, 4, 3, 5), (2, 5, 1, 5), (2, 5, 3, 5), (2, 5, 1, 7), (3, 2, 5, 1), (3, 2, 3, 3), (3, 3, 5, 1), (3, 3, 5, 3), (3, 4, 5, 1), (3, 4, 5, 3), (3, 5, 5, 1), (3, 5, 5, 3), (3, 5, 3, 5), (4, 2, 3, 3), (4, 2, 5, 3), (4, 4, 3, 5), (5, 3, 5, 3), (5, 3, 7, 3)]
theorem ha17 : allL (hasA d17) qc17 = true := by kernel_rfl
def qc18 : List (Nat × Nat × Nat × Nat) := [(2, 2, 3, 3), (2, 5, 3, 7), (3, 3, 3, 5), (3, 4, 1, 5), (3, 4, 5, 5), (3, 5, 1, 5), (3, 5, 3, 7), (4, 2, 7, 1), (4, 3, 7, 1), (4, 3, 7, 3), (4, 4, 7, 1), (4, 4, 7, 3), (4, 4, 5, 5), (5, 2, 9, 1), (5, 2, 3, 3), (5, 2, 5, 3), (5, 2, 7, 3), (5, 3, 9, 1)]
theorem ha18 : allL (hasA d18) qc18 = true := by kernel_rfl
def qc19 : List (Nat × Nat × Nat × Nat) := [(2, 3, 1, 5), (2, 3, 3, 5), (2, 4, 1, 7), (2, 4, 3, 7), (3, 2, 5, 3), (3, 3, 1, 5), (3, 4, 3, 7), (3, 5, 5, 5), (3, 5, 1, 7), (3, 5, 5, 7), (4, 2, 7, 3), (4, 3, 3, 5), (4, 3, 5, 5), (4, 4, 1, 5), (4, 4, 7, 5), (5, 3, 9, 3)]
theorem ha19 : allL (hasA d19) qc19 = true := by kernel_rfl
def qc20 : List (Nat × Nat × Nat × Nat) := [(2, 3, 2, 2), (2, 4, 2, 2), (2, 5, 2, 2), (2, 5, 1, 9), (2, 5, 3, 9), (3, 2, 2, 2), (3, 2, 4, 2), (3, 3, 2, 2), (3, 3, 4, 2), (3, 3, 5, 5), (3, 4, 2, 2), (3, 5, 2, 2), (4, 2, 2, 2), (4, 3, 1, 5), (5, 2, 9, 3)]
theorem ha20 : allL (hasA d20) qc20 = true := by kernel_rfl
def qc21 : List (Nat × Nat × Nat × Nat) := [(1, 3, 1, 5), (1, 4, 1, 5), (2, 3, 2, 4), (2, 4, 2, 4), (2, 5, 2, 4), (3, 4, 4, 2), (3, 4, 1, 7), (3, 5, 4, 2), (4, 2, 4, 2), (4, 3, 2, 2), (4, 3, 4, 2), (4, 4, 2, 2), (4, 4, 4, 2), (5, 2, 2, 2), (5, 3, 2, 2)]
theorem ha21 : allL (hasA d21) qc21 = true := by kernel_rfl
def qc22 : List (Nat × Nat × Nat × Nat) := [(1, 4, 1, 7), (3, 1, 5, 1), (3, 4, 5, 7), (4, 1, 5, 1), (4, 1, 7, 1), (4, 2, 6, 2), (4, 3, 6, 2), (4, 3, 7, 5), (4, 4, 6, 2), (5, 2, 4, 2), (5, 2, 6, 2), (5, 3, 4, 2), (5, 3, 6, 2), (5, 3, 1, 5)]
theorem ha22 : allL (hasA d22) qc22 = true := by kernel_rfl
def qc23 : List (Nat × Nat × Nat × Nat) := [(2, 4, 2, 6), (2, 5, 2, 6), (2, 5, 2, 8), (3, 3, 2, 4), (3, 3, 4, 4), (3, 4, 2, 4), (3, 4, 4, 4), (3, 5, 2, 4), (3, 5, 4, 4), (4, 3, 2, 4), (4, 3, 4, 4), (4, 4, 2, 4), (5, 2, 8, 2), (5, 3, 8, 2)]
theorem ha23 : allL (hasA d23) qc23 = true := by kernel_rfl
def qc24 : List (Nat × Nat × Nat × Nat) := [(3, 4, 2, 6), (3, 4, 4, 6), (3, 5, 2, 6), (3, 5, 4, 6), (3, 5, 2, 8), (4, 3, 6, 4), (4, 4, 4, 4), (4, 4, 6, 4), (4, 4, 2, 6), (5, 3, 2, 4), (5, 3, 4, 4), (5, 3, 6, 4), (5, 3, 8, 4)]
theorem ha24 : allL (hasA d24) qc24 = true := by kernel_rfl
def qc32 : List (Nat × Nat × Nat × Nat) := [(2, 2, 1, 1), (2, 2, 3, 1), (3, 2, 3, 1), (3, 3, 3, 1), (3, 4, 3, 1), (3, 5, 3, 1), (3, 5, 3, 9), (4, 2, 3, 1), (4, 3, 3, 1), (4, 4, 3, 1), (4, 5, 3, 1), (4, 5, 5, 1), (4, 5, 3, 3), (5, 2, 3, 1), (5, 3, 3, 1), (5, 3, 3, 5), (5, 3, 5, 5), (5, 3, 7, 5), (5, 4, 3, 1), (5, 4, 5, 1), (5, 5, 3, 1), (5, 5, 5, 1)]
theorem ha32 : allL (hasA d32) qc32 = true := by kernel_rfl
def qc33 : List (Nat × Nat × Nat × Nat) := [(2, 3, 1, 1), (2, 3, 1, 3), (2, 4, 1, 1), (2, 4, 1, 3), (2, 5, 1, 1), (2, 5, 1, 3), (3, 2, 1, 1), (3, 3, 1, 3), (3, 4, 1, 3), (3, 5, 1, 3), (3, 5, 1, 9), (4, 4, 1, 7), (4, 5, 1, 1), (4, 5, 5, 3), (5, 4, 1, 1), (5, 4, 7, 1), (5, 4, 3, 3), (5, 5, 1, 1), (5, 5, 7, 1), (5, 5, 3, 3)]
theorem ha33 : allL (hasA d33) qc33 = true := by kernel_rfl
def qc34 : List (Nat × Nat × Nat × Nat) := [(2, 3, 3, 1), (2, 4, 3, 1), (2, 5, 3, 1), (3, 3, 1, 1), (3, 4, 1, 1), (3, 5, 1, 1), (4, 2, 1, 1), (4, 3, 1, 1), (4, 3, 1, 3), (4, 4, 1, 1), (4, 4, 1, 3), (4, 5, 1, 3), (5, 2, 1, 1), (5, 3, 1, 1), (5, 4, 1, 3), (5, 4, 5, 3), (5, 4, 7, 3), (5, 5, 1, 3), (5, 5, 5, 3), (5, 5, 7, 3)]
theorem ha34 : allL (hasA d34) qc34 = true := by kernel_rfl
def qc35 : List (Nat × Nat × Nat × Nat) := [(1, 5, 1, 1), (2, 2, 2, 2), (2, 2, 1, 3), (3, 2, 1, 3), (3, 5, 4, 8), (4, 2, 1, 3), (4, 4, 4, 6), (4, 5, 7, 1), (4, 5, 7, 3), (4, 5, 1, 5), (4, 5, 3, 5), (4, 5, 5, 5), (5, 1, 1, 1), (5, 3, 1, 3), (5, 4, 9, 1), (5, 4, 9, 3), (5, 5, 9, 1), (5, 5, 9, 3)]
theorem ha35 : allL (hasA d35) qc35 = true := by kernel_rfl
def qc36 : List (Nat × Nat × Nat × Nat) := [(1, 1, 1, 1), (1, 2, 1, 1), (1, 3, 1, 1), (1, 4, 1, 1), (1, 5, 1, 3), (1, 5, 1, 5), (2, 1, 1, 1), (3, 1, 1, 1), (4, 1, 1, 1), (4, 4, 6, 6), (4, 5, 7, 5), (5, 1, 3, 1), (5, 1, 5, 1), (5, 2, 1, 3), (5, 4, 1, 5), (5, 5, 1, 5)]
theorem ha36 : allL (hasA d36) qc36 = true := by kernel_rfl
def qc37 : List (Nat × Nat × Nat × Nat) := [(1, 2, 1, 3), (1, 3, 1, 3), (1, 4, 1, 3), (1, 5, 1, 7), (1, 5, 1, 9), (2, 1, 3, 1), (3, 1, 3, 1), (4, 1, 3, 1), (4, 5, 2, 2), (4, 5, 4, 2), (4, 5, 6, 2), (5, 1, 7, 1), (5, 1, 9, 1), (5, 4, 2, 2), (5, 5, 2, 2)]
theorem ha37 : allL (hasA d37) qc37 = true := by kernel_rfl
def qc38 : List (Nat × Nat × Nat × Nat) := [(4, 5, 2, 4), (4, 5, 4, 4), (4, 5, 6, 4), (5, 4, 4, 2), (5, 4, 6, 2), (5, 4, 8, 2), (5, 4, 2, 4), (5, 4, 4, 4), (5, 5, 4, 2), (5, 5, 6, 2), (5, 5, 8, 2), (5, 5, 2, 4), (5, 5, 4, 4)]
theorem ha38 : allL (hasA d38) qc38 = true := by kernel_rfl
def qc39 : List (Nat × Nat × Nat × Nat) := [(4, 5, 2, 6), (5, 4, 6, 4), (5, 4, 8, 4), (5, 5, 6, 4), (5, 5, 8, 4)]
theorem ha39 : allL (hasA d39) qc39 = true := by kernel_rfl
def qc42 : List (Nat × Nat × Nat × Nat) := [(4, 5, 1, 7), (4, 5, 3, 7), (4, 5, 5, 7), (4, 5, 7, 7), (4, 5, 3, 9), (4, 5, 5, 9), (5, 4, 3, 5), (5, 4, 5, 5), (5, 4, 7, 5), (5, 4, 9, 5), (5, 4, 3, 7), (5, 4, 5, 7), (5, 4, 7, 7), (5, 5, 3, 5), (5, 5, 5, 5), (5, 5, 7, 5), (5, 5, 9, 5), (5, 5, 1, 7), (5, 5, 3, 7), (5, 5, 5, 7), (5, 5, 7, 7), (5, 5, 9, 7), (5, 5, 3, 9), (5, 5, 5, 9), (5, 5, 7, 9)]
theorem ha42 : allL (hasA d42) qc42 = true := by kernel_rfl
def qc43 : List (Nat × Nat × Nat × Nat) := [(3, 5, 5, 9), (4, 4, 3, 7), (4, 4, 5, 7), (4, 4, 7, 7), (4, 5, 4, 6), (4, 5, 6, 6), (4, 5, 2, 8), (4, 5, 4, 8), (4, 5, 6, 8), (4, 5, 1, 9), (4, 5, 7, 9), (5, 3, 9, 5), (5, 4, 2, 6), (5, 4, 4, 6), (5, 4, 6, 6), (5, 4, 8, 6), (5, 4, 1, 7), (5, 4, 9, 7), (5, 5, 1, 9)]
theorem ha43 : allL (hasA d43) qc43 = true := by kernel_rfl
def qc44 : List (Nat × Nat × Nat × Nat) := [(5, 5, 2, 6), (5, 5, 4, 6), (5, 5, 6, 6), (5, 5, 8, 6), (5, 5, 2, 8), (5, 5, 4, 8), (5, 5, 6, 8), (5, 5, 8, 8), (5, 5, 9, 9)]
theorem ha44 : allL (hasA d44) qc44 = true := by kernel_rfl
theorem inL : (List.range 25).all (fun j => (ql8 ++ ql16).any fun q => Nat.beq q.1 (j / 5 + 1) && Nat.beq q.2 (j % 5 + 1)) = true := by kernel_rfl
theorem inA : (List.range 25).all (fun j => (List.range 10).all fun x => (List.range 10).all fun y => !(Nat.blt x (2 * (j / 5 + 1)) && (Nat.blt y (2 * (j % 5 + 1)) && (Nat.blt 0 x && (Nat.blt 0 y && Nat.beq ((x + y) % 2) 0)))) || (qc16 ++ qc17 ++ qc18 ++ qc19 ++ qc20 ++ qc21 ++ qc22 ++ qc23 ++ qc24 ++ qc32 ++ qc33 ++ qc34 ++ qc35 ++ qc36 ++ qc37 ++ qc38 ++ qc39 ++ qc42 ++ qc43 ++ qc44).any fun q => Nat.beq q.1 (j / 5 + 1) && (Nat.beq q.2.1 (j % 5 + 1) && (Nat.beq q.2.2.1 x && Nat.beq q.2.2.2 y))) = true := by kernel_rfl
theorem hasL_any (t : Nat → TypeId) {a b : Nat} (h1 : 1 ≤ a) (h2 : a ≤ 5) (h3 : 1 ≤ b) (h4 : b ≤ 5) : ∃ e : DeepE, e.f = 10 ∧ e.args = [va [vi a, vi b]] ∧ shapeB e = true ∧ DeepOk Tryz.prog (tabG t) e := by
  have h := List.all_eq_true.1 inL ((a - 1) * 5 + (b - 1)) (List.mem_range.2 (by omega))
  obtain ⟨⟨p, q⟩, hm, he⟩ := List.any_eq_true.1 h
  simp only [Bool.and_eq_true, Nat.beq_eq] at he
  obtain rfl : a = p := by omega
  obtain rfl : b = q := by omega
  simp only [List.mem_append] at hm
  rcases hm with (hm | hm)
  · exact has_ok (d8_ok t) (all_of hl8 _ hm)
  · exact has_ok (d16_ok t) (all_of hl16 _ hm)

theorem hasA_any (t : Nat → TypeId) {a b : Nat} (h1 : 1 ≤ a) (h2 : a ≤ 5) (h3 : 1 ≤ b) (h4 : b ≤ 5) (x y : Nat) (hx : x < 2 * a) (hy : y < 2 * b) (g0 : 0 < x) (g1 : 0 < y) (g2 : (x + y) % 2 = 0) : ∃ e : DeepE, e.f = 13 ∧ e.args = [va [vi a, vi b], va [vi x, vi y]] ∧ shapeB e = true ∧ DeepOk Tryz.prog (tabG t) e := by
  have h := List.all_eq_true.1 (List.all_eq_true.1 (List.all_eq_true.1 inA ((a - 1) * 5 + (b - 1)) (List.mem_range.2 (by omega))) x (List.mem_range.2 (by omega))) y (List.mem_range.2 (by omega))
  have e1 : ((a - 1) * 5 + (b - 1)) / 5 + 1 = a := by omega
  have e2 : ((a - 1) * 5 + (b - 1)) % 5 + 1 = b := by omega
  rw [e1, e2] at h
  have c : (Nat.blt x (2 * a) && (Nat.blt y (2 * b) && (Nat.blt 0 x && (Nat.blt 0 y && Nat.beq ((x + y) % 2) 0)))) = true := by
    simp [Nat.blt_eq, Nat.beq_eq, hx, hy, g0, g1, g2]
  rw [c] at h
  simp only [Bool.not_true, Bool.false_or] at h
  obtain ⟨⟨p, q, r, s_⟩, hm, he⟩ := List.any_eq_true.1 h
  simp only [Bool.and_eq_true, Nat.beq_eq] at he
  obtain ⟨rfl, rfl, rfl, rfl⟩ := he
  clear e1 e2 h c
  simp only [List.mem_append] at hm
  rcases hm with (((((((((((((((((((hm | hm) | hm) | hm) | hm) | hm) | hm) | hm) | hm) | hm) | hm) | hm) | hm) | hm) | hm) | hm) | hm) | hm) | hm) | hm)
  · exact has_ok (d16_ok t) (all_of ha16 _ hm)
  · exact has_ok (d17_ok t) (all_of ha17 _ hm)
  · exact has_ok (d18_ok t) (all_of ha18 _ hm)
  · exact has_ok (d19_ok t) (all_of ha19 _ hm)
  · exact has_ok (d20_ok t) (all_of ha20 _ hm)
  · exact has_ok (d21_ok t) (all_of ha21 _ hm)
  · exact has_ok (d22_ok t) (all_of ha22 _ hm)
  · exact has_ok (d23_ok t) (all_of ha23 _ hm)
  · exact has_ok (d24_ok t) (all_of ha24 _ hm)
  · exact has_ok (d32_ok t) (all_of ha32 _ hm)
  · exact has_ok (d33_ok t) (all_of ha33 _ hm)
  · exact has_ok (d34_ok t) (all_of ha34 _ hm)
  · exact has_ok (d35_ok t) (all_of ha35 _ hm)
  · exact has_ok (d36_ok t) (all_of ha36 _ hm)
  · exact has_ok (d37_ok t) (all_of ha37 _ hm)
  · exact has_ok (d38_ok t) (all_of ha38 _ hm)
  · exact has_ok (d39_ok t) (all_of ha39 _ hm)
  · exact has_ok (d42_ok t) (all_of ha42 _ hm)
  · exact has_ok (d43_ok t) (all_of ha43 _ hm)
  · exact has_ok (d44_ok t) (all_of ha44 _ hm)

theorem qa_1_1_ok (t : Nat → TypeId) [Syms] : OrcOk Tryz.prog (tabG t) (qa_1_1 t) :=
  deepOrc_ok (tabs_G t) (base_G t) (orcL_ok (tabs_G t) Ents.nil) (d8_ok t) noCuts_ok
theorem qa_1_2_ok (t : Nat → TypeId) [Syms] : OrcOk Tryz.prog (tabG t) (qa_1_2 t) :=
  deepOrc_ok (tabs_G t) (base_G t) (orcL_ok (tabs_G t) Ents.nil) (d8_ok t) noCuts_ok
theorem qa_1_3_ok (t : Nat → TypeId) [Syms] : OrcOk Tryz.prog (tabG t) (qa_1_3 t) :=
  deepOrc_ok (tabs_G t) (base_G t) (orcL_ok (tabs_G t) Ents.nil) (d8_ok t) noCuts_ok
theorem qa_1_4_ok (t : Nat → TypeId) [Syms] : OrcOk Tryz.prog (tabG t) (qa_1_4 t) :=
  deepOrc_ok (tabs_G t) (base_G t) (orcL_ok (tabs_G t) Ents.nil) (d8_ok t) noCuts_ok
theorem qa_1_5_ok (t : Nat → TypeId) [Syms] : OrcOk Tryz.prog (tabG t) (qa_1_5 t) :=
  deepOrc_ok (tabs_G t) (base_G t) (orcL_ok (tabs_G t) Ents.nil) (d16_ok t) noCuts_ok
theorem qa_2_1_ok (t : Nat → TypeId) [Syms] : OrcOk Tryz.prog (tabG t) (qa_2_1 t) :=
  deepOrc_ok (tabs_G t) (base_G t) (orcL_ok (tabs_G t) Ents.nil) (d8_ok t) noCuts_ok
theorem qa_2_2_ok (t : Nat → TypeId) [Syms] : OrcOk Tryz.prog (tabG t) (qa_2_2 t) :=
  deepOrc_ok (tabs_G t) (base_G t) (orcL_ok (tabs_G t) Ents.nil) (d8_ok t) noCuts_ok
theorem qa_2_3_ok (t : Nat → TypeId) [Syms] : OrcOk Tryz.prog (tabG t) (qa_2_3 t) :=
  deepOrc_ok (tabs_G t) (base_G t) (orcL_ok (tabs_G t) Ents.nil) (d8_ok t) noCuts_ok
theorem qa_2_4_ok (t : Nat → TypeId) [Syms] : OrcOk Tryz.prog (tabG t) (qa_2_4 t) :=
  deepOrc_ok (tabs_G t) (base_G t) (orcL_ok (tabs_G t) Ents.nil) (d8_ok t) noCuts_ok
theorem qa_2_5_ok (t : Nat → TypeId) [Syms] : OrcOk Tryz.prog (tabG t) (qa_2_5 t) :=
  deepOrc_ok (tabs_G t) (base_G t) (orcL_ok (tabs_G t) Ents.nil) (d8_ok t) noCuts_ok
theorem qa_3_1_ok (t : Nat → TypeId) [Syms] : OrcOk Tryz.prog (tabG t) (qa_3_1 t) :=
  deepOrc_ok (tabs_G t) (base_G t) (orcL_ok (tabs_G t) Ents.nil) (d8_ok t) noCuts_ok
theorem qa_3_2_ok (t : Nat → TypeId) [Syms] : OrcOk Tryz.prog (tabG t) (qa_3_2 t) :=
  deepOrc_ok (tabs_G t) (base_G t) (orcL_ok (tabs_G t) Ents.nil) (d8_ok t) noCuts_ok
theorem qa_3_3_ok (t : Nat → TypeId) [Syms] : OrcOk Tryz.prog (tabG t) (qa_3_3 t) :=
  deepOrc_ok (tabs_G t) (base_G t) (orcL_ok (tabs_G t) Ents.nil) (d8_ok t) noCuts_ok
theorem qa_3_4_ok (t : Nat → TypeId) [Syms] : OrcOk Tryz.prog (tabG t) (qa_3_4 t) :=
  deepOrc_ok (tabs_G t) (base_G t) (orcL_ok (tabs_G t) Ents.nil) (d8_ok t) noCuts_ok
theorem qa_3_5_ok (t : Nat → TypeId) [Syms] : OrcOk Tryz.prog (tabG t) (qa_3_5 t) :=
  deepOrc_ok (tabs_G t) (base_G t) (orcL_ok (tabs_G t) Ents.nil) (d8_ok t) noCuts_ok
theorem qa_4_1_ok (t : Nat → TypeId) [Syms] : OrcOk Tryz.prog (tabG t) (qa_4_1 t) :=
  deepOrc_ok (tabs_G t) (base_G t) (orcL_ok (tabs_G t) Ents.nil) (d8_ok t) noCuts_ok
theorem qa_4_2_ok (t : Nat → TypeId) [Syms] : OrcOk Tryz.prog (tabG t) (qa_4_2 t) :=
  deepOrc_ok (tabs_G t) (base_G t) (orcL_ok (tabs_G t) Ents.nil) (d8_ok t) noCuts_ok
theorem qa_4_3_ok (t : Nat → TypeId) [Syms] : OrcOk Tryz.prog (tabG t) (qa_4_3 t) :=
  deepOrc_ok (tabs_G t) (base_G t) (orcL_ok (tabs_G t) Ents.nil) (d8_ok t) noCuts_ok
theorem qa_4_4_ok (t : Nat → TypeId) [Syms] : OrcOk Tryz.prog (tabG t) (qa_4_4 t) :=
  deepOrc_ok (tabs_G t) (base_G t) (orcL_ok (tabs_G t) Ents.nil) (d8_ok t) noCuts_ok
theorem qa_4_5_ok (t : Nat → TypeId) [Syms] : OrcOk Tryz.prog (tabG t) (qa_4_5 t) :=
  deepOrc_ok (tabs_G t) (base_G t) (orcL_ok (tabs_G t) Ents.nil) (d16_ok t) noCuts_ok
theorem qa_5_1_ok (t : Nat → TypeId) [Syms] : OrcOk Tryz.prog (tabG t) (qa_5_1 t) :=
  deepOrc_ok (tabs_G t) (base_G t) (orcL_ok (tabs_G t) Ents.nil) (d16_ok t) noCuts_ok
theorem qa_5_2_ok (t : Nat → TypeId) [Syms] : OrcOk Tryz.prog (tabG t) (qa_5_2 t) :=
  deepOrc_ok (tabs_G t) (base_G t) (orcL_ok (tabs_G t) Ents.nil) (d8_ok t) noCuts_ok
theorem qa_5_3_ok (t : Nat → TypeId) [Syms] : OrcOk Tryz.prog (tabG t) (qa_5_3 t) :=
  deepOrc_ok (tabs_G t) (base_G t) (orcL_ok (tabs_G t) Ents.nil) (d8_ok t) noCuts_ok
theorem qa_5_4_ok (t : Nat → TypeId) [Syms] : OrcOk Tryz.prog (tabG t) (qa_5_4 t) :=
  deepOrc_ok (tabs_G t) (base_G t) (orcL_ok (tabs_G t) Ents.nil) (d16_ok t) noCuts_ok
theorem qa_5_5_ok (t : Nat → TypeId) [Syms] : OrcOk Tryz.prog (tabG t) (qa_5_5 t) :=
  deepOrc_ok (tabs_G t) (base_G t) (orcL_ok (tabs_G t) Ents.nil) (d16_ok t) noCuts_ok
section
theorem all_any {a b : Nat} (h1 : 1 ≤ a) (h2 : a ≤ 5) (h3 : 1 ≤ b) (h4 : b ≤ 5) (V : World) (hL : Lay V) : Calls Tryz.prog 10 #[.agg #[.int .i64 (a : Int), .int .i64 (b : Int)]] V fun x V' => (∃ v, x = .returned (.tuple #[v, .int .i64 0])) ∧ Below V.heap.size V V' := by
  obtain ⟨e, e1, e2, e3, e4⟩ := hasL_any (typ V) h1 h2 h3 h4
  have h := deep_calls (typ V) (by rw [e2]; rfl) e3 e4 V (lies_G hL)
  rw [e1, e2] at h
  exact h
theorem rAll_any {a b : Nat} (h1 : 1 ≤ a) (h2 : a ≤ 5) (h3 : 1 ≤ b) (h4 : b ≤ 5) (t : Nat → TypeId) : ∃ Q : Orc, (∀ [Syms], OrcOk Tryz.prog (tabG t) Q) ∧ rAll t Q a b = true := by
  obtain rfl | rfl | rfl | rfl | rfl : a = 1 ∨ a = 2 ∨ a = 3 ∨ a = 4 ∨ a = 5 := by omega
  · obtain rfl | rfl | rfl | rfl | rfl : b = 1 ∨ b = 2 ∨ b = 3 ∨ b = 4 ∨ b = 5 := by omega
    · exact ⟨qa_1_1 t, qa_1_1_ok t, ra_1_1 t⟩
    · exact ⟨qa_1_2 t, qa_1_2_ok t, ra_1_2 t⟩
    · exact ⟨qa_1_3 t, qa_1_3_ok t, ra_1_3 t⟩
    · exact ⟨qa_1_4 t, qa_1_4_ok t, ra_1_4 t⟩
    · exact ⟨qa_1_5 t, qa_1_5_ok t, ra_1_5 t⟩
  · obtain rfl | rfl | rfl | rfl | rfl : b = 1 ∨ b = 2 ∨ b = 3 ∨ b = 4 ∨ b = 5 := by omega
    · exact ⟨qa_2_1 t, qa_2_1_ok t, ra_2_1 t⟩
    · exact ⟨qa_2_2 t, qa_2_2_ok t, ra_2_2 t⟩
    · exact ⟨qa_2_3 t, qa_2_3_ok t, ra_2_3 t⟩
    · exact ⟨qa_2_4 t, qa_2_4_ok t, ra_2_4 t⟩
    · exact ⟨qa_2_5 t, qa_2_5_ok t, ra_2_5 t⟩
  · obtain rfl | rfl | rfl | rfl | rfl : b = 1 ∨ b = 2 ∨ b = 3 ∨ b = 4 ∨ b = 5 := by omega
    · exact ⟨qa_3_1 t, qa_3_1_ok t, ra_3_1 t⟩
    · exact ⟨qa_3_2 t, qa_3_2_ok t, ra_3_2 t⟩
    · exact ⟨qa_3_3 t, qa_3_3_ok t, ra_3_3 t⟩
    · exact ⟨qa_3_4 t, qa_3_4_ok t, ra_3_4 t⟩
    · exact ⟨qa_3_5 t, qa_3_5_ok t, ra_3_5 t⟩
  · obtain rfl | rfl | rfl | rfl | rfl : b = 1 ∨ b = 2 ∨ b = 3 ∨ b = 4 ∨ b = 5 := by omega
    · exact ⟨qa_4_1 t, qa_4_1_ok t, ra_4_1 t⟩
    · exact ⟨qa_4_2 t, qa_4_2_ok t, ra_4_2 t⟩
    · exact ⟨qa_4_3 t, qa_4_3_ok t, ra_4_3 t⟩
    · exact ⟨qa_4_4 t, qa_4_4_ok t, ra_4_4 t⟩
    · exact ⟨qa_4_5 t, qa_4_5_ok t, ra_4_5 t⟩
  · obtain rfl | rfl | rfl | rfl | rfl : b = 1 ∨ b = 2 ∨ b = 3 ∨ b = 4 ∨ b = 5 := by omega
    · exact ⟨qa_5_1 t, qa_5_1_ok t, ra_5_1 t⟩
    · exact ⟨qa_5_2 t, qa_5_2_ok t, ra_5_2 t⟩
    · exact ⟨qa_5_3 t, qa_5_3_ok t, ra_5_3 t⟩
    · exact ⟨qa_5_4 t, qa_5_4_ok t, ra_5_4 t⟩
    · exact ⟨qa_5_5 t, qa_5_5_ok t, ra_5_5 t⟩
theorem around_any {a b : Nat} (h1 : 1 ≤ a) (h2 : a ≤ 5) (h3 : 1 ≤ b) (h4 : b ≤ 5) (x y : Int) (V : World) (hL : Lay V) : Calls Tryz.prog 13 #[.agg #[.int .i64 (a : Int), .int .i64 (b : Int)], .agg #[.int .i64 x, .int .i64 y]] V fun r V' => (∃ v z, r = .returned (.tuple #[v, .int .i64 z])) ∧ Below V.heap.size V V' := by
  by_cases hc : (0 < x ∧ x < 2 * (a : Int) ∧ 0 < y ∧ y < 2 * (b : Int) ∧ (x - y) % 2 = 0)
  · obtain ⟨c, rfl⟩ : ∃ c : Nat, x = (c : Int) := ⟨x.toNat, by omega⟩
    obtain ⟨d, rfl⟩ : ∃ d : Nat, y = (d : Int) := ⟨y.toNat, by omega⟩
    obtain ⟨e, e1, e2, e3, e4⟩ := hasA_any (typ V) h1 h2 h3 h4 c d (by omega) (by omega) (by omega) (by omega) (by omega)
    have h := deep_calls (typ V) (by rw [e2]; rfl) e3 e4 V (lies_G hL)
    rw [e1, e2] at h
    refine h.mono ?_
    rintro r V' ⟨⟨v, rfl⟩, hb⟩
    exact ⟨⟨v, _, rfl⟩, hb⟩
  · obtain ⟨Q, hQ, hr⟩ := rAll_any h1 h2 h3 h4 (typ V)
    simp only [rAll, Bool.and_eq_true] at hr
    obtain ⟨⟨hA, hB⟩, ⟨⟨⟨⟨hF0, _⟩, _⟩, _⟩, _⟩, _⟩ := hr
    have hk := tF13 (Q := Q) (fun {_} => hQ) x y (check_no (fun {_} => hQ) hA hB x y hc) hF0
    haveI := anySyms
    refine (hk.calls (lies_G hL)).mono ?_
    rintro r V' ⟨rfl, hb⟩
    exact ⟨⟨_, _, rfl⟩, hb⟩
end

end Go.Proofs.YtbghfcllicfnpaaGreatDoor
