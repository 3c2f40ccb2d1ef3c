/-
  Says: Units of the reference, for the sixteen sheets; the examples hold.
-/
import Derived.Test.YtdnekeegpenioaaDoorLwUn
import Derived.Test.YtdnekeegpenioaaDoorPaW0
import Derived.KernelRfl
set_option linter.unusedVariables false
set_option linter.unusedSimpArgs false
namespace Go.Proofs.YtdnekeegpenioaaDoor
open Go Go.RowKit

open Go.Vx
attribute [local instance] anySyms anyKeeps
set_option maxRecDepth 100000
/-- A list of units' cells. -/
def unitsB : Nat → List Value → Bool
  | 0, l => l.isEmpty
  | n + 1, l => match l with
    | .int .i64 _ :: .int .u8 _ :: k => unitsB n k
    | _ => false
def ucL (l : List Value) (i : Nat) : Int := iv (l.getD (i * 2) undef)
def ueL (l : List Value) (i : Nat) : Int := iv (l.getD (i * 2 + 1) undef)
theorem unitsB_at : ∀ (n : Nat) (l : List Value), unitsB n l = true → l.all Vx.atom = true ∧ ∀ i, i < n → l[i * 2]? = some (.int .i64 (ucL l i)) ∧ l[i * 2 + 1]? = some (.int .u8 (ueL l i))
  | 0, l, h => by
    cases l with
    | nil => exact ⟨rfl, fun i hi => by omega⟩
    | cons _ _ => cases h
  | n + 1, l, h => by
    unfold unitsB at h
    split at h
    · rename_i x y k
      obtain ⟨h1, h2⟩ := unitsB_at n k h
      refine ⟨by simp [Vx.atom, h1], fun i hi => ?_⟩
      cases i with
      | zero => exact ⟨rfl, rfl⟩
      | succ i =>
        have := h2 i (by omega)
        rw [show (i + 1) * 2 = i * 2 + 1 + 1 by omega]
        simpa [ucL, ueL, show (i + 1) * 2 = i * 2 + 1 + 1 by omega, List.getD_eq_getElem?_getD] using this
    · cases h
theorem units_deep (t : Nat → TypeId) {a b n c : Nat} {r : RowD} (h : DeepOk Tryd.prog (tabG t) ⟨20, [va [vi a, vi b]], [], vr 0 0 n c, [r]⟩) (hu : unitsB n r.cells = true) (w : World) (hL : Lies Tryd.prog (tabG t) w) :
    Calls Tryd.prog 20 #[.agg #[.int .i64 a, .int .i64 b]] w fun x w' => UnsAt n (ucL r.cells) (ueL r.cells) x w' ∧ Below w.heap.size w w' := by
  intro cs
  obtain ⟨hat, hc⟩ := unitsB_at n r.cells hu
  obtain ⟨h, _⟩ := h
  obtain ⟨w', fr, v', β', st, hfn, hlv, hbe, _, _, hnew, _, hv⟩ := h ⟨anySyms⟩ w hL (fun g => if g < Tryd.prog.globals.size then .live g 0 0 else .fresh) (fun g hg => if_pos hg) (fun y hy => if_neg (by have : Tryd.prog.globals.size + 0 ≤ y := hy; omega)) (fun j r hj => by simp at hj)
    (fun i j b cp sh cp' sh' h1 h2 => by
      skip
      split at h1
      · split at h2
        · cases h1; cases h2; rfl
        · cases h2
      · cases h1) [.agg #[.int .i64 a, .int .i64 b]] (.cons (.agg (.cons (.atom rfl) (.cons (.atom rfl) .nil))) .nil) cs
  obtain ⟨bb, cp, sh, o', hb, hlt, ho, hobj⟩ := hnew 0 r rfl
  have hv := hv ⟨anySyms⟩
  obtain ⟨pre, mid, post, fz, rfl, hp, hrr, _, _⟩ := @ObjR.inv anySyms Tryd.prog _ _ _ _ _ _ _ (hobj ⟨anySyms⟩)
  have hmid : mid = r.cells := VRs.of_atoms hrr hat
  subst hmid
  have hb : β' (Tryd.prog.globals.size + 0 + 0) = .live bb cp sh := hb
  rw [size_G] at hb
  have hcell : ∀ j v, r.cells[j]? = some v → w'.cell? ⟨bb, 0 + sh + j, none⟩ = some v := fun j v hj => by
    have hl := (List.getElem?_eq_some_iff.1 hj).1
    have e1 : w'.cell? ⟨bb, 0 + sh + j, none⟩ = (pre ++ (r.cells ++ post))[0 + sh + j]? := by simp [World.cell?, ho]
    rw [e1, List.getElem?_append_right (by omega), hp, show 0 + sh + j - sh = j by omega, List.getElem?_append_left hl, hj]
  refine ⟨.returned v', w', fr, ⟨?_, hbe⟩, st, hfn, hlv⟩
  change VR β' (.slice (some ⟨1, 0, none⟩) n c) v' at hv
  cases hv with
  | atom h => simp [Vx.atom] at h
  | sl hl hn hcp =>
    rw [hb] at hl
    cases hl
    exact ⟨_, _, _, rfl, fun i hi => ⟨by have := hcell _ _ (hc i hi).1; simpa using this, by have := hcell _ _ (hc i hi).2; simpa [Nat.add_assoc] using this⟩⟩
  | slD hd _ _ => rw [hb] at hd; cases hd
noncomputable def unRow : Nat → Nat → List Value
  | 1, 1 => r12.cells
  | 1, 2 => r13.cells
  | 1, 3 => r2.cells
  | 1, 4 => r4.cells
  | 2, 1 => r1.cells
  | 2, 2 => r6.cells
  | 2, 3 => r7.cells
  | 2, 4 => r9.cells
  | 3, 1 => r3.cells
  | 3, 2 => r8.cells
  | 3, 3 => r11.cells
  | 3, 4 => r15.cells
  | 4, 1 => r5.cells
  | 4, 2 => r10.cells
  | 4, 3 => r16.cells
  | 4, 4 => r14.cells
  | _, _ => []
def unN (a b : Nat) : Nat := 6 * a * b - a - b
theorem un_1_1 (w : World) (h : Lay w) : Calls Tryd.prog 20 #[.agg #[.int .i64 1, .int .i64 1]] w fun x w' => UnsAt (unN 1 1) (ucL (unRow 1 1)) (ueL (unRow 1 1)) x w' ∧ Below w.heap.size w w' :=
  units_deep (typ w) (d20_ok (typ w) _ (List.mem_of_getElem? (i := 0) rfl)) (by kernel_rfl) w (lies_G h)
theorem un_1_2 (w : World) (h : Lay w) : Calls Tryd.prog 20 #[.agg #[.int .i64 1, .int .i64 2]] w fun x w' => UnsAt (unN 1 2) (ucL (unRow 1 2)) (ueL (unRow 1 2)) x w' ∧ Below w.heap.size w w' :=
  units_deep (typ w) (d20_ok (typ w) _ (List.mem_of_getElem? (i := 1) rfl)) (by kernel_rfl) w (lies_G h)
theorem un_1_3 (w : World) (h : Lay w) : Calls Tryd.prog 20 #[.agg #[.int .i64 1, .int .i64 3]] w fun x w' => UnsAt (unN 1 3) (ucL (unRow 1 3)) (ueL (unRow 1 3)) x w' ∧ Below w.heap.size w w' :=
  units_deep (typ w) (d13_ok (typ w) _ (List.mem_of_getElem? (i := 1) rfl)) (by kernel_rfl) w (lies_G h)
theorem un_1_4 (w : World) (h : Lay w) : Calls Tryd.prog 20 #[.agg #[.int .i64 1, .int .i64 4]] w fun x w' => UnsAt (unN 1 4) (ucL (unRow 1 4)) (ueL (unRow 1 4)) x w' ∧ Below w.heap.size w w' :=
  units_deep (typ w) (d14_ok (typ w) _ (List.mem_of_getElem? (i := 0) rfl)) (by kernel_rfl) w (lies_G h)
theorem un_2_1 (w : World) (h : Lay w) : Calls Tryd.prog 20 #[.agg #[.int .i64 2, .int .i64 1]] w fun x w' => UnsAt (unN 2 1) (ucL (unRow 2 1)) (ueL (unRow 2 1)) x w' ∧ Below w.heap.size w w' :=
  units_deep (typ w) (d13_ok (typ w) _ (List.mem_of_getElem? (i := 0) rfl)) (by kernel_rfl) w (lies_G h)
theorem un_2_2 (w : World) (h : Lay w) : Calls Tryd.prog 20 #[.agg #[.int .i64 2, .int .i64 2]] w fun x w' => UnsAt (unN 2 2) (ucL (unRow 2 2)) (ueL (unRow 2 2)) x w' ∧ Below w.heap.size w w' :=
  units_deep (typ w) (d15_ok (typ w) _ (List.mem_of_getElem? (i := 0) rfl)) (by kernel_rfl) w (lies_G h)
theorem un_2_3 (w : World) (h : Lay w) : Calls Tryd.prog 20 #[.agg #[.int .i64 2, .int .i64 3]] w fun x w' => UnsAt (unN 2 3) (ucL (unRow 2 3)) (ueL (unRow 2 3)) x w' ∧ Below w.heap.size w w' :=
  units_deep (typ w) (d15_ok (typ w) _ (List.mem_of_getElem? (i := 1) rfl)) (by kernel_rfl) w (lies_G h)
theorem un_2_4 (w : World) (h : Lay w) : Calls Tryd.prog 20 #[.agg #[.int .i64 2, .int .i64 4]] w fun x w' => UnsAt (unN 2 4) (ucL (unRow 2 4)) (ueL (unRow 2 4)) x w' ∧ Below w.heap.size w w' :=
  units_deep (typ w) (d17_ok (typ w) _ (List.mem_of_getElem? (i := 0) rfl)) (by kernel_rfl) w (lies_G h)
theorem un_3_1 (w : World) (h : Lay w) : Calls Tryd.prog 20 #[.agg #[.int .i64 3, .int .i64 1]] w fun x w' => UnsAt (unN 3 1) (ucL (unRow 3 1)) (ueL (unRow 3 1)) x w' ∧ Below w.heap.size w w' :=
  units_deep (typ w) (d13_ok (typ w) _ (List.mem_of_getElem? (i := 2) rfl)) (by kernel_rfl) w (lies_G h)
theorem un_3_2 (w : World) (h : Lay w) : Calls Tryd.prog 20 #[.agg #[.int .i64 3, .int .i64 2]] w fun x w' => UnsAt (unN 3 2) (ucL (unRow 3 2)) (ueL (unRow 3 2)) x w' ∧ Below w.heap.size w w' :=
  units_deep (typ w) (d16_ok (typ w) _ (List.mem_of_getElem? (i := 0) rfl)) (by kernel_rfl) w (lies_G h)
theorem un_3_3 (w : World) (h : Lay w) : Calls Tryd.prog 20 #[.agg #[.int .i64 3, .int .i64 3]] w fun x w' => UnsAt (unN 3 3) (ucL (unRow 3 3)) (ueL (unRow 3 3)) x w' ∧ Below w.heap.size w w' :=
  units_deep (typ w) (d19_ok (typ w) _ (List.mem_of_getElem? (i := 0) rfl)) (by kernel_rfl) w (lies_G h)
theorem un_3_4 (w : World) (h : Lay w) : Calls Tryd.prog 20 #[.agg #[.int .i64 3, .int .i64 4]] w fun x w' => UnsAt (unN 3 4) (ucL (unRow 3 4)) (ueL (unRow 3 4)) x w' ∧ Below w.heap.size w w' :=
  units_deep (typ w) (d22_ok (typ w) _ (List.mem_of_getElem? (i := 0) rfl)) (by kernel_rfl) w (lies_G h)
theorem un_4_1 (w : World) (h : Lay w) : Calls Tryd.prog 20 #[.agg #[.int .i64 4, .int .i64 1]] w fun x w' => UnsAt (unN 4 1) (ucL (unRow 4 1)) (ueL (unRow 4 1)) x w' ∧ Below w.heap.size w w' :=
  units_deep (typ w) (d14_ok (typ w) _ (List.mem_of_getElem? (i := 1) rfl)) (by kernel_rfl) w (lies_G h)
theorem un_4_2 (w : World) (h : Lay w) : Calls Tryd.prog 20 #[.agg #[.int .i64 4, .int .i64 2]] w fun x w' => UnsAt (unN 4 2) (ucL (unRow 4 2)) (ueL (unRow 4 2)) x w' ∧ Below w.heap.size w w' :=
  units_deep (typ w) (d18_ok (typ w) _ (List.mem_of_getElem? (i := 0) rfl)) (by kernel_rfl) w (lies_G h)
theorem un_4_3 (w : World) (h : Lay w) : Calls Tryd.prog 20 #[.agg #[.int .i64 4, .int .i64 3]] w fun x w' => UnsAt (unN 4 3) (ucL (unRow 4 3)) (ueL (unRow 4 3)) x w' ∧ Below w.heap.size w w' :=
  units_deep (typ w) (d23_ok (typ w) _ (List.mem_of_getElem? (i := 0) rfl)) (by kernel_rfl) w (lies_G h)
theorem un_4_4 (w : World) (h : Lay w) : Calls Tryd.prog 20 #[.agg #[.int .i64 4, .int .i64 4]] w fun x w' => UnsAt (unN 4 4) (ucL (unRow 4 4)) (ueL (unRow 4 4)) x w' ∧ Below w.heap.size w w' :=
  units_deep (typ w) (d21_ok (typ w) _ (List.mem_of_getElem? (i := 0) rfl)) (by kernel_rfl) w (lies_G h)
theorem units_any (a b : Nat) (h1 : 1 ≤ a) (h2 : a ≤ 4) (h3 : 1 ≤ b) (h4 : b ≤ 4) (w : World) (h : Lay w) : Calls Tryd.prog 20 #[.agg #[.int .i64 a, .int .i64 b]] w fun x w' => UnsAt (unN a b) (ucL (unRow a b)) (ueL (unRow a b)) x w' ∧ Below w.heap.size w w' := by
  obtain rfl | rfl | rfl | rfl : a = 1 ∨ a = 2 ∨ a = 3 ∨ a = 4 := by omega
  · obtain rfl | rfl | rfl | rfl : b = 1 ∨ b = 2 ∨ b = 3 ∨ b = 4 := by omega
    · exact un_1_1 w h
    · exact un_1_2 w h
    · exact un_1_3 w h
    · exact un_1_4 w h
  · obtain rfl | rfl | rfl | rfl : b = 1 ∨ b = 2 ∨ b = 3 ∨ b = 4 := by omega
    · exact un_2_1 w h
    · exact un_2_2 w h
    · exact un_2_3 w h
    · exact un_2_4 w h
  · obtain rfl | rfl | rfl | rfl : b = 1 ∨ b = 2 ∨ b = 3 ∨ b = 4 := by omega
    · exact un_3_1 w h
    · exact un_3_2 w h
    · exact un_3_3 w h
    · exact un_3_4 w h
  · obtain rfl | rfl | rfl | rfl : b = 1 ∨ b = 2 ∨ b = 3 ∨ b = 4 := by omega
    · exact un_4_1 w h
    · exact un_4_2 w h
    · exact un_4_3 w h
    · exact un_4_4 w h
theorem lives_ok (w : World) (h : Lay w) : Calls Tryd.prog 12 #[] w fun e w' => e = .returned (.bool true) ∧ Below w.heap.size w w' :=
  (e11_ok (typ w) (12, [], vt) (List.mem_of_getElem? (i := 0) rfl)).1.calls (lies_G h)

end Go.Proofs.YtdnekeegpenioaaDoor
