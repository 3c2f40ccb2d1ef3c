/-
  Says: Units of the reference for the 25 sheets; the error that both Checks find.
-/
import Derived.Test.YtbghfcllicfnpaaGreatDoorLwUn
import Derived.Test.YtbghfcllicfnpaaGreatDoorPkA
import Derived.KernelRfl
set_option linter.unusedVariables false
set_option linter.unusedSimpArgs false
namespace Go.Proofs.YtbghfcllicfnpaaGreatDoor
open Go Go.RowKit

open Go.Vx
attribute [local instance] anySyms anyKeeps
set_option maxRecDepth 100000
/-- A list of units' cells. -/
def unitsB : Nat → List Value → Bool
  | 0, l => l.isEmpty
  | n + 1, l => match l with
    | .int .i64 _ :: .int .u8 _ :: k => unitsB n k
    | _ => false
def ucL (l : List Value) (i : Nat) : Int := iv (l.getD (i * 2) undef)
def ueL (l : List Value) (i : Nat) : Int := iv (l.getD (i * 2 + 1) undef)
theorem unitsB_at : ∀ (n : Nat) (l : List Value), unitsB n l = true → l.all Vx.atom = true ∧ ∀ i, i < n → l[i * 2]? = some (.int .i64 (ucL l i)) ∧ l[i * 2 + 1]? = some (.int .u8 (ueL l i))
  | 0, l, h => by
    cases l with
    | nil => exact ⟨rfl, fun i hi => by omega⟩
    | cons _ _ => cases h
  | n + 1, l, h => by
    unfold unitsB at h
    split at h
    · rename_i x y k
      obtain ⟨h1, h2⟩ := unitsB_at n k h
      refine ⟨by simp [Vx.atom, h1], fun i hi => ?_⟩
      cases i with
      | zero => exact ⟨rfl, rfl⟩
      | succ i =>
        have := h2 i (by omega)
        rw [show (i + 1) * 2 = i * 2 + 1 + 1 by omega]
        simpa [ucL, ueL, show (i + 1) * 2 = i * 2 + 1 + 1 by omega, List.getD_eq_getElem?_getD] using this
    · cases h
theorem units_deep (t : Nat → TypeId) {a b n c : Nat} {r : RowD} (h : DeepOk Tryz.prog (tabG t) ⟨51, [va [vi a, vi b]], [], vr 0 0 n c, [r]⟩) (hu : unitsB n r.cells = true) (w : World) (hL : Lies Tryz.prog (tabG t) w) :
    Calls Tryz.prog 51 #[.agg #[.int .i64 a, .int .i64 b]] w fun x w' => UnsAt n (ucL r.cells) (ueL r.cells) x w' ∧ Below w.heap.size w w' := by
  intro cs
  obtain ⟨hat, hc⟩ := unitsB_at n r.cells hu
  obtain ⟨h, _⟩ := h
  obtain ⟨w', fr, v', β', st, hfn, hlv, hbe, _, _, hnew, _, hv⟩ := h ⟨anySyms⟩ w hL (fun g => if g < Tryz.prog.globals.size then .live g 0 0 else .fresh) (fun g hg => if_pos hg) (fun y hy => if_neg (by have : Tryz.prog.globals.size + 0 ≤ y := hy; omega)) (fun j r hj => by simp at hj)
    (fun i j b cp sh cp' sh' h1 h2 => by
      skip
      split at h1
      · split at h2
        · cases h1; cases h2; rfl
        · cases h2
      · cases h1) [.agg #[.int .i64 a, .int .i64 b]] (.cons (.agg (.cons (.atom rfl) (.cons (.atom rfl) .nil))) .nil) cs
  obtain ⟨bb, cp, sh, o', hb, hlt, ho, hobj⟩ := hnew 0 r rfl
  have hv := hv ⟨anySyms⟩
  obtain ⟨pre, mid, post, fz, rfl, hp, hrr, _, _⟩ := @ObjR.inv anySyms Tryz.prog _ _ _ _ _ _ _ (hobj ⟨anySyms⟩)
  have hmid : mid = r.cells := VRs.of_atoms hrr hat
  subst hmid
  have hb : β' (Tryz.prog.globals.size + 0 + 0) = .live bb cp sh := hb
  rw [size_G] at hb
  have hcell : ∀ j v, r.cells[j]? = some v → w'.cell? ⟨bb, 0 + sh + j, none⟩ = some v := fun j v hj => by
    have hl := (List.getElem?_eq_some_iff.1 hj).1
    have e1 : w'.cell? ⟨bb, 0 + sh + j, none⟩ = (pre ++ (r.cells ++ post))[0 + sh + j]? := by simp [World.cell?, ho]
    rw [e1, List.getElem?_append_right (by omega), hp, show 0 + sh + j - sh = j by omega, List.getElem?_append_left hl, hj]
  refine ⟨.returned v', w', fr, ⟨?_, hbe⟩, st, hfn, hlv⟩
  change VR β' (.slice (some ⟨3, 0, none⟩) n c) v' at hv
  cases hv with
  | atom h => simp [Vx.atom] at h
  | sl hl hn hcp =>
    rw [hb] at hl
    cases hl
    exact ⟨_, _, _, rfl, fun i hi => ⟨by have := hcell _ _ (hc i hi).1; simpa using this, by have := hcell _ _ (hc i hi).2; simpa [Nat.add_assoc] using this⟩⟩
  | slD hd _ _ => rw [hb] at hd; cases hd
noncomputable def unRow : Nat → Nat → List Value
  | 1, 1 => r92.cells
  | 1, 2 => r93.cells
  | 1, 3 => r95.cells
  | 1, 4 => r97.cells
  | 1, 5 => r100.cells
  | 2, 1 => r94.cells
  | 2, 2 => r99.cells
  | 2, 3 => r102.cells
  | 2, 4 => r104.cells
  | 2, 5 => r107.cells
  | 3, 1 => r96.cells
  | 3, 2 => r103.cells
  | 3, 3 => r106.cells
  | 3, 4 => r109.cells
  | 3, 5 => r111.cells
  | 4, 1 => r98.cells
  | 4, 2 => r105.cells
  | 4, 3 => r110.cells
  | 4, 4 => r117.cells
  | 4, 5 => r118.cells
  | 5, 1 => r101.cells
  | 5, 2 => r108.cells
  | 5, 3 => r112.cells
  | 5, 4 => r119.cells
  | 5, 5 => r120.cells
  | _, _ => []
def unN (a b : Nat) : Nat := 6 * a * b - a - b
theorem un_1_1 (w : World) (h : Lay w) : Calls Tryz.prog 51 #[.agg #[.int .i64 ((1 : Nat) : Int), .int .i64 ((1 : Nat) : Int)]] w fun x w' => UnsAt (unN 1 1) (ucL (unRow 1 1)) (ueL (unRow 1 1)) x w' ∧ Below w.heap.size w w' :=
  units_deep (typ w) (d44_ok (typ w) _ (List.mem_of_getElem? (i := 10) rfl)) (by kernel_rfl) w (lies_G h)
theorem un_1_2 (w : World) (h : Lay w) : Calls Tryz.prog 51 #[.agg #[.int .i64 ((1 : Nat) : Int), .int .i64 ((2 : Nat) : Int)]] w fun x w' => UnsAt (unN 1 2) (ucL (unRow 1 2)) (ueL (unRow 1 2)) x w' ∧ Below w.heap.size w w' :=
  units_deep (typ w) (d44_ok (typ w) _ (List.mem_of_getElem? (i := 11) rfl)) (by kernel_rfl) w (lies_G h)
theorem un_1_3 (w : World) (h : Lay w) : Calls Tryz.prog 51 #[.agg #[.int .i64 ((1 : Nat) : Int), .int .i64 ((3 : Nat) : Int)]] w fun x w' => UnsAt (unN 1 3) (ucL (unRow 1 3)) (ueL (unRow 1 3)) x w' ∧ Below w.heap.size w w' :=
  units_deep (typ w) (d45_ok (typ w) _ (List.mem_of_getElem? (i := 1) rfl)) (by kernel_rfl) w (lies_G h)
theorem un_1_4 (w : World) (h : Lay w) : Calls Tryz.prog 51 #[.agg #[.int .i64 ((1 : Nat) : Int), .int .i64 ((4 : Nat) : Int)]] w fun x w' => UnsAt (unN 1 4) (ucL (unRow 1 4)) (ueL (unRow 1 4)) x w' ∧ Below w.heap.size w w' :=
  units_deep (typ w) (d45_ok (typ w) _ (List.mem_of_getElem? (i := 3) rfl)) (by kernel_rfl) w (lies_G h)
theorem un_1_5 (w : World) (h : Lay w) : Calls Tryz.prog 51 #[.agg #[.int .i64 ((1 : Nat) : Int), .int .i64 ((5 : Nat) : Int)]] w fun x w' => UnsAt (unN 1 5) (ucL (unRow 1 5)) (ueL (unRow 1 5)) x w' ∧ Below w.heap.size w w' :=
  units_deep (typ w) (d47_ok (typ w) _ (List.mem_of_getElem? (i := 0) rfl)) (by kernel_rfl) w (lies_G h)
theorem un_2_1 (w : World) (h : Lay w) : Calls Tryz.prog 51 #[.agg #[.int .i64 ((2 : Nat) : Int), .int .i64 ((1 : Nat) : Int)]] w fun x w' => UnsAt (unN 2 1) (ucL (unRow 2 1)) (ueL (unRow 2 1)) x w' ∧ Below w.heap.size w w' :=
  units_deep (typ w) (d45_ok (typ w) _ (List.mem_of_getElem? (i := 0) rfl)) (by kernel_rfl) w (lies_G h)
theorem un_2_2 (w : World) (h : Lay w) : Calls Tryz.prog 51 #[.agg #[.int .i64 ((2 : Nat) : Int), .int .i64 ((2 : Nat) : Int)]] w fun x w' => UnsAt (unN 2 2) (ucL (unRow 2 2)) (ueL (unRow 2 2)) x w' ∧ Below w.heap.size w w' :=
  units_deep (typ w) (d46_ok (typ w) _ (List.mem_of_getElem? (i := 1) rfl)) (by kernel_rfl) w (lies_G h)
theorem un_2_3 (w : World) (h : Lay w) : Calls Tryz.prog 51 #[.agg #[.int .i64 ((2 : Nat) : Int), .int .i64 ((3 : Nat) : Int)]] w fun x w' => UnsAt (unN 2 3) (ucL (unRow 2 3)) (ueL (unRow 2 3)) x w' ∧ Below w.heap.size w w' :=
  units_deep (typ w) (d48_ok (typ w) _ (List.mem_of_getElem? (i := 0) rfl)) (by kernel_rfl) w (lies_G h)
theorem un_2_4 (w : World) (h : Lay w) : Calls Tryz.prog 51 #[.agg #[.int .i64 ((2 : Nat) : Int), .int .i64 ((4 : Nat) : Int)]] w fun x w' => UnsAt (unN 2 4) (ucL (unRow 2 4)) (ueL (unRow 2 4)) x w' ∧ Below w.heap.size w w' :=
  units_deep (typ w) (d49_ok (typ w) _ (List.mem_of_getElem? (i := 0) rfl)) (by kernel_rfl) w (lies_G h)
theorem un_2_5 (w : World) (h : Lay w) : Calls Tryz.prog 51 #[.agg #[.int .i64 ((2 : Nat) : Int), .int .i64 ((5 : Nat) : Int)]] w fun x w' => UnsAt (unN 2 5) (ucL (unRow 2 5)) (ueL (unRow 2 5)) x w' ∧ Below w.heap.size w w' :=
  units_deep (typ w) (d52_ok (typ w) _ (List.mem_of_getElem? (i := 0) rfl)) (by kernel_rfl) w (lies_G h)
theorem un_3_1 (w : World) (h : Lay w) : Calls Tryz.prog 51 #[.agg #[.int .i64 ((3 : Nat) : Int), .int .i64 ((1 : Nat) : Int)]] w fun x w' => UnsAt (unN 3 1) (ucL (unRow 3 1)) (ueL (unRow 3 1)) x w' ∧ Below w.heap.size w w' :=
  units_deep (typ w) (d45_ok (typ w) _ (List.mem_of_getElem? (i := 2) rfl)) (by kernel_rfl) w (lies_G h)
theorem un_3_2 (w : World) (h : Lay w) : Calls Tryz.prog 51 #[.agg #[.int .i64 ((3 : Nat) : Int), .int .i64 ((2 : Nat) : Int)]] w fun x w' => UnsAt (unN 3 2) (ucL (unRow 3 2)) (ueL (unRow 3 2)) x w' ∧ Below w.heap.size w w' :=
  units_deep (typ w) (d48_ok (typ w) _ (List.mem_of_getElem? (i := 1) rfl)) (by kernel_rfl) w (lies_G h)
theorem un_3_3 (w : World) (h : Lay w) : Calls Tryz.prog 51 #[.agg #[.int .i64 ((3 : Nat) : Int), .int .i64 ((3 : Nat) : Int)]] w fun x w' => UnsAt (unN 3 3) (ucL (unRow 3 3)) (ueL (unRow 3 3)) x w' ∧ Below w.heap.size w w' :=
  units_deep (typ w) (d51_ok (typ w) _ (List.mem_of_getElem? (i := 0) rfl)) (by kernel_rfl) w (lies_G h)
theorem un_3_4 (w : World) (h : Lay w) : Calls Tryz.prog 51 #[.agg #[.int .i64 ((3 : Nat) : Int), .int .i64 ((4 : Nat) : Int)]] w fun x w' => UnsAt (unN 3 4) (ucL (unRow 3 4)) (ueL (unRow 3 4)) x w' ∧ Below w.heap.size w w' :=
  units_deep (typ w) (d54_ok (typ w) _ (List.mem_of_getElem? (i := 0) rfl)) (by kernel_rfl) w (lies_G h)
theorem un_3_5 (w : World) (h : Lay w) : Calls Tryz.prog 51 #[.agg #[.int .i64 ((3 : Nat) : Int), .int .i64 ((5 : Nat) : Int)]] w fun x w' => UnsAt (unN 3 5) (ucL (unRow 3 5)) (ueL (unRow 3 5)) x w' ∧ Below w.heap.size w w' :=
  units_deep (typ w) (d56_ok (typ w) _ (List.mem_of_getElem? (i := 0) rfl)) (by kernel_rfl) w (lies_G h)
theorem un_4_1 (w : World) (h : Lay w) : Calls Tryz.prog 51 #[.agg #[.int .i64 ((4 : Nat) : Int), .int .i64 ((1 : Nat) : Int)]] w fun x w' => UnsAt (unN 4 1) (ucL (unRow 4 1)) (ueL (unRow 4 1)) x w' ∧ Below w.heap.size w w' :=
  units_deep (typ w) (d46_ok (typ w) _ (List.mem_of_getElem? (i := 0) rfl)) (by kernel_rfl) w (lies_G h)
theorem un_4_2 (w : World) (h : Lay w) : Calls Tryz.prog 51 #[.agg #[.int .i64 ((4 : Nat) : Int), .int .i64 ((2 : Nat) : Int)]] w fun x w' => UnsAt (unN 4 2) (ucL (unRow 4 2)) (ueL (unRow 4 2)) x w' ∧ Below w.heap.size w w' :=
  units_deep (typ w) (d50_ok (typ w) _ (List.mem_of_getElem? (i := 0) rfl)) (by kernel_rfl) w (lies_G h)
theorem un_4_3 (w : World) (h : Lay w) : Calls Tryz.prog 51 #[.agg #[.int .i64 ((4 : Nat) : Int), .int .i64 ((3 : Nat) : Int)]] w fun x w' => UnsAt (unN 4 3) (ucL (unRow 4 3)) (ueL (unRow 4 3)) x w' ∧ Below w.heap.size w w' :=
  units_deep (typ w) (d55_ok (typ w) _ (List.mem_of_getElem? (i := 0) rfl)) (by kernel_rfl) w (lies_G h)
theorem un_4_4 (w : World) (h : Lay w) : Calls Tryz.prog 51 #[.agg #[.int .i64 ((4 : Nat) : Int), .int .i64 ((4 : Nat) : Int)]] w fun x w' => UnsAt (unN 4 4) (ucL (unRow 4 4)) (ueL (unRow 4 4)) x w' ∧ Below w.heap.size w w' :=
  units_deep (typ w) (d60_ok (typ w) _ (List.mem_of_getElem? (i := 0) rfl)) (by kernel_rfl) w (lies_G h)
theorem un_4_5 (w : World) (h : Lay w) : Calls Tryz.prog 51 #[.agg #[.int .i64 ((4 : Nat) : Int), .int .i64 ((5 : Nat) : Int)]] w fun x w' => UnsAt (unN 4 5) (ucL (unRow 4 5)) (ueL (unRow 4 5)) x w' ∧ Below w.heap.size w w' :=
  units_deep (typ w) (d61_ok (typ w) _ (List.mem_of_getElem? (i := 0) rfl)) (by kernel_rfl) w (lies_G h)
theorem un_5_1 (w : World) (h : Lay w) : Calls Tryz.prog 51 #[.agg #[.int .i64 ((5 : Nat) : Int), .int .i64 ((1 : Nat) : Int)]] w fun x w' => UnsAt (unN 5 1) (ucL (unRow 5 1)) (ueL (unRow 5 1)) x w' ∧ Below w.heap.size w w' :=
  units_deep (typ w) (d47_ok (typ w) _ (List.mem_of_getElem? (i := 1) rfl)) (by kernel_rfl) w (lies_G h)
theorem un_5_2 (w : World) (h : Lay w) : Calls Tryz.prog 51 #[.agg #[.int .i64 ((5 : Nat) : Int), .int .i64 ((2 : Nat) : Int)]] w fun x w' => UnsAt (unN 5 2) (ucL (unRow 5 2)) (ueL (unRow 5 2)) x w' ∧ Below w.heap.size w w' :=
  units_deep (typ w) (d53_ok (typ w) _ (List.mem_of_getElem? (i := 0) rfl)) (by kernel_rfl) w (lies_G h)
theorem un_5_3 (w : World) (h : Lay w) : Calls Tryz.prog 51 #[.agg #[.int .i64 ((5 : Nat) : Int), .int .i64 ((3 : Nat) : Int)]] w fun x w' => UnsAt (unN 5 3) (ucL (unRow 5 3)) (ueL (unRow 5 3)) x w' ∧ Below w.heap.size w w' :=
  units_deep (typ w) (d57_ok (typ w) _ (List.mem_of_getElem? (i := 0) rfl)) (by kernel_rfl) w (lies_G h)
theorem un_5_4 (w : World) (h : Lay w) : Calls Tryz.prog 51 #[.agg #[.int .i64 ((5 : Nat) : Int), .int .i64 ((4 : Nat) : Int)]] w fun x w' => UnsAt (unN 5 4) (ucL (unRow 5 4)) (ueL (unRow 5 4)) x w' ∧ Below w.heap.size w w' :=
  units_deep (typ w) (d62_ok (typ w) _ (List.mem_of_getElem? (i := 0) rfl)) (by kernel_rfl) w (lies_G h)
theorem un_5_5 (w : World) (h : Lay w) : Calls Tryz.prog 51 #[.agg #[.int .i64 ((5 : Nat) : Int), .int .i64 ((5 : Nat) : Int)]] w fun x w' => UnsAt (unN 5 5) (ucL (unRow 5 5)) (ueL (unRow 5 5)) x w' ∧ Below w.heap.size w w' :=
  units_deep (typ w) (d63_ok (typ w) _ (List.mem_of_getElem? (i := 0) rfl)) (by kernel_rfl) w (lies_G h)
theorem units_any {a b : Nat} (h1 : 1 ≤ a) (h2 : a ≤ 5) (h3 : 1 ≤ b) (h4 : b ≤ 5) (w : World) (h : Lay w) : Calls Tryz.prog 51 #[.agg #[.int .i64 (a : Int), .int .i64 (b : Int)]] w fun x w' => UnsAt (unN a b) (ucL (unRow a b)) (ueL (unRow a b)) x w' ∧ Below w.heap.size w w' := by
  obtain rfl | rfl | rfl | rfl | rfl : a = 1 ∨ a = 2 ∨ a = 3 ∨ a = 4 ∨ a = 5 := by omega
  · obtain rfl | rfl | rfl | rfl | rfl : b = 1 ∨ b = 2 ∨ b = 3 ∨ b = 4 ∨ b = 5 := by omega
    · exact un_1_1 w h
    · exact un_1_2 w h
    · exact un_1_3 w h
    · exact un_1_4 w h
    · exact un_1_5 w h
  · obtain rfl | rfl | rfl | rfl | rfl : b = 1 ∨ b = 2 ∨ b = 3 ∨ b = 4 ∨ b = 5 := by omega
    · exact un_2_1 w h
    · exact un_2_2 w h
    · exact un_2_3 w h
    · exact un_2_4 w h
    · exact un_2_5 w h
  · obtain rfl | rfl | rfl | rfl | rfl : b = 1 ∨ b = 2 ∨ b = 3 ∨ b = 4 ∨ b = 5 := by omega
    · exact un_3_1 w h
    · exact un_3_2 w h
    · exact un_3_3 w h
    · exact un_3_4 w h
    · exact un_3_5 w h
  · obtain rfl | rfl | rfl | rfl | rfl : b = 1 ∨ b = 2 ∨ b = 3 ∨ b = 4 ∨ b = 5 := by omega
    · exact un_4_1 w h
    · exact un_4_2 w h
    · exact un_4_3 w h
    · exact un_4_4 w h
    · exact un_4_5 w h
  · obtain rfl | rfl | rfl | rfl | rfl : b = 1 ∨ b = 2 ∨ b = 3 ∨ b = 4 ∨ b = 5 := by omega
    · exact un_5_1 w h
    · exact un_5_2 w h
    · exact un_5_3 w h
    · exact un_5_4 w h
    · exact un_5_5 w h
theorem lives_ok (w : World) (h : Lay w) : Calls Tryz.prog 18 #[] w fun e w' => e = .returned (.bool true) ∧ Below w.heap.size w w' :=
  (e65_ok (typ w) (18, [], vt) (List.mem_of_getElem? (i := 0) rfl)).1.calls (lies_G h)
/-! What is known of the units. -/
def pairsL (l : List Value) (m : Nat) : List (Int × Int) := (List.range m).map fun j => (ucL l j, ueL l j)
/-- They ascend. -/
def ascB (l : List Value) (m : Nat) : Bool := (List.range (m - 1)).all fun j => decide (ucL l j < ucL l (j + 1)) || (decide (ucL l j = ucL l (j + 1)) && decide (ueL l j < ueL l (j + 1)))
/-- They lie in the sheet, and are units. -/
def inB (a b : Nat) (l : List Value) (m : Nat) : Bool := (List.range m).all fun j => decide (0 ≤ ueL l j) && isUB a b (ucL l j) (ueL l j)
/-- Every unit is among them. -/
def allB (a b : Nat) (l : List Value) (m : Nat) : Bool := (List.range (4 * (a * b))).all fun i => (List.range 3).all fun e => !isU a b i e || (List.range m).any fun j => decide (ucL l j = (i : Int)) && decide (ueL l j = (e : Int))
theorem uf_of {a b m : Nat} {l : List Value} (hm : m ≤ 4096) (h1 : ascB l m = true) (h2 : inB a b l m = true) (h3 : allB a b l m = true) : UF a b m (ucL l) (ueL l) where
  small := by omega
  asc := fun j hj => by
    have := List.all_eq_true.1 h1 j (List.mem_range.2 (by omega))
    simp at this
    exact cmp_lt.2 this
  mem := fun c e he => by
    constructor
    · intro h
      unfold isUB at h
      split at h
      · rename_i hr
        have hx := List.all_eq_true.1 (List.all_eq_true.1 h3 c.toNat (List.mem_range.2 (by omega))) e.toNat (List.mem_range.2 (by omega))
        rw [h] at hx
        simp at hx
        obtain ⟨j, j1, j2, j3⟩ := hx
        exact ⟨j, j1, by omega, by omega⟩
      · cases h
    · rintro ⟨j, j1, rfl, rfl⟩
      have := List.all_eq_true.1 h2 j (List.mem_range.2 j1)
      simp at this
      exact this.2
theorem uf_1_1 : UF 1 1 (unN 1 1) (ucL (unRow 1 1)) (ueL (unRow 1 1)) := uf_of (by decide) (by kernel_rfl) (by kernel_rfl) (by kernel_rfl)
theorem uf_1_2 : UF 1 2 (unN 1 2) (ucL (unRow 1 2)) (ueL (unRow 1 2)) := uf_of (by decide) (by kernel_rfl) (by kernel_rfl) (by kernel_rfl)
theorem uf_1_3 : UF 1 3 (unN 1 3) (ucL (unRow 1 3)) (ueL (unRow 1 3)) := uf_of (by decide) (by kernel_rfl) (by kernel_rfl) (by kernel_rfl)
theorem uf_1_4 : UF 1 4 (unN 1 4) (ucL (unRow 1 4)) (ueL (unRow 1 4)) := uf_of (by decide) (by kernel_rfl) (by kernel_rfl) (by kernel_rfl)
theorem uf_1_5 : UF 1 5 (unN 1 5) (ucL (unRow 1 5)) (ueL (unRow 1 5)) := uf_of (by decide) (by kernel_rfl) (by kernel_rfl) (by kernel_rfl)
theorem uf_2_1 : UF 2 1 (unN 2 1) (ucL (unRow 2 1)) (ueL (unRow 2 1)) := uf_of (by decide) (by kernel_rfl) (by kernel_rfl) (by kernel_rfl)
theorem uf_2_2 : UF 2 2 (unN 2 2) (ucL (unRow 2 2)) (ueL (unRow 2 2)) := uf_of (by decide) (by kernel_rfl) (by kernel_rfl) (by kernel_rfl)
theorem uf_2_3 : UF 2 3 (unN 2 3) (ucL (unRow 2 3)) (ueL (unRow 2 3)) := uf_of (by decide) (by kernel_rfl) (by kernel_rfl) (by kernel_rfl)
theorem uf_2_4 : UF 2 4 (unN 2 4) (ucL (unRow 2 4)) (ueL (unRow 2 4)) := uf_of (by decide) (by kernel_rfl) (by kernel_rfl) (by kernel_rfl)
theorem uf_2_5 : UF 2 5 (unN 2 5) (ucL (unRow 2 5)) (ueL (unRow 2 5)) := uf_of (by decide) (by kernel_rfl) (by kernel_rfl) (by kernel_rfl)
theorem uf_3_1 : UF 3 1 (unN 3 1) (ucL (unRow 3 1)) (ueL (unRow 3 1)) := uf_of (by decide) (by kernel_rfl) (by kernel_rfl) (by kernel_rfl)
theorem uf_3_2 : UF 3 2 (unN 3 2) (ucL (unRow 3 2)) (ueL (unRow 3 2)) := uf_of (by decide) (by kernel_rfl) (by kernel_rfl) (by kernel_rfl)
theorem uf_3_3 : UF 3 3 (unN 3 3) (ucL (unRow 3 3)) (ueL (unRow 3 3)) := uf_of (by decide) (by kernel_rfl) (by kernel_rfl) (by kernel_rfl)
theorem uf_3_4 : UF 3 4 (unN 3 4) (ucL (unRow 3 4)) (ueL (unRow 3 4)) := uf_of (by decide) (by kernel_rfl) (by kernel_rfl) (by kernel_rfl)
theorem uf_3_5 : UF 3 5 (unN 3 5) (ucL (unRow 3 5)) (ueL (unRow 3 5)) := uf_of (by decide) (by kernel_rfl) (by kernel_rfl) (by kernel_rfl)
theorem uf_4_1 : UF 4 1 (unN 4 1) (ucL (unRow 4 1)) (ueL (unRow 4 1)) := uf_of (by decide) (by kernel_rfl) (by kernel_rfl) (by kernel_rfl)
theorem uf_4_2 : UF 4 2 (unN 4 2) (ucL (unRow 4 2)) (ueL (unRow 4 2)) := uf_of (by decide) (by kernel_rfl) (by kernel_rfl) (by kernel_rfl)
theorem uf_4_3 : UF 4 3 (unN 4 3) (ucL (unRow 4 3)) (ueL (unRow 4 3)) := uf_of (by decide) (by kernel_rfl) (by kernel_rfl) (by kernel_rfl)
theorem uf_4_4 : UF 4 4 (unN 4 4) (ucL (unRow 4 4)) (ueL (unRow 4 4)) := uf_of (by decide) (by kernel_rfl) (by kernel_rfl) (by kernel_rfl)
theorem uf_4_5 : UF 4 5 (unN 4 5) (ucL (unRow 4 5)) (ueL (unRow 4 5)) := uf_of (by decide) (by kernel_rfl) (by kernel_rfl) (by kernel_rfl)
theorem uf_5_1 : UF 5 1 (unN 5 1) (ucL (unRow 5 1)) (ueL (unRow 5 1)) := uf_of (by decide) (by kernel_rfl) (by kernel_rfl) (by kernel_rfl)
theorem uf_5_2 : UF 5 2 (unN 5 2) (ucL (unRow 5 2)) (ueL (unRow 5 2)) := uf_of (by decide) (by kernel_rfl) (by kernel_rfl) (by kernel_rfl)
theorem uf_5_3 : UF 5 3 (unN 5 3) (ucL (unRow 5 3)) (ueL (unRow 5 3)) := uf_of (by decide) (by kernel_rfl) (by kernel_rfl) (by kernel_rfl)
theorem uf_5_4 : UF 5 4 (unN 5 4) (ucL (unRow 5 4)) (ueL (unRow 5 4)) := uf_of (by decide) (by kernel_rfl) (by kernel_rfl) (by kernel_rfl)
theorem uf_5_5 : UF 5 5 (unN 5 5) (ucL (unRow 5 5)) (ueL (unRow 5 5)) := uf_of (by decide) (by kernel_rfl) (by kernel_rfl) (by kernel_rfl)
theorem uf_any {a b : Nat} (h1 : 1 ≤ a) (h2 : a ≤ 5) (h3 : 1 ≤ b) (h4 : b ≤ 5) : UF a b (unN a b) (ucL (unRow a b)) (ueL (unRow a b)) := by
  obtain rfl | rfl | rfl | rfl | rfl : a = 1 ∨ a = 2 ∨ a = 3 ∨ a = 4 ∨ a = 5 := by omega
  · obtain rfl | rfl | rfl | rfl | rfl : b = 1 ∨ b = 2 ∨ b = 3 ∨ b = 4 ∨ b = 5 := by omega
    · exact uf_1_1
    · exact uf_1_2
    · exact uf_1_3
    · exact uf_1_4
    · exact uf_1_5
  · obtain rfl | rfl | rfl | rfl | rfl : b = 1 ∨ b = 2 ∨ b = 3 ∨ b = 4 ∨ b = 5 := by omega
    · exact uf_2_1
    · exact uf_2_2
    · exact uf_2_3
    · exact uf_2_4
    · exact uf_2_5
  · obtain rfl | rfl | rfl | rfl | rfl : b = 1 ∨ b = 2 ∨ b = 3 ∨ b = 4 ∨ b = 5 := by omega
    · exact uf_3_1
    · exact uf_3_2
    · exact uf_3_3
    · exact uf_3_4
    · exact uf_3_5
  · obtain rfl | rfl | rfl | rfl | rfl : b = 1 ∨ b = 2 ∨ b = 3 ∨ b = 4 ∨ b = 5 := by omega
    · exact uf_4_1
    · exact uf_4_2
    · exact uf_4_3
    · exact uf_4_4
    · exact uf_4_5
  · obtain rfl | rfl | rfl | rfl | rfl : b = 1 ∨ b = 2 ∨ b = 3 ∨ b = 4 ∨ b = 5 := by omega
    · exact uf_5_1
    · exact uf_5_2
    · exact uf_5_3
    · exact uf_5_4
    · exact uf_5_5
theorem refc_any {a b : Nat} (h1 : 1 ≤ a) (h2 : a ≤ 5) (h3 : 1 ≤ b) (h4 : b ≤ 5) (c e k : Nat → Int) (pa : Option Addr) (n ca : Nat) (w : World) (hL : Lay w) (hn : (n : Int) ≤ 4096) (ra : Crs w pa n c e k) (hr : ∀ i, i < n → (0 ≤ e i ∧ e i ≤ 255) ∧ (0 ≤ k i ∧ k i ≤ 255)) : Calls Tryz.prog 29 #[.agg #[.int .i64 (a : Int), .int .i64 (b : Int), .slice pa n ca]] w fun r w' => r = .returned (.int .i64 (errP a b n c e k)) ∧ Below w.heap.size w w' :=
  ref_any h1 h2 h3 h4 c e k pa n ca w hL hn ra hr _ _ _ (uf_any h1 h2 h3 h4) fun V hV => units_any h1 h2 h3 h4 V (lay_below hL hV)

end Go.Proofs.YtbghfcllicfnpaaGreatDoor
