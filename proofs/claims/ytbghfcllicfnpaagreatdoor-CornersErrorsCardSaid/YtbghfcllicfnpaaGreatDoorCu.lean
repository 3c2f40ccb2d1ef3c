/-
  Says: what lies behind an edge; isUnit at a sheet, from its runs.
-/
import Derived.Test.YtbghfcllicfnpaaGreatDoorKl
import Derived.Test.YtbghfcllicfnpaaGreatDoorVx24
import Derived.KernelRfl
set_option maxRecDepth 1000000
set_option linter.unusedVariables false
set_option linter.unusedSimpArgs false
namespace Go.Proofs.YtbghfcllicfnpaaGreatDoor
open Go Go.Vx
attribute [local instance] anyKeeps
open Go.RowKit
/-! What lies behind an edge of a cell of a sheet. -/
def nbE0 (W H x y id : Nat) : Nat → Option Nat
  | 0 => match y with
    | 0 => none
    | _ => some (Nat.sub (Nat.add id 2) (Nat.mul 4 W))
  | 1 => match Nat.beq (Nat.succ x) W with
    | true => none
    | false => some (Nat.add id 6)
  | 2 => match Nat.beq (Nat.succ y) H with
    | true => none
    | false => some (Nat.sub (Nat.add id (Nat.mul 4 W)) 2)
  | _ => match x with
    | 0 => none
    | _ => some (Nat.sub id 6)
def nb (W H id e : Nat) : Option Nat := match e with
  | 0 => nbE0 W H (Nat.mod (Nat.div id 4) W) (Nat.div (Nat.div id 4) W) id (Nat.mod id 4)
  | 1 => match Nat.beq (Nat.mod id 2) 0 with
    | true => some (Nat.succ id)
    | false => some (Nat.sub id 1)
  | _ => some (Nat.sub (Nat.add id 3) (Nat.mul 2 (Nat.mod id 4)))
def isU (W H id e : Nat) : Bool := match nb W H id e with
  | some n => Nat.blt id n
  | none => false
/-- Whether a cell and an edge name a unit. -/
def isUB (W H : Nat) (c e : Int) : Bool := if 0 ≤ c ∧ c < 4 * ((W * H : Nat) : Int) ∧ e < 3 then isU W H c.toNat e.toNat else false
variable {t : Nat → TypeId} {w h : Nat}
theorem allU_of {α : Type} {f : α → Bool} {l : List α} (h : allL f l = true) : ∀ x ∈ l, f x = true := by
  rw [allL_eq] at h
  exact List.all_eq_true.1 h
noncomputable def uN (t : Nat → TypeId) (w h i : Nat) : Bool := isVal (vf) (@run (tabPrims [(13, vy 0, vu 3, vf)] []) Tryz.prog (orElse (valOrc (fun _ => false) (tabG t) (ansT [])) (noOrc (tabG t))) 1000000 (.call 61 [va [vi w, vi h], va [vi i, vy 0]] (tabG t)))
noncomputable def uE (t : Nat → TypeId) (w h i e : Nat) : Bool := isVal (.bool (isU w h i e)) (@run (tabPrims [] []) Tryz.prog (orElse (valOrc (fun _ => false) (tabG t) (ansT [])) (noOrc (tabG t))) 1000000 (.call 61 [va [vi w, vi h], va [vi i, vu e]] (tabG t)))
noncomputable def u4 (t : Nat → TypeId) (w h i : Nat) : Bool := (uN t w h i && uE t w h i 0) && (uE t w h i 1 && uE t w h i 2)
noncomputable def uA (t : Nat → TypeId) (w h : Nat) : Bool := isVal (vf) (@run (tabPrims [(13, vy 0, vi 0, vt)] []) Tryz.prog (orElse (valOrc (fun _ => false) (tabG t) (ansT [])) (noOrc (tabG t))) 1000000 (.call 61 [va [vi w, vi h], va [vy 0, vy 1]] (tabG t)))
noncomputable def uB (t : Nat → TypeId) (w h : Nat) : Bool := isVal (vf) (@run (tabPrims [(13, vy 0, vi 0, vf), (16, vy 0, vi (4 * (w * h)), vt)] []) Tryz.prog (orElse (valOrc (fun _ => false) (tabG t) (ansT [])) (noOrc (tabG t))) 1000000 (.call 61 [va [vi w, vi h], va [vy 0, vy 1]] (tabG t)))
theorem isUnit_sheet (hA : uA t w h = true) (hB : uB t w h = true) (h4 : ∀ i < 4 * (w * h), u4 t w h i = true) (c e : Int) (h_e : 0 ≤ e ∧ e ≤ 255) : Known Tryz.prog (tabG t) 61 [va [vi w, vi h], .agg ⟨[.int .i64 c, .int .u8 e]⟩] (.bool (isUB w h c e)) := by
  unfold isUB
  by_cases c0 : c < 0
  · rw [if_neg (by omega)]
    exact path_more (ρ := ofInts [(.i64, c), (.u8, e)]) (tabs_G t) (size_V t) (floor_V t) (ofInts_plain _) (bt := [(13, vy 0, vi 0, vt)]) (ct := []) ⟨bh_lss (a := c) (b := 0) rfl rfl rfl rfl (lt_tt c0), trivial⟩ trivial (el := []) trivial (Q2 := noOrc (tabG t)) (hQ2 := nothing_known (base_G t)) (args := [va [vi w, vi h], va [vy 0, vy 1]]) (v := vf) rfl rfl (by kernel_rfl) hA
  by_cases c1 : 4 * ((w * h : Nat) : Int) ≤ c
  · rw [if_neg (by omega)]
    exact path_more (ρ := ofInts [(.i64, c), (.u8, e)]) (tabs_G t) (size_V t) (floor_V t) (ofInts_plain _) (bt := [(13, vy 0, vi 0, vf), (16, vy 0, vi (4 * (w * h)), vt)]) (ct := []) ⟨bh_lss (a := c) (b := 0) rfl rfl rfl rfl (lt_ff (by omega)), bh_geqT (a := c) (b := ((4 * (w * h) : Nat) : Int)) rfl rfl rfl rfl (lt_ff (by omega)), trivial⟩ trivial (el := []) trivial (Q2 := noOrc (tabG t)) (hQ2 := nothing_known (base_G t)) (args := [va [vi w, vi h], va [vy 0, vy 1]]) (v := vf) rfl rfl (by kernel_rfl) hB
  obtain ⟨i, rfl⟩ : ∃ i : Nat, c = (i : Int) := ⟨c.toNat, by omega⟩
  have hi := h4 i (by omega)
  simp only [u4, Bool.and_eq_true] at hi
  obtain ⟨⟨hN, h0⟩, h1, h2⟩ := hi
  by_cases e3 : e < 3
  · rw [if_pos ⟨by omega, by omega, e3⟩]
    have he : e = 0 ∨ e = 1 ∨ e = 2 := by omega
    rcases he with rfl | rfl | rfl
    · exact path_more (ρ := ofInts []) (tabs_G t) (size_V t) (floor_V t) (ofInts_plain _) (bt := []) (ct := []) trivial trivial (el := []) trivial (Q2 := noOrc (tabG t)) (hQ2 := nothing_known (base_G t)) (args := [va [vi w, vi h], va [vi i, vu 0]]) (v := .bool (isU w h i 0)) rfl rfl (by kernel_rfl) h0
    · exact path_more (ρ := ofInts []) (tabs_G t) (size_V t) (floor_V t) (ofInts_plain _) (bt := []) (ct := []) trivial trivial (el := []) trivial (Q2 := noOrc (tabG t)) (hQ2 := nothing_known (base_G t)) (args := [va [vi w, vi h], va [vi i, vu 1]]) (v := .bool (isU w h i 1)) rfl rfl (by kernel_rfl) h1
    · exact path_more (ρ := ofInts []) (tabs_G t) (size_V t) (floor_V t) (ofInts_plain _) (bt := []) (ct := []) trivial trivial (el := []) trivial (Q2 := noOrc (tabG t)) (hQ2 := nothing_known (base_G t)) (args := [va [vi w, vi h], va [vi i, vu 2]]) (v := .bool (isU w h i 2)) rfl rfl (by kernel_rfl) h2
  · rw [if_neg (by omega)]
    exact path_more (ρ := ofInts [(.u8, e)]) (tabs_G t) (size_V t) (floor_V t) (ofInts_plain _) (bt := [(13, vy 0, vu 3, vf)]) (ct := []) ⟨bh_lss (a := e) (b := 3) rfl rfl rfl rfl (lt_ff (by omega)), trivial⟩ trivial (el := []) trivial (Q2 := noOrc (tabG t)) (hQ2 := nothing_known (base_G t)) (args := [va [vi w, vi h], va [vi i, vy 0]]) (v := vf) rfl rfl (by kernel_rfl) hN
theorem rng_app {p : Nat → Bool} {a b c : Nat} (h : allL p (List.range' a b) = true) (k : ∀ i < a, p i = true) (e : a + b = c) : ∀ i < c, p i = true := fun i hi => by
  rcases Nat.lt_or_ge i a with h1 | h1
  · exact k i h1
  · exact allU_of h i (List.mem_range'_1.2 ⟨h1, by omega⟩)

end Go.Proofs.YtbghfcllicfnpaaGreatDoor
