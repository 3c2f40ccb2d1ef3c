/-
  Says: the library's table of powers of ten, and Itoa.
-/
import Derived.Test.YtppjogagimflpaaGreatDoorRfD
import Derived.Test.YtppjogagimflpaaGreatDoorShelf
set_option linter.unusedVariables false
set_option linter.unusedSimpArgs false
namespace Go.Proofs.YtppjogagimflpaaGreatDoor
open Go Go.RowKit

/-- The library's table of powers of ten is as its initialiser laid it. -/
def Tab (w : World) : Prop := Lib.TabIs Tryz.prog w "internal/strconv.uint64pow10" .u64 Lib.pow10Tab
theorem gPow : Tryz.prog.globalNamed "internal/strconv.uint64pow10" = some 3 := by kernel_rfl
theorem tab_below {w w' : World} (h : Tab w) (hb : Below w.heap.size w w') : Tab w' := by
  unfold Tab Lib.TabIs World.var? at h ⊢
  simp only [gPow, Option.bind_some] at h ⊢
  cases ho : w.heap[3]? with
  | none => rw [ho] at h; cases h
  | some o => rw [hb.block _ (held_lt ho)]; exact h
theorem tab_on {W : World} (u : Later W) (h : Tab W) : Tab (on u) := tab_below h u.b
theorem tab_alloc {W : World} (o : Obj) (h : Tab W) : Tab (W.alloc o) := tab_below h ((Below.refl _ _).alloc (Nat.le_refl _) o)
theorem below_grow {w w' : World} (h : ∃ k os, w' = Sort.grow (w.drewN k) os) : Below w.heap.size w w' := by
  obtain ⟨k, os, rfl⟩ := h
  refine ⟨rfl, rfl, rfl, by simp, fun i hi => ?_⟩
  show (w.heap ++ os)[i]? = _
  rw [Array.getElem?_append, if_pos hi]
theorem itoa_any (c : Int) (w : World) (hT : Tab w) (h1 : -100000 ≤ c) (h2 : c ≤ 100000) : Calls Tryz.prog 56 #[.int .i64 c] w fun e w' => e = .returned (.string ⟨(Lib.itoa c).toArray⟩) ∧ Below w.heap.size w w' :=
  (Tryz.strconv_Itoa c (by omega) (by omega) w hT).mono fun e w' ⟨he, hg⟩ => ⟨he, below_grow hg⟩

/-- The letter of a kind; the text of a line. -/
def letter (k : Int) : UInt8 := if k = 1 then 120 else if k = 2 then 121 else if k = 3 then 117 else 100
def textL (k c : Int) : List UInt8 := letter k :: 32 :: Lib.itoa c

end Go.Proofs.YtppjogagimflpaaGreatDoor
