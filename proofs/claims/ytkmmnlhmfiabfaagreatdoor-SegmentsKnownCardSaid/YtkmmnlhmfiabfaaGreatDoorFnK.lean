/-
  Says: which kind kindOf finds for a letter.
-/
import Derived.WalkKit
import Derived.WalkSpells
import Derived.WalkLawsBesides
import Derived.BigQuiet
import Derived.Test.YtkmmnlhmfiabfaaGreatDoorProg
import Derived.Laws.EntriesVeiled
import Derived.StillTail
import Derived.Lib.ItoaMem
import Derived.Lib.ItoaNum
import Derived.Lib.ItoaLen
import Derived.Laws.BytesString
import Derived.Laws.Concat
import Derived.Deep.RegionWith
import Derived.IntWalk
import Derived.Test.YtkmmnlhmfiabfaaGreatDoorShelfB
namespace Go.Proofs.YtkmmnlhmfiabfaaGreatDoor
open Go Go.RowKit

/-- A world in which all that W had is as it was. -/
structure Later (W : World) where
  w : World
  b : Below W.heap.size W w

instance laterNonempty {W : World} : Nonempty (Later W) := ⟨⟨W, Below.refl _ _⟩⟩

def on {W : World} (u : Later W) : World := u.w

@[go_sem] theorem on_cell {W : World} (u : Later W) (a : Addr) : (on u).cell? a = if (W.cell? a).isSome = true then W.cell? a else u.w.cell? a := by
  split
  · rename_i h
    obtain ⟨v, hv⟩ := Option.isSome_iff_exists.1 h
    exact u.b.cell (World.block_lt_of_cell? W a hv)
  · rfl

@[go_sem] theorem on_frozen {W : World} (u : Later W) (a : Addr) : (on u).frozen? a = if (W.cell? a).isSome = true then W.frozen? a else u.w.frozen? a := by
  split
  · rename_i h
    obtain ⟨v, hv⟩ := Option.isSome_iff_exists.1 h
    exact u.b.frozen (World.block_lt_of_cell? W a hv)
  · rfl

theorem on_size {W : World} (u : Later W) : W.heap.size ≤ (on u).heap.size := u.b.size
theorem after {W w' : World} (h : Below W.heap.size W w') : ∃ u : Later W, w' = on u := ⟨⟨w', h⟩, rfl⟩

theorem Calls.later {P : Program} {f : FuncId} {args : Array Value} {W : World} {u : Later W} {v : Value}
    (h : Calls P f args (on u) fun e w' => e = .returned v ∧ Below (on u).heap.size (on u) w') : Calls P f args (on u) fun e w' => e = .returned v ∧ ∃ u' : Later W, w' = on u' :=
  h.mono fun _ w' ⟨he, hb⟩ => ⟨he, ⟨w', u.b.trans (hb.mono u.b.size)⟩, rfl⟩

theorem region_later {P : Program} {id : Nat} {Q : Exit → Act → World → Prop} {a : Act} {W : World} {l : List Oper} (hm : P.follows .mixedOrders = true) (hB : Region.lexB .any l.toArray = true)
    (h : wpQuiet P l.toArray (fun w' => ∃ u : Later W, w' = on u) (fun a' => ∀ w', (∃ u : Later W, w' = on u) → Q .normal a' w') l a) : (Code.region id l.toArray true).wp P Q a W :=
  wp_region_quiet (C := fun w' => ∃ u : Later W, w' = on u) hm hB ⟨⟨W.drew, (Below.refl _ _).drew⟩, rfl⟩ (by simpa using h)

end Go.Proofs.YtkmmnlhmfiabfaaGreatDoor
namespace Go.Proofs.YtkmmnlhmfiabfaaGreatDoor
open Go Go.RowKit

abbrev ln (k c : Int) : Value := .agg #[.int .u8 k, .int .i64 c]
abbrev pt (x y : Int) : Value := .agg #[.int .i64 x, .int .i64 y]

theorem check_ok (k c : Int) (w : World) (h1 : 1 ≤ k) (h2 : k ≤ 4) (h3 : -4096 ≤ c) (h4 : c ≤ 4096) :
    Calls Tryz.prog 58 #[ln k c] w fun e w' => e = .returned (.int .i64 0) ∧ Below w.heap.size w w' := by
  go_enter Tryz.func58, Tryz.ntmps58
  go_wp2
  go_ret
  exact ⟨rfl, (Below.refl _ _).alloc (Nat.le_refl _) _⟩

theorem check_bad (k c : Int) (w : World) (h : k < 1 ∨ 4 < k ∨ c < -4096 ∨ 4096 < c) :
    Calls Tryz.prog 58 #[ln k c] w fun e w' => e = .returned (.int .i64 1) ∧ Below w.heap.size w w' := by
  by_cases a1 : 1 ≤ k
  · by_cases a2 : k ≤ 4
    · by_cases a3 : -4096 ≤ c
      · have a4 : ¬ c ≤ 4096 := by omega
        clear h
        go_enter Tryz.func58, Tryz.ntmps58
        go_wp2
        go_ret
        exact ⟨rfl, (Below.refl _ _).alloc (Nat.le_refl _) _⟩
      · clear h
        go_enter Tryz.func58, Tryz.ntmps58
        go_wp2
        go_ret
        exact ⟨rfl, (Below.refl _ _).alloc (Nat.le_refl _) _⟩
    · clear h
      go_enter Tryz.func58, Tryz.ntmps58
      go_wp2
      go_ret
      exact ⟨rfl, (Below.refl _ _).alloc (Nat.le_refl _) _⟩
  · clear h
    go_enter Tryz.func58, Tryz.ntmps58
    go_wp2
    go_ret
    exact ⟨rfl, (Below.refl _ _).alloc (Nat.le_refl _) _⟩


end Go.Proofs.YtkmmnlhmfiabfaaGreatDoor
namespace Go.Proofs.YtkmmnlhmfiabfaaGreatDoor
open Go Go.RowKit

theorem way_at1 : ∀ w, (Instr.index 206 (.agg #[.int .i32 0, .nilFunc, .nilFunc, .nilFunc, .int .u8 0, .int .u8 0, .int .u8 0, .int .u8 0, .int .u8 0, .int .i32 120, .func (.func 121) #[] #[], .func (.func 122) #[] #[], .func (.func 123) #[] #[], .int .u8 0, .int .u8 1, .int .u8 2, .int .u8 4, .int .u8 3, .int .i32 121, .func (.func 124) #[] #[], .func (.func 125) #[] #[], .func (.func 126) #[] #[], .int .u8 0, .int .u8 1, .int .u8 2, .int .u8 4, .int .u8 3, .int .i32 117, .func (.func 127) #[] #[], .func (.func 128) #[] #[], .func (.func 129) #[] #[], .int .u8 0, .int .u8 2, .int .u8 1, .int .u8 3, .int .u8 4, .int .i32 100, .func (.func 130) #[] #[], .func (.func 131) #[] #[], .func (.func 132) #[] #[], .int .u8 0, .int .u8 2, .int .u8 1, .int .u8 3, .int .u8 4]) (.int .u8 1)).run Tryz.prog w = .ok (.agg #[.int .i32 120, .func (.func 121) #[] #[], .func (.func 122) #[] #[], .func (.func 123) #[] #[], .int .u8 0, .int .u8 1, .int .u8 2, .int .u8 4, .int .u8 3]) w := fun _ => by kernel_rfl
theorem way_at2 : ∀ w, (Instr.index 206 (.agg #[.int .i32 0, .nilFunc, .nilFunc, .nilFunc, .int .u8 0, .int .u8 0, .int .u8 0, .int .u8 0, .int .u8 0, .int .i32 120, .func (.func 121) #[] #[], .func (.func 122) #[] #[], .func (.func 123) #[] #[], .int .u8 0, .int .u8 1, .int .u8 2, .int .u8 4, .int .u8 3, .int .i32 121, .func (.func 124) #[] #[], .func (.func 125) #[] #[], .func (.func 126) #[] #[], .int .u8 0, .int .u8 1, .int .u8 2, .int .u8 4, .int .u8 3, .int .i32 117, .func (.func 127) #[] #[], .func (.func 128) #[] #[], .func (.func 129) #[] #[], .int .u8 0, .int .u8 2, .int .u8 1, .int .u8 3, .int .u8 4, .int .i32 100, .func (.func 130) #[] #[], .func (.func 131) #[] #[], .func (.func 132) #[] #[], .int .u8 0, .int .u8 2, .int .u8 1, .int .u8 3, .int .u8 4]) (.int .u8 2)).run Tryz.prog w = .ok (.agg #[.int .i32 121, .func (.func 124) #[] #[], .func (.func 125) #[] #[], .func (.func 126) #[] #[], .int .u8 0, .int .u8 1, .int .u8 2, .int .u8 4, .int .u8 3]) w := fun _ => by kernel_rfl
theorem way_at3 : ∀ w, (Instr.index 206 (.agg #[.int .i32 0, .nilFunc, .nilFunc, .nilFunc, .int .u8 0, .int .u8 0, .int .u8 0, .int .u8 0, .int .u8 0, .int .i32 120, .func (.func 121) #[] #[], .func (.func 122) #[] #[], .func (.func 123) #[] #[], .int .u8 0, .int .u8 1, .int .u8 2, .int .u8 4, .int .u8 3, .int .i32 121, .func (.func 124) #[] #[], .func (.func 125) #[] #[], .func (.func 126) #[] #[], .int .u8 0, .int .u8 1, .int .u8 2, .int .u8 4, .int .u8 3, .int .i32 117, .func (.func 127) #[] #[], .func (.func 128) #[] #[], .func (.func 129) #[] #[], .int .u8 0, .int .u8 2, .int .u8 1, .int .u8 3, .int .u8 4, .int .i32 100, .func (.func 130) #[] #[], .func (.func 131) #[] #[], .func (.func 132) #[] #[], .int .u8 0, .int .u8 2, .int .u8 1, .int .u8 3, .int .u8 4]) (.int .u8 3)).run Tryz.prog w = .ok (.agg #[.int .i32 117, .func (.func 127) #[] #[], .func (.func 128) #[] #[], .func (.func 129) #[] #[], .int .u8 0, .int .u8 2, .int .u8 1, .int .u8 3, .int .u8 4]) w := fun _ => by kernel_rfl
theorem way_at4 : ∀ w, (Instr.index 206 (.agg #[.int .i32 0, .nilFunc, .nilFunc, .nilFunc, .int .u8 0, .int .u8 0, .int .u8 0, .int .u8 0, .int .u8 0, .int .i32 120, .func (.func 121) #[] #[], .func (.func 122) #[] #[], .func (.func 123) #[] #[], .int .u8 0, .int .u8 1, .int .u8 2, .int .u8 4, .int .u8 3, .int .i32 121, .func (.func 124) #[] #[], .func (.func 125) #[] #[], .func (.func 126) #[] #[], .int .u8 0, .int .u8 1, .int .u8 2, .int .u8 4, .int .u8 3, .int .i32 117, .func (.func 127) #[] #[], .func (.func 128) #[] #[], .func (.func 129) #[] #[], .int .u8 0, .int .u8 2, .int .u8 1, .int .u8 3, .int .u8 4, .int .i32 100, .func (.func 130) #[] #[], .func (.func 131) #[] #[], .func (.func 132) #[] #[], .int .u8 0, .int .u8 2, .int .u8 1, .int .u8 3, .int .u8 4]) (.int .u8 4)).run Tryz.prog w = .ok (.agg #[.int .i32 100, .func (.func 130) #[] #[], .func (.func 131) #[] #[], .func (.func 132) #[] #[], .int .u8 0, .int .u8 2, .int .u8 1, .int .u8 3, .int .u8 4]) w := fun _ => by kernel_rfl

theorem way_1 (w : World) : Calls Tryz.prog 81 #[.int .u8 1] w fun e w' => e = .returned (.agg #[.int .i32 120, .func (.func 121) #[] #[], .func (.func 122) #[] #[], .func (.func 123) #[] #[], .int .u8 0, .int .u8 1, .int .u8 2, .int .u8 4, .int .u8 3]) ∧ Below w.heap.size w w' := by
  have hx := way_at1
  go_enter Tryz.func81, Tryz.ntmps81
  go_wp2
  exact bodyPost_ret (v := .agg #[.int .i32 120, .func (.func 121) #[] #[], .func (.func 122) #[] #[], .func (.func 123) #[] #[], .int .u8 0, .int .u8 1, .int .u8 2, .int .u8 4, .int .u8 3]) (by simp [results, Tryz.results81, go_sem]) rfl ⟨rfl, (((Below.refl _ _).alloc (Nat.le_refl _) _).alloc (by simp) _).alloc (by simp; omega) _⟩

theorem way_2 (w : World) : Calls Tryz.prog 81 #[.int .u8 2] w fun e w' => e = .returned (.agg #[.int .i32 121, .func (.func 124) #[] #[], .func (.func 125) #[] #[], .func (.func 126) #[] #[], .int .u8 0, .int .u8 1, .int .u8 2, .int .u8 4, .int .u8 3]) ∧ Below w.heap.size w w' := by
  have hx := way_at2
  go_enter Tryz.func81, Tryz.ntmps81
  go_wp2
  exact bodyPost_ret (v := .agg #[.int .i32 121, .func (.func 124) #[] #[], .func (.func 125) #[] #[], .func (.func 126) #[] #[], .int .u8 0, .int .u8 1, .int .u8 2, .int .u8 4, .int .u8 3]) (by simp [results, Tryz.results81, go_sem]) rfl ⟨rfl, (((Below.refl _ _).alloc (Nat.le_refl _) _).alloc (by simp) _).alloc (by simp; omega) _⟩

theorem way_3 (w : World) : Calls Tryz.prog 81 #[.int .u8 3] w fun e w' => e = .returned (.agg #[.int .i32 117, .func (.func 127) #[] #[], .func (.func 128) #[] #[], .func (.func 129) #[] #[], .int .u8 0, .int .u8 2, .int .u8 1, .int .u8 3, .int .u8 4]) ∧ Below w.heap.size w w' := by
  have hx := way_at3
  go_enter Tryz.func81, Tryz.ntmps81
  go_wp2
  exact bodyPost_ret (v := .agg #[.int .i32 117, .func (.func 127) #[] #[], .func (.func 128) #[] #[], .func (.func 129) #[] #[], .int .u8 0, .int .u8 2, .int .u8 1, .int .u8 3, .int .u8 4]) (by simp [results, Tryz.results81, go_sem]) rfl ⟨rfl, (((Below.refl _ _).alloc (Nat.le_refl _) _).alloc (by simp) _).alloc (by simp; omega) _⟩

theorem way_4 (w : World) : Calls Tryz.prog 81 #[.int .u8 4] w fun e w' => e = .returned (.agg #[.int .i32 100, .func (.func 130) #[] #[], .func (.func 131) #[] #[], .func (.func 132) #[] #[], .int .u8 0, .int .u8 2, .int .u8 1, .int .u8 3, .int .u8 4]) ∧ Below w.heap.size w w' := by
  have hx := way_at4
  go_enter Tryz.func81, Tryz.ntmps81
  go_wp2
  exact bodyPost_ret (v := .agg #[.int .i32 100, .func (.func 130) #[] #[], .func (.func 131) #[] #[], .func (.func 132) #[] #[], .int .u8 0, .int .u8 2, .int .u8 1, .int .u8 3, .int .u8 4]) (by simp [results, Tryz.results81, go_sem]) rfl ⟨rfl, (((Below.refl _ _).alloc (Nat.le_refl _) _).alloc (by simp) _).alloc (by simp; omega) _⟩

end Go.Proofs.YtkmmnlhmfiabfaaGreatDoor
namespace Go.Proofs.YtkmmnlhmfiabfaaGreatDoor
open Go Go.RowKit

@[go_sem] theorem way_field10 : ∀ w, (Instr.field 163 (.agg #[.int .i32 120, .func (.func 121) #[] #[], .func (.func 122) #[] #[], .func (.func 123) #[] #[], .int .u8 0, .int .u8 1, .int .u8 2, .int .u8 4, .int .u8 3]) 0).run Tryz.prog w = .ok (.int .i32 120) w := fun _ => by kernel_rfl
@[go_sem] theorem way_field11 : ∀ w, (Instr.field 163 (.agg #[.int .i32 120, .func (.func 121) #[] #[], .func (.func 122) #[] #[], .func (.func 123) #[] #[], .int .u8 0, .int .u8 1, .int .u8 2, .int .u8 4, .int .u8 3]) 1).run Tryz.prog w = .ok (.func (.func 121) #[] #[]) w := fun _ => by kernel_rfl
@[go_sem] theorem way_field12 : ∀ w, (Instr.field 163 (.agg #[.int .i32 120, .func (.func 121) #[] #[], .func (.func 122) #[] #[], .func (.func 123) #[] #[], .int .u8 0, .int .u8 1, .int .u8 2, .int .u8 4, .int .u8 3]) 2).run Tryz.prog w = .ok (.func (.func 122) #[] #[]) w := fun _ => by kernel_rfl
@[go_sem] theorem way_field13 : ∀ w, (Instr.field 163 (.agg #[.int .i32 120, .func (.func 121) #[] #[], .func (.func 122) #[] #[], .func (.func 123) #[] #[], .int .u8 0, .int .u8 1, .int .u8 2, .int .u8 4, .int .u8 3]) 3).run Tryz.prog w = .ok (.func (.func 123) #[] #[]) w := fun _ => by kernel_rfl
@[go_sem] theorem way_field20 : ∀ w, (Instr.field 163 (.agg #[.int .i32 121, .func (.func 124) #[] #[], .func (.func 125) #[] #[], .func (.func 126) #[] #[], .int .u8 0, .int .u8 1, .int .u8 2, .int .u8 4, .int .u8 3]) 0).run Tryz.prog w = .ok (.int .i32 121) w := fun _ => by kernel_rfl
@[go_sem] theorem way_field21 : ∀ w, (Instr.field 163 (.agg #[.int .i32 121, .func (.func 124) #[] #[], .func (.func 125) #[] #[], .func (.func 126) #[] #[], .int .u8 0, .int .u8 1, .int .u8 2, .int .u8 4, .int .u8 3]) 1).run Tryz.prog w = .ok (.func (.func 124) #[] #[]) w := fun _ => by kernel_rfl
@[go_sem] theorem way_field22 : ∀ w, (Instr.field 163 (.agg #[.int .i32 121, .func (.func 124) #[] #[], .func (.func 125) #[] #[], .func (.func 126) #[] #[], .int .u8 0, .int .u8 1, .int .u8 2, .int .u8 4, .int .u8 3]) 2).run Tryz.prog w = .ok (.func (.func 125) #[] #[]) w := fun _ => by kernel_rfl
@[go_sem] theorem way_field23 : ∀ w, (Instr.field 163 (.agg #[.int .i32 121, .func (.func 124) #[] #[], .func (.func 125) #[] #[], .func (.func 126) #[] #[], .int .u8 0, .int .u8 1, .int .u8 2, .int .u8 4, .int .u8 3]) 3).run Tryz.prog w = .ok (.func (.func 126) #[] #[]) w := fun _ => by kernel_rfl
@[go_sem] theorem way_field30 : ∀ w, (Instr.field 163 (.agg #[.int .i32 117, .func (.func 127) #[] #[], .func (.func 128) #[] #[], .func (.func 129) #[] #[], .int .u8 0, .int .u8 2, .int .u8 1, .int .u8 3, .int .u8 4]) 0).run Tryz.prog w = .ok (.int .i32 117) w := fun _ => by kernel_rfl
@[go_sem] theorem way_field31 : ∀ w, (Instr.field 163 (.agg #[.int .i32 117, .func (.func 127) #[] #[], .func (.func 128) #[] #[], .func (.func 129) #[] #[], .int .u8 0, .int .u8 2, .int .u8 1, .int .u8 3, .int .u8 4]) 1).run Tryz.prog w = .ok (.func (.func 127) #[] #[]) w := fun _ => by kernel_rfl
@[go_sem] theorem way_field32 : ∀ w, (Instr.field 163 (.agg #[.int .i32 117, .func (.func 127) #[] #[], .func (.func 128) #[] #[], .func (.func 129) #[] #[], .int .u8 0, .int .u8 2, .int .u8 1, .int .u8 3, .int .u8 4]) 2).run Tryz.prog w = .ok (.func (.func 128) #[] #[]) w := fun _ => by kernel_rfl
@[go_sem] theorem way_field33 : ∀ w, (Instr.field 163 (.agg #[.int .i32 117, .func (.func 127) #[] #[], .func (.func 128) #[] #[], .func (.func 129) #[] #[], .int .u8 0, .int .u8 2, .int .u8 1, .int .u8 3, .int .u8 4]) 3).run Tryz.prog w = .ok (.func (.func 129) #[] #[]) w := fun _ => by kernel_rfl
@[go_sem] theorem way_field40 : ∀ w, (Instr.field 163 (.agg #[.int .i32 100, .func (.func 130) #[] #[], .func (.func 131) #[] #[], .func (.func 132) #[] #[], .int .u8 0, .int .u8 2, .int .u8 1, .int .u8 3, .int .u8 4]) 0).run Tryz.prog w = .ok (.int .i32 100) w := fun _ => by kernel_rfl
@[go_sem] theorem way_field41 : ∀ w, (Instr.field 163 (.agg #[.int .i32 100, .func (.func 130) #[] #[], .func (.func 131) #[] #[], .func (.func 132) #[] #[], .int .u8 0, .int .u8 2, .int .u8 1, .int .u8 3, .int .u8 4]) 1).run Tryz.prog w = .ok (.func (.func 130) #[] #[]) w := fun _ => by kernel_rfl
@[go_sem] theorem way_field42 : ∀ w, (Instr.field 163 (.agg #[.int .i32 100, .func (.func 130) #[] #[], .func (.func 131) #[] #[], .func (.func 132) #[] #[], .int .u8 0, .int .u8 2, .int .u8 1, .int .u8 3, .int .u8 4]) 2).run Tryz.prog w = .ok (.func (.func 131) #[] #[]) w := fun _ => by kernel_rfl
@[go_sem] theorem way_field43 : ∀ w, (Instr.field 163 (.agg #[.int .i32 100, .func (.func 130) #[] #[], .func (.func 131) #[] #[], .func (.func 132) #[] #[], .int .u8 0, .int .u8 2, .int .u8 1, .int .u8 3, .int .u8 4]) 3).run Tryz.prog w = .ok (.func (.func 132) #[] #[]) w := fun _ => by kernel_rfl

end Go.Proofs.YtkmmnlhmfiabfaaGreatDoor
namespace Go.Proofs.YtkmmnlhmfiabfaaGreatDoor
open Go Go.RowKit

section
variable {P : Program} {ops : Array Oper} {md : Region.Mode} {W : World} {N : List Nat}

/-- What is asked of an operation in the world w: one value, and a world that is later. -/
def quietL (P : Program) (o : Oper) (a : Act) (W : World) (next : Act → Prop) : Prop :=
  ∃ v, (∀ u : Later W, o.quietAt P a (fun w'' => ∃ u' : Later (on u), w'' = on u') (on u) v) ∧ next (a.put o.dst v)

/-- The walk in the order of the text, from operation k on: N are the numbers of those that lay a new variable: they are passed over. -/
def wpLex (P : Program) (ops : Array Oper) (W : World) (N : List Nat) (Q : Act → Prop) : Nat → List Oper → Act → Prop
  | _, [], a => Q a
  | k, o :: rest, a =>
    if N.contains k then wpLex P ops W N Q (k + 1) rest (a.put o.dst undef)
    else if Region.wanted o (yielded ops a.tmps) then quietL P o a W (wpLex P ops W N Q (k + 1) rest)
    else wpLex P ops W N Q (k + 1) rest (a.put o.dst undef)

def Ylds (P : Program) (ops : Array Oper) (W : World) (N : List Nat) (i : Nat) (o : Oper) (v : Value) (a : Act) : Prop :=
  (N.contains i = true ∧ v = undef) ∨
  (N.contains i = false ∧ Region.wanted o (yielded ops a.tmps) = true ∧ ∀ u : Later W, o.quietAt P a (fun w'' => ∃ u' : Later (on u), w'' = on u') (on u) v) ∨
  (N.contains i = false ∧ Region.wanted o (yielded ops a.tmps) = false ∧ v = undef)

def gOp (P : Program) (ops : Array Oper) (W : World) (N : List Nat) (i : Nat) (K : Act → Prop) (a : Act) : Prop :=
  match ops[i]? with
  | none => K a
  | some o => ∃ v, Ylds P ops W N i o v a ∧ K (a.put o.dst v)

theorem Ylds.gOp {i : Nat} {o : Oper} {v : Value} {a : Act} (hi : ops[i]? = some o) (hy : Ylds P ops W N i o v a) {K : Act → Prop} (h : K (a.put o.dst v)) : gOp P ops W N i K a := by
  unfold YtkmmnlhmfiabfaaGreatDoor.gOp
  simp only [hi]
  exact ⟨v, hy, h⟩

/-- Whatever order: only operations of the head come up, till it is at its end. -/
def anyL (P : Program) (md : Region.Mode) (ops : Array Oper) (W : World) (N : List Nat) (n : Nat) (L : Array Bool → Act → Prop) : Nat → Array Bool → Act → Prop
  | 0, listed, a => L listed a
  | f + 1, listed, a =>
    Region.ready md ops listed ≠ [] ∧ ∀ i ∈ Region.ready md ops listed, i < n ∧ gOp P ops W N i (anyL P md ops W N n L f (listed.setIfInBounds i true)) a

/-! ### The new variables -/

/-- The slots L hold pointers to the blocks B. -/
def ovl (B : Nat → Nat) : List Nat → Act → Act
  | [], a => a
  | d :: L, a => (ovl B L a).put (some d) (.pointer (some ⟨B d, 0, none⟩))

/-- Operation i lays a new variable, od d, and hands its address to slot d, which no other operation of the head looks at. -/
structure NewAt (P : Program) (ops : Array Oper) (n : Nat) (od : Nat → Obj) (i d : Nat) : Prop where
  lt : i < n
  op : ∃ o, ops[i]? = some o ∧ o.dst = some d ∧ o.guard = none ∧ (∀ ρ w, (execOp ρ o).run P w = .ok (.value (.pointer (some ⟨w.heap.size, 0, none⟩))) (w.alloc (od d))) ∧
    ∀ j oj, j < n → j ≠ i → ops[j]? = some oj → o.apart ops oj = true

structure InvS (W : World) (od : Nat → Obj) (ND : List (Nat × Nat)) (listed : Array Bool) (B : Nat → Nat) (M : List (Nat × Nat)) (ap a : Act) (w : World) : Prop where
  sub : ∀ x ∈ M, x ∈ ND ∧ listed.getD x.1 true = true
  all : ∀ x ∈ ND, listed.getD x.1 true = true → x ∈ M
  eq : a = ovl B (M.map (·.2)) ap
  nodup : (M.map (·.2)).Nodup
  below : Below W.heap.size W w
  lo : ∀ x ∈ M, W.heap.size ≤ B x.2
  held : ∀ x ∈ M, w.heap[B x.2]? = some (od x.2)
  ne : ∀ x ∈ M, ∀ y ∈ M, x.2 ≠ y.2 → B x.2 ≠ B y.2

/-! ### The steps of the walk -/

def plainOp : Op → Bool
  | .move _ | .assign _ | .pick .. | .build .. | .load .. | .binOp .. | .unOp .. | .fieldAddr .. | .field .. | .indexAddr .. | .index .. | .extract .. | .convert .. => true
  | _ => false

section
variable {o : Oper} {rest : List Oper} {k : Nat} {Q : Act → Prop} {a : Act}
end
attribute [go_sem] quietL

def isAlloc (T : Nat) : Op → Bool
  | .alloc t => t == T
  | _ => false

def newB (ops : Array Oper) (n : Nat) (i d T : Nat) : Bool :=
  decide (i < n) && match ops[i]? with
  | some o => isAlloc T o.op && o.dst == some d && o.guard.isNone && (List.range n).all fun j => j == i || match ops[j]? with | some oj => o.apart ops oj | none => true
  | none => false

end

/-! ### A block that is known whole -/
theorem held_cell {w : World} {b : Nat} {vs : Array Value} {t : TypeId} (h : w.heap[b]? = some (.cells vs t)) (i : Nat) : w.cell? ⟨b, i, none⟩ = vs[i]? := by simp [World.cell?, h]
theorem held_free {w : World} {b : Nat} {vs : Array Value} {t : TypeId} (h : w.heap[b]? = some (.cells vs t)) (i : Nat) : w.frozen? ⟨b, i, none⟩ = false := by simp [World.frozen?, h]
theorem held_lt {w : World} {b : Nat} {o : Obj} (h : w.heap[b]? = some o) : b < w.heap.size := (Array.getElem?_eq_some_iff.1 h).1
theorem held_set {w : World} {b : Nat} {vs : Array Value} {t : TypeId} (h : w.heap[b]? = some (.cells vs t)) (i : Nat) (v : Value) : (w.setCell ⟨b, i, none⟩ v).heap[b]? = some (.cells (vs.setIfInBounds i v) t) := by
  have hlt := held_lt h
  have h' : w.heap[b] = .cells vs t := by simpa [Array.getElem?_eq_getElem hlt] using h
  show (w.heap.modify b _)[b]? = _
  rw [Array.getElem?_eq_getElem (by simpa using hlt), Array.getElem_modify_self, h']
  rfl
theorem held_on {W : World} {b : Nat} {o : Obj} (u : Later W) (h : W.heap[b]? = some o) : (on u).heap[b]? = some o := by
  show u.w.heap[b]? = _; rw [u.b.block b (held_lt h)]; exact h

theorem below_on {w W : World} (h : Below w.heap.size w W) (u : Later W) : Below w.heap.size w (on u) := h.trans (u.b.mono h.size)
theorem below_alloc {w W : World} (h : Below w.heap.size w W) (o : Obj) : Below w.heap.size w (W.alloc o) := h.alloc h.size o
theorem below_set {w W : World} (h : Below w.heap.size w W) {p : Addr} (hp : w.heap.size ≤ p.block) (v : Value) : Below w.heap.size w (W.setCell p v) := h.setCell hp v
theorem below_drew {w W : World} (h : Below w.heap.size w W) : Below w.heap.size w W.drew := h.drew

theorem held_set_other {w : World} {b b' : Nat} {o : Obj} (h : w.heap[b]? = some o) (hne : b ≠ b') (i : Nat) (v : Value) : (w.setCell ⟨b', i, none⟩ v).heap[b]? = some o := by
  rw [Below.heap_setCell _ _ _ _ hne]; exact h

/-- The later world in which the new variable at block b holds v0, v1. -/
def st2 {W : World} (u : Later W) {b : Nat} (hb : W.heap.size ≤ b) (v0 v1 : Value) : Later W :=
  ⟨((on u).setCell ⟨b, 0, none⟩ v0).setCell ⟨b, 1, none⟩ v1, (u.b.setCell (p := ⟨b, 0, none⟩) hb v0).setCell (p := ⟨b, 1, none⟩) hb v1⟩
end Go.Proofs.YtkmmnlhmfiabfaaGreatDoor
set_option linter.unusedVariables false
set_option linter.unusedSimpArgs false
namespace Go.Proofs.YtkmmnlhmfiabfaaGreatDoor
open Go Go.RowKit

/-- The number of a point by a kind. -/
def val (k x y : Int) : Int := if k = 1 then x else if k = 2 then y else if k = 3 then x + y else y - x
/-- The mirror image's coordinates; c in the points' unit. -/
def mirX (k c x y : Int) : Int := if k = 1 then 2 * c - x else if k = 2 then x else if k = 3 then c - y else y - c
def mirY (k c x y : Int) : Int := if k = 1 then y else if k = 2 then 2 * c - y else if k = 3 then c - x else x + c
/-- A sign. -/
def sgn (n : Int) : Int := if n < 0 then -1 else if 0 < n then 1 else 0
end Go.Proofs.YtkmmnlhmfiabfaaGreatDoor
set_option linter.unusedVariables false
set_option linter.unusedSimpArgs false
namespace Go.Proofs.YtkmmnlhmfiabfaaGreatDoor
open Go Go.RowKit

end Go.Proofs.YtkmmnlhmfiabfaaGreatDoor
set_option linter.unusedVariables false
set_option linter.unusedSimpArgs false
namespace Go.Proofs.YtkmmnlhmfiabfaaGreatDoor
open Go Go.RowKit

end Go.Proofs.YtkmmnlhmfiabfaaGreatDoor
set_option linter.unusedVariables false
set_option linter.unusedSimpArgs false
namespace Go.Proofs.YtkmmnlhmfiabfaaGreatDoor
open Go Go.RowKit

/-- What string() of a slice gives (a name that the walk does not open). -/
noncomputable def convFall (b : Nat) (w : World) : Result Value := (convert 44 9 (.slice (some ⟨b, 0, none⟩) 1 1)).run Tryz.prog w
theorem conv_one (b : Nat) (w : World) : (convert 44 9 (.slice (some ⟨b, 0, none⟩) 1 1)).run Tryz.prog w =
    match w.cell? ⟨b, 0, none⟩ with | some (.int .u8 v) => .ok (Value.string ⟨#[UInt8.ofNat v.toNat]⟩) w | _ => convFall b w := by
  cases h : w.cell? ⟨b, 0, none⟩ with
  | none => rfl
  | some x =>
    cases x with
    | int k v =>
      cases k with
      | u8 =>
        show _ = Result.ok (Value.string ⟨#[UInt8.ofNat v.toNat]⟩) w
        rw [run_convert_bytes_string w _ _ 5 _ 1 1 Tryz.underlying44 Tryz.underlying5 Tryz.underlying9]
        rw [run_bytesToString w ⟨b, 0, none⟩ 1 1 [v] (run_loadCells_list w ⟨b, 0, none⟩ [.int .u8 v] (fun j x hj => by
          match j, hj with
          | 0, hj => simp only [List.getElem?_cons_zero, Option.some.injEq] at hj; subst hj; exact h))]
        rfl
      | _ => rfl
    | _ => rfl

theorem dec_len (n : Int) (h0 : 0 ≤ n) (h2 : n ≤ 100000) : (Lib.decDigits n.toNat).length ≤ 21 := by
  have := Lib.itoa_length_le n (by omega) (by omega)
  rwa [show n = ((n.toNat : Nat) : Int) by omega, Lib.itoa_nonneg] at this
theorem dec_step (n : Int) (h : 10 ≤ n) : Lib.decDigits (n / 10).toNat ++ [UInt8.ofNat (48 + n % 10).toNat] = Lib.decDigits n.toNat := by
  rw [Lib.decDigits.eq_1 n.toNat, dif_neg (by omega)]
  congr 3 <;> omega
theorem dec_last (n : Int) (h0 : 0 ≤ n) (h : n < 10) : [UInt8.ofNat (48 + n).toNat] = Lib.decDigits n.toNat := by
  rw [Lib.decDigits_one (by omega)]
  congr 2; omega
theorem ret_str {a b : List UInt8} (h : a = b) : Ending.returned (.string ⟨a.toArray⟩) = .returned (.string ⟨b.toArray⟩) := by rw [h]

set_option maxHeartbeats 400000 in
theorem dec_small (n : Int) (w : World) (h0 : 0 ≤ n) (h : n < 10) : Calls Tryz.prog 54 #[.int .i64 n] w fun e w' => e = .returned (.string ⟨(Lib.decDigits n.toNat).toArray⟩) ∧ Below w.heap.size w w' := by
  have hc := conv_one
  go_enter Tryz.func54, Tryz.ntmps54
  go_wp2_with fail
  go_ret
  exact ⟨ret_str (dec_last n h0 h), by repeat first | (with_reducible exact Below.refl _ _) | (with_reducible refine below_on ?_ _) | (with_reducible refine below_alloc ?_ _) | (with_reducible refine below_set ?_ (by simp; try omega) _) | (with_reducible refine below_drew ?_)⟩
set_option maxHeartbeats 400000 in
theorem dec_big (n : Int) (w : World) (h0 : 0 ≤ n) (h : 10 ≤ n) (h2 : n ≤ 100000) (ih : Hid (∀ w, Calls Tryz.prog 54 #[.int .i64 (n / 10)] w fun e w' => e = .returned (.string ⟨(Lib.decDigits (n / 10).toNat).toArray⟩) ∧ Below w.heap.size w w')) : Calls Tryz.prog 54 #[.int .i64 n] w fun e w' => e = .returned (.string ⟨(Lib.decDigits n.toNat).toArray⟩) ∧ Below w.heap.size w w' := by
  have hc := conv_one
  have h9 : ¬ n < 10 := by omega
  have hadd : ∀ w, (Op.stringOp .add ⟨(Lib.decDigits (n / 10).toNat).toArray⟩ ⟨#[UInt8.ofNat (48 + n % 10).toNat]⟩).run Tryz.prog w = .ok (.string ⟨(Lib.decDigits n.toNat).toArray⟩) w := fun w => by
    rw [← dec_step n h]
    have := dec_len (n / 10) (by omega) (by omega)
    exact run_string_add_lists w _ _ (by omega) (by simp)
  go_enter Tryz.func54, Tryz.ntmps54
  go_wp2_with fail
  have q1 : IntKind.i64.wrap (n.tdiv 10) = n / 10 := by rw [Int.tdiv_eq_ediv_of_nonneg h0]; exact IntWalk.i64_in _ (by omega)
  have q2 : n.tmod 10 = n % 10 := Int.tmod_eq_emod_of_nonneg h0
  have q3 : IntKind.i64.wrap (48 + n % 10) = 48 + n % 10 := IntWalk.i64_in _ (by omega)
  have q4 : IntKind.u8.wrap (48 + n % 10) = 48 + n % 10 := IntWalk.u8_in _ (by omega)
  go_region_with (go_at_call 54; with_reducible refine (ih.out _).mono ?_; rintro e w1 ⟨rfl, hb1⟩; obtain ⟨u1, rfl⟩ := after hb1; clear hb1)
  all_goals clear q1 q2 q3 q4
  all_goals go_wp2_with fail
  all_goals go_ret
  all_goals exact ⟨rfl, by repeat first | (with_reducible exact Below.refl _ _) | (with_reducible refine below_on ?_ _) | (with_reducible refine below_alloc ?_ _) | (with_reducible refine below_set ?_ (by simp; try omega) _) | (with_reducible refine below_drew ?_)⟩
theorem dec_nat (k : Nat) : ∀ (n : Int) (w : World), n.toNat ≤ k → 0 ≤ n → n ≤ 100000 → Calls Tryz.prog 54 #[.int .i64 n] w fun e w' => e = .returned (.string ⟨(Lib.decDigits n.toNat).toArray⟩) ∧ Below w.heap.size w w' := by
  induction k with
  | zero => intro n w hk h0 h2; exact dec_small n w h0 (by omega)
  | succ k ih =>
    intro n w hk h0 h2
    by_cases h : n < 10
    · exact dec_small n w h0 h
    · exact dec_big n w h0 (by omega) h2 (fun w => ih (n / 10) w (by omega) (by omega) (by omega))
theorem itoa_len (c : Int) (h1 : -100000 ≤ c) (h2 : c ≤ 100000) : (Lib.itoa c).length ≤ 21 := Lib.itoa_length_le c (by omega) (by omega)
set_option maxHeartbeats 400000 in
theorem dec_any (c : Int) (w : World) (h1 : -100000 ≤ c) (h2 : c ≤ 100000) : Calls Tryz.prog 54 #[.int .i64 c] w fun e w' => e = .returned (.string ⟨(Lib.itoa c).toArray⟩) ∧ Below w.heap.size w w' := by
  by_cases h : c < 0
  · have hadd : ∀ w, (Op.stringOp .add ⟨#[45]⟩ ⟨(Lib.decDigits (-c).toNat).toArray⟩).run Tryz.prog w = .ok (.string ⟨(Lib.itoa c).toArray⟩) w := fun w => by
      have hl := dec_len (-c) (by omega) (by omega)
      have := run_string_add_lists (P := Tryz.prog) w [45] (Lib.decDigits (-c).toNat) (by simp) (by omega)
      rw [show Lib.itoa c = [45] ++ Lib.decDigits (-c).toNat by unfold Lib.itoa; rw [if_pos h]; congr 2; omega]
      exact this
    go_enter Tryz.func54, Tryz.ntmps54
    go_wp2_with (go_at_call 54; refine (dec_nat (-c).toNat (-c) _ (Nat.le_refl _) (by omega) (by omega)).mono ?_; rintro e w1 ⟨rfl, hb1⟩; obtain ⟨u1, rfl⟩ := after hb1; clear hb1)
    go_ret
    exact ⟨rfl, by repeat first | (with_reducible exact Below.refl _ _) | (with_reducible refine below_on ?_ _) | (with_reducible refine below_alloc ?_ _) | (with_reducible refine below_set ?_ (by simp; try omega) _) | (with_reducible refine below_drew ?_)⟩
  · have := dec_nat c.toNat c w (Nat.le_refl _) (by omega) h2
    rw [show Lib.itoa c = Lib.decDigits c.toNat by unfold Lib.itoa; rw [if_neg h]]
    exact this

end Go.Proofs.YtkmmnlhmfiabfaaGreatDoor
set_option linter.unusedVariables false
set_option linter.unusedSimpArgs false
namespace Go.Proofs.YtkmmnlhmfiabfaaGreatDoor
open Go Go.RowKit

/-- The library's table of powers of ten is as its initialiser laid it. -/
def Tab (w : World) : Prop := Lib.TabIs Tryz.prog w "internal/strconv.uint64pow10" .u64 Lib.pow10Tab
theorem gPow : Tryz.prog.globalNamed "internal/strconv.uint64pow10" = some 4 := by kernel_rfl
theorem tab_below {w w' : World} (h : Tab w) (hb : Below w.heap.size w w') : Tab w' := by
  unfold Tab Lib.TabIs World.var? at h ⊢
  simp only [gPow, Option.bind_some] at h ⊢
  cases ho : w.heap[4]? with
  | none => rw [ho] at h; cases h
  | some o => rw [hb.block _ (held_lt ho)]; exact h
theorem below_grow {w w' : World} (h : ∃ k os, w' = Sort.grow (w.drewN k) os) : Below w.heap.size w w' := by
  obtain ⟨k, os, rfl⟩ := h
  refine ⟨rfl, rfl, rfl, by simp, fun i hi => ?_⟩
  show (w.heap ++ os)[i]? = _
  rw [Array.getElem?_append, if_pos hi]
theorem itoa_any (c : Int) (w : World) (hT : Tab w) (h1 : -100000 ≤ c) (h2 : c ≤ 100000) : Calls Tryz.prog 57 #[.int .i64 c] w fun e w' => e = .returned (.string ⟨(Lib.itoa c).toArray⟩) ∧ Below w.heap.size w w' :=
  (Tryz.strconv_Itoa c (by omega) (by omega) w hT).mono fun e w' ⟨he, hg⟩ => ⟨he, below_grow hg⟩

/-- The letter of a kind; the text of a line. -/
def letter (k : Int) : UInt8 := if k = 1 then 120 else if k = 2 then 121 else if k = 3 then 117 else 100
def textL (k c : Int) : List UInt8 := letter k :: 32 :: Lib.itoa c

set_option maxHeartbeats 400000 in
theorem text_1 (c : Int) (w : World) (hT : Tab w) (h1 : -4096 ≤ c) (h2 : c ≤ 4096) : Calls Tryz.prog 56 #[ln 1 c] w fun e w' => e = .returned (.string ⟨(textL 1 c).toArray⟩) ∧ Below w.heap.size w w' := by
  have hT' : ∀ W, Below w.heap.size w W → Tab W := fun W hb => tab_below hT hb
  have hcv : ∀ w, (convert 21 9 (.int .i32 120)).run Tryz.prog w = .ok (.string ⟨#[120]⟩) w := fun _ => by kernel_rfl
  have hA : ∀ w, (Op.stringOp .add ⟨#[120]⟩ ⟨#[32]⟩).run Tryz.prog w = .ok (.string ⟨#[120, 32]⟩) w := fun w => run_string_add_lists w [120] [32] (by simp) (by simp)
  have hB : ∀ w, (Op.stringOp .add ⟨#[120, 32]⟩ ⟨(Lib.itoa c).toArray⟩).run Tryz.prog w = .ok (.string ⟨(textL 1 c).toArray⟩) w := fun w => by
    have := itoa_len c (by omega) (by omega)
    exact run_string_add_lists w [120, 32] (Lib.itoa c) (by simp) (by omega)
  go_enter Tryz.func56, Tryz.ntmps56
  go_wp2_with (first | (go_at_call 58; refine (check_ok _ _ _ (by omega) (by omega) (by omega) (by omega)).mono ?_; rintro e w1 ⟨rfl, hb1⟩; obtain ⟨u1, rfl⟩ := after hb1; clear hb1) | fail)
  refine region_later (by kernel_rfl) (by kernel_rfl) ?_
  repeat (go_big_quiet_step ((first | (go_at_call 81; with_reducible exact Calls.later (way_1 _)) | (go_at_call 57; with_reducible exact Calls.later (itoa_any _ _ (hT' _ (by repeat first | (with_reducible exact Below.refl _ _) | (with_reducible refine below_on ?_ _) | (with_reducible refine below_alloc ?_ _) | (with_reducible refine below_set ?_ (by simp; try omega) _) | (with_reducible refine below_drew ?_))) (by omega) (by omega))))))
  refine wpQuiet_nil ?_
  rintro _ ⟨u3, rfl⟩
  go_wp2
  go_ret
  exact ⟨rfl, by repeat first | (with_reducible exact Below.refl _ _) | (with_reducible refine below_on ?_ _) | (with_reducible refine below_alloc ?_ _) | (with_reducible refine below_set ?_ (by simp; try omega) _) | (with_reducible refine below_drew ?_)⟩

set_option maxHeartbeats 400000 in
theorem text_2 (c : Int) (w : World) (hT : Tab w) (h1 : -4096 ≤ c) (h2 : c ≤ 4096) : Calls Tryz.prog 56 #[ln 2 c] w fun e w' => e = .returned (.string ⟨(textL 2 c).toArray⟩) ∧ Below w.heap.size w w' := by
  have hT' : ∀ W, Below w.heap.size w W → Tab W := fun W hb => tab_below hT hb
  have hcv : ∀ w, (convert 21 9 (.int .i32 121)).run Tryz.prog w = .ok (.string ⟨#[121]⟩) w := fun _ => by kernel_rfl
  have hA : ∀ w, (Op.stringOp .add ⟨#[121]⟩ ⟨#[32]⟩).run Tryz.prog w = .ok (.string ⟨#[121, 32]⟩) w := fun w => run_string_add_lists w [121] [32] (by simp) (by simp)
  have hB : ∀ w, (Op.stringOp .add ⟨#[121, 32]⟩ ⟨(Lib.itoa c).toArray⟩).run Tryz.prog w = .ok (.string ⟨(textL 2 c).toArray⟩) w := fun w => by
    have := itoa_len c (by omega) (by omega)
    exact run_string_add_lists w [121, 32] (Lib.itoa c) (by simp) (by omega)
  go_enter Tryz.func56, Tryz.ntmps56
  go_wp2_with (first | (go_at_call 58; refine (check_ok _ _ _ (by omega) (by omega) (by omega) (by omega)).mono ?_; rintro e w1 ⟨rfl, hb1⟩; obtain ⟨u1, rfl⟩ := after hb1; clear hb1) | fail)
  refine region_later (by kernel_rfl) (by kernel_rfl) ?_
  repeat (go_big_quiet_step ((first | (go_at_call 81; with_reducible exact Calls.later (way_2 _)) | (go_at_call 57; with_reducible exact Calls.later (itoa_any _ _ (hT' _ (by repeat first | (with_reducible exact Below.refl _ _) | (with_reducible refine below_on ?_ _) | (with_reducible refine below_alloc ?_ _) | (with_reducible refine below_set ?_ (by simp; try omega) _) | (with_reducible refine below_drew ?_))) (by omega) (by omega))))))
  refine wpQuiet_nil ?_
  rintro _ ⟨u3, rfl⟩
  go_wp2
  go_ret
  exact ⟨rfl, by repeat first | (with_reducible exact Below.refl _ _) | (with_reducible refine below_on ?_ _) | (with_reducible refine below_alloc ?_ _) | (with_reducible refine below_set ?_ (by simp; try omega) _) | (with_reducible refine below_drew ?_)⟩

set_option maxHeartbeats 400000 in
theorem text_3 (c : Int) (w : World) (hT : Tab w) (h1 : -4096 ≤ c) (h2 : c ≤ 4096) : Calls Tryz.prog 56 #[ln 3 c] w fun e w' => e = .returned (.string ⟨(textL 3 c).toArray⟩) ∧ Below w.heap.size w w' := by
  have hT' : ∀ W, Below w.heap.size w W → Tab W := fun W hb => tab_below hT hb
  have hcv : ∀ w, (convert 21 9 (.int .i32 117)).run Tryz.prog w = .ok (.string ⟨#[117]⟩) w := fun _ => by kernel_rfl
  have hA : ∀ w, (Op.stringOp .add ⟨#[117]⟩ ⟨#[32]⟩).run Tryz.prog w = .ok (.string ⟨#[117, 32]⟩) w := fun w => run_string_add_lists w [117] [32] (by simp) (by simp)
  have hB : ∀ w, (Op.stringOp .add ⟨#[117, 32]⟩ ⟨(Lib.itoa c).toArray⟩).run Tryz.prog w = .ok (.string ⟨(textL 3 c).toArray⟩) w := fun w => by
    have := itoa_len c (by omega) (by omega)
    exact run_string_add_lists w [117, 32] (Lib.itoa c) (by simp) (by omega)
  go_enter Tryz.func56, Tryz.ntmps56
  go_wp2_with (first | (go_at_call 58; refine (check_ok _ _ _ (by omega) (by omega) (by omega) (by omega)).mono ?_; rintro e w1 ⟨rfl, hb1⟩; obtain ⟨u1, rfl⟩ := after hb1; clear hb1) | fail)
  refine region_later (by kernel_rfl) (by kernel_rfl) ?_
  repeat (go_big_quiet_step ((first | (go_at_call 81; with_reducible exact Calls.later (way_3 _)) | (go_at_call 57; with_reducible exact Calls.later (itoa_any _ _ (hT' _ (by repeat first | (with_reducible exact Below.refl _ _) | (with_reducible refine below_on ?_ _) | (with_reducible refine below_alloc ?_ _) | (with_reducible refine below_set ?_ (by simp; try omega) _) | (with_reducible refine below_drew ?_))) (by omega) (by omega))))))
  refine wpQuiet_nil ?_
  rintro _ ⟨u3, rfl⟩
  go_wp2
  go_ret
  exact ⟨rfl, by repeat first | (with_reducible exact Below.refl _ _) | (with_reducible refine below_on ?_ _) | (with_reducible refine below_alloc ?_ _) | (with_reducible refine below_set ?_ (by simp; try omega) _) | (with_reducible refine below_drew ?_)⟩

set_option maxHeartbeats 400000 in
theorem text_4 (c : Int) (w : World) (hT : Tab w) (h1 : -4096 ≤ c) (h2 : c ≤ 4096) : Calls Tryz.prog 56 #[ln 4 c] w fun e w' => e = .returned (.string ⟨(textL 4 c).toArray⟩) ∧ Below w.heap.size w w' := by
  have hT' : ∀ W, Below w.heap.size w W → Tab W := fun W hb => tab_below hT hb
  have hcv : ∀ w, (convert 21 9 (.int .i32 100)).run Tryz.prog w = .ok (.string ⟨#[100]⟩) w := fun _ => by kernel_rfl
  have hA : ∀ w, (Op.stringOp .add ⟨#[100]⟩ ⟨#[32]⟩).run Tryz.prog w = .ok (.string ⟨#[100, 32]⟩) w := fun w => run_string_add_lists w [100] [32] (by simp) (by simp)
  have hB : ∀ w, (Op.stringOp .add ⟨#[100, 32]⟩ ⟨(Lib.itoa c).toArray⟩).run Tryz.prog w = .ok (.string ⟨(textL 4 c).toArray⟩) w := fun w => by
    have := itoa_len c (by omega) (by omega)
    exact run_string_add_lists w [100, 32] (Lib.itoa c) (by simp) (by omega)
  go_enter Tryz.func56, Tryz.ntmps56
  go_wp2_with (first | (go_at_call 58; refine (check_ok _ _ _ (by omega) (by omega) (by omega) (by omega)).mono ?_; rintro e w1 ⟨rfl, hb1⟩; obtain ⟨u1, rfl⟩ := after hb1; clear hb1) | fail)
  refine region_later (by kernel_rfl) (by kernel_rfl) ?_
  repeat (go_big_quiet_step ((first | (go_at_call 81; with_reducible exact Calls.later (way_4 _)) | (go_at_call 57; with_reducible exact Calls.later (itoa_any _ _ (hT' _ (by repeat first | (with_reducible exact Below.refl _ _) | (with_reducible refine below_on ?_ _) | (with_reducible refine below_alloc ?_ _) | (with_reducible refine below_set ?_ (by simp; try omega) _) | (with_reducible refine below_drew ?_))) (by omega) (by omega))))))
  refine wpQuiet_nil ?_
  rintro _ ⟨u3, rfl⟩
  go_wp2
  go_ret
  exact ⟨rfl, by repeat first | (with_reducible exact Below.refl _ _) | (with_reducible refine below_on ?_ _) | (with_reducible refine below_alloc ?_ _) | (with_reducible refine below_set ?_ (by simp; try omega) _) | (with_reducible refine below_drew ?_)⟩

theorem text_ok (k c : Int) (w : World) (hT : Tab w) (h1 : 1 ≤ k) (h2 : k ≤ 4) (h3 : -4096 ≤ c) (h4 : c ≤ 4096) : Calls Tryz.prog 56 #[ln k c] w fun e w' => e = .returned (.string ⟨(textL k c).toArray⟩) ∧ Below w.heap.size w w' := by
  obtain rfl | rfl | rfl | rfl : k = 1 ∨ k = 2 ∨ k = 3 ∨ k = 4 := by omega
  · exact text_1 c w hT h3 h4
  · exact text_2 c w hT h3 h4
  · exact text_3 c w hT h3 h4
  · exact text_4 c w hT h3 h4

end Go.Proofs.YtkmmnlhmfiabfaaGreatDoor
set_option linter.unusedVariables false
set_option linter.unusedSimpArgs false
namespace Go.Proofs.YtkmmnlhmfiabfaaGreatDoor
open Go Go.RowKit

theorem kind_yes (k : Int) (w : World) (h1 : 1 ≤ k) (h2 : k ≤ 4) : Calls Tryz.prog 83 #[.int .u8 k] w fun e w' => e = .returned (.bool true) ∧ w = w' := by
  go_enter Tryz.func83, Tryz.ntmps83
  go_wp2
  go_ret
  exact ⟨rfl, rfl⟩
theorem kind_no (k : Int) (w : World) (h : k < 1 ∨ 4 < k) : Calls Tryz.prog 83 #[.int .u8 k] w fun e w' => e = .returned (.bool false) ∧ w = w' := by
  by_cases h1 : 1 ≤ k
  · have h2 : ¬ k ≤ 4 := by omega
    clear h
    go_enter Tryz.func83, Tryz.ntmps83
    go_wp2
    go_ret
    exact ⟨rfl, rfl⟩
  · clear h
    go_enter Tryz.func83, Tryz.ntmps83
    go_wp2
    go_ret
    exact ⟨rfl, rfl⟩

end Go.Proofs.YtkmmnlhmfiabfaaGreatDoor
set_option linter.unusedVariables false
set_option linter.unusedSimpArgs false
namespace Go.Proofs.YtkmmnlhmfiabfaaGreatDoor
open Go Go.RowKit

/-- The kind that has a letter, or 0. -/
def kindR (r : Int) : Int := if r = 120 then 1 else if r = 121 then 2 else if r = 117 then 3 else if r = 100 then 4 else 0
def letN (k : Int) : Int := if k = 1 then 120 else if k = 2 then 121 else if k = 3 then 117 else 100
/-- Where the search stands: none of the kinds below k has the letter r. -/
def Seek (r k : Int) : Prop := 1 ≤ k ∧ k ≤ 5 ∧ (1 < k → r ≠ 120) ∧ (2 < k → r ≠ 121) ∧ (3 < k → r ≠ 117) ∧ (4 < k → r ≠ 100)
set_option maxHeartbeats 1600000 in
theorem kindOf_any (r : Int) (w : World) : Calls Tryz.prog 155 #[.int .i32 r] w fun e w' => e = .returned (.int .u8 (kindR r)) ∧ Below w.heap.size w w' := by
  go_enter Tryz.func155, Tryz.ntmps155
  go_wp2
  go_loopw [3] (fun k wr => ∃ kk : Int, k = .int .u8 kk ∧ Seek r kk ∧ Below w.heap.size w wr) (fun k _ => (5 - intOf k).toNat)
  case atStart => exact ⟨1, rfl, by unfold Seek; omega, Below.refl _ _⟩
  case round =>
    obtain ⟨kk, rfl, hs, hb⟩ := hrel
    have HS : Hid (Seek r kk) := hs
    have hk1 := hs.1
    have hk2 := hs.2.1
    clear hs
    obtain rfl | rfl | rfl | rfl | rfl : kk = 1 ∨ kk = 2 ∨ kk = 3 ∨ kk = 4 ∨ kk = 5 := by omega
    · clear hk1 hk2
      by_cases hr : r = 120
      · subst hr
        go_wp2_with (first | (go_at_call 83; refine (kind_yes _ _ (by omega) (by omega)).mono ?_; rintro e w0 ⟨rfl, rfl⟩) | (go_at_call 81; refine (way_1 _).mono ?_; rintro e w3 ⟨rfl, hb3⟩; obtain ⟨u3, rfl⟩ := after hb3; clear hb3))
        go_ret
        exact ⟨rfl, below_on hb u3⟩
      · have he : ((120 : Int) == r) = false := by simpa using Ne.symm hr
        have HR : Hid (r ≠ 120) := hr
        clear hr
        go_wp2_with (first | (go_at_call 83; refine (kind_yes _ _ (by omega) (by omega)).mono ?_; rintro e w0 ⟨rfl, rfl⟩) | (go_at_call 81; refine (way_1 _).mono ?_; rintro e w3 ⟨rfl, hb3⟩; obtain ⟨u3, rfl⟩ := after hb3; clear hb3))
        go_roundw
        case rel => exact ⟨1 + 1, rfl, by have h1 := HS.out; have h2 := HR.out; unfold Seek at h1 ⊢; omega, below_on hb u3⟩
        case measure => simp [intOf]
    · clear hk1 hk2
      by_cases hr : r = 121
      · subst hr
        go_wp2_with (first | (go_at_call 83; refine (kind_yes _ _ (by omega) (by omega)).mono ?_; rintro e w0 ⟨rfl, rfl⟩) | (go_at_call 81; refine (way_2 _).mono ?_; rintro e w3 ⟨rfl, hb3⟩; obtain ⟨u3, rfl⟩ := after hb3; clear hb3))
        go_ret
        exact ⟨rfl, below_on hb u3⟩
      · have he : ((121 : Int) == r) = false := by simpa using Ne.symm hr
        have HR : Hid (r ≠ 121) := hr
        clear hr
        go_wp2_with (first | (go_at_call 83; refine (kind_yes _ _ (by omega) (by omega)).mono ?_; rintro e w0 ⟨rfl, rfl⟩) | (go_at_call 81; refine (way_2 _).mono ?_; rintro e w3 ⟨rfl, hb3⟩; obtain ⟨u3, rfl⟩ := after hb3; clear hb3))
        go_roundw
        case rel => exact ⟨2 + 1, rfl, by have h1 := HS.out; have h2 := HR.out; unfold Seek at h1 ⊢; omega, below_on hb u3⟩
        case measure => simp [intOf]
    · clear hk1 hk2
      by_cases hr : r = 117
      · subst hr
        go_wp2_with (first | (go_at_call 83; refine (kind_yes _ _ (by omega) (by omega)).mono ?_; rintro e w0 ⟨rfl, rfl⟩) | (go_at_call 81; refine (way_3 _).mono ?_; rintro e w3 ⟨rfl, hb3⟩; obtain ⟨u3, rfl⟩ := after hb3; clear hb3))
        go_ret
        exact ⟨rfl, below_on hb u3⟩
      · have he : ((117 : Int) == r) = false := by simpa using Ne.symm hr
        have HR : Hid (r ≠ 117) := hr
        clear hr
        go_wp2_with (first | (go_at_call 83; refine (kind_yes _ _ (by omega) (by omega)).mono ?_; rintro e w0 ⟨rfl, rfl⟩) | (go_at_call 81; refine (way_3 _).mono ?_; rintro e w3 ⟨rfl, hb3⟩; obtain ⟨u3, rfl⟩ := after hb3; clear hb3))
        go_roundw
        case rel => exact ⟨3 + 1, rfl, by have h1 := HS.out; have h2 := HR.out; unfold Seek at h1 ⊢; omega, below_on hb u3⟩
        case measure => simp [intOf]
    · clear hk1 hk2
      by_cases hr : r = 100
      · subst hr
        go_wp2_with (first | (go_at_call 83; refine (kind_yes _ _ (by omega) (by omega)).mono ?_; rintro e w0 ⟨rfl, rfl⟩) | (go_at_call 81; refine (way_4 _).mono ?_; rintro e w3 ⟨rfl, hb3⟩; obtain ⟨u3, rfl⟩ := after hb3; clear hb3))
        go_ret
        exact ⟨rfl, below_on hb u3⟩
      · have he : ((100 : Int) == r) = false := by simpa using Ne.symm hr
        have HR : Hid (r ≠ 100) := hr
        clear hr
        go_wp2_with (first | (go_at_call 83; refine (kind_yes _ _ (by omega) (by omega)).mono ?_; rintro e w0 ⟨rfl, rfl⟩) | (go_at_call 81; refine (way_4 _).mono ?_; rintro e w3 ⟨rfl, hb3⟩; obtain ⟨u3, rfl⟩ := after hb3; clear hb3))
        go_roundw
        case rel => exact ⟨4 + 1, rfl, by have h1 := HS.out; have h2 := HR.out; unfold Seek at h1 ⊢; omega, below_on hb u3⟩
        case measure => simp [intOf]
    · have HZ : Hid (kindR r = 0) := by
        have h1 := HS.out
        unfold Seek at h1
        show kindR r = 0
        unfold kindR
        rw [if_neg (by omega), if_neg (by omega), if_neg (by omega), if_neg (by omega)]
      clear hk1 hk2
      go_wp2_with (go_at_call 83; refine (kind_no _ _ (by omega)).mono ?_; rintro e w0 ⟨rfl, rfl⟩)
      go_ret
      exact ⟨by rw [HZ.out]; rfl, hb⟩

end Go.Proofs.YtkmmnlhmfiabfaaGreatDoor
