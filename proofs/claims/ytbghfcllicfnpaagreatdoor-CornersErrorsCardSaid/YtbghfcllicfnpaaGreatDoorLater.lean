/-
  Says: a region whose operations read old memory, and whose callees only make new memory, may be walked once in the order of the text (no statement of the seat is proved here; lemmas on worlds that differ only above a block number).
-/
import Derived.WalkKit
import Derived.WalkSpells
import Derived.WalkLawsBesides
import Derived.BigQuiet
namespace Go.Proofs.YtbghfcllicfnpaaGreatDoor
open Go Go.RowKit

/-- A world in which all that W had is as it was. -/
structure Later (W : World) where
  w : World
  b : Below W.heap.size W w

instance laterNonempty {W : World} : Nonempty (Later W) := ⟨⟨W, Below.refl _ _⟩⟩

def on {W : World} (u : Later W) : World := u.w

@[go_sem] theorem on_cell {W : World} (u : Later W) (a : Addr) : (on u).cell? a = if (W.cell? a).isSome = true then W.cell? a else u.w.cell? a := by
  split
  · rename_i h
    obtain ⟨v, hv⟩ := Option.isSome_iff_exists.1 h
    exact u.b.cell (World.block_lt_of_cell? W a hv)
  · rfl

@[go_sem] theorem on_frozen {W : World} (u : Later W) (a : Addr) : (on u).frozen? a = if (W.cell? a).isSome = true then W.frozen? a else u.w.frozen? a := by
  split
  · rename_i h
    obtain ⟨v, hv⟩ := Option.isSome_iff_exists.1 h
    exact u.b.frozen (World.block_lt_of_cell? W a hv)
  · rfl

theorem on_size {W : World} (u : Later W) : W.heap.size ≤ (on u).heap.size := u.b.size
theorem on_below {W : World} (u : Later W) : Below W.heap.size W (on u) := u.b

theorem after {W w' : World} (h : Below W.heap.size W w') : ∃ u : Later W, w' = on u := ⟨⟨w', h⟩, rfl⟩

theorem Calls.later {P : Program} {f : FuncId} {args : Array Value} {W : World} {u : Later W} {v : Value}
    (h : Calls P f args (on u) fun e w' => e = .returned v ∧ Below (on u).heap.size (on u) w') : Calls P f args (on u) fun e w' => e = .returned v ∧ ∃ u' : Later W, w' = on u' :=
  h.mono fun _ w' ⟨he, hb⟩ => ⟨he, ⟨w', u.b.trans (hb.mono u.b.size)⟩, rfl⟩

theorem Calls.later_same {P : Program} {f : FuncId} {args : Array Value} {W : World} {u : Later W} {v : Value}
    (h : Calls P f args (on u) fun e w' => e = .returned v ∧ on u = w') : Calls P f args (on u) fun e w' => e = .returned v ∧ ∃ u' : Later W, w' = on u' :=
  h.mono fun _ _ ⟨he, hb⟩ => ⟨he, u, hb.symm⟩

theorem region_later {P : Program} {id : Nat} {Q : Exit → Act → World → Prop} {a : Act} {W : World} {l : List Oper} (hm : P.follows .mixedOrders = true) (hB : Region.lexB .any l.toArray = true)
    (h : wpQuiet P l.toArray (fun w' => ∃ u : Later W, w' = on u) (fun a' => ∀ w', (∃ u : Later W, w' = on u) → Q .normal a' w') l a) : (Code.region id l.toArray true).wp P Q a W :=
  wp_region_quiet (C := fun w' => ∃ u : Later W, w' = on u) hm hB ⟨⟨W.drew, (Below.refl _ _).drew⟩, rfl⟩ (by simpa using h)

end Go.Proofs.YtbghfcllicfnpaaGreatDoor
