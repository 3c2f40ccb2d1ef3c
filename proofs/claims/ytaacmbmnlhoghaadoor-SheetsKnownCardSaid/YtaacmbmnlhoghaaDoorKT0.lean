/-
  Says: the ends and the line of a unit.
-/
import Derived.Test.YtaacmbmnlhoghaaDoorKR0
import Derived.KernelRfl
set_option maxRecDepth 1000000
set_option linter.unusedVariables false
set_option linter.unusedSimpArgs false
namespace Go.Proofs.YtaacmbmnlhoghaaDoor
open Go Go.Vx
attribute [local instance] anyKeeps

def pt4 (x y a b c d : Nat) : Value := va [vi (Nat.add (Nat.mul 2 x) a), vi (Nat.add (Nat.mul 2 y) b), vi (Nat.add (Nat.mul 2 x) c), vi (Nat.add (Nat.mul 2 y) d)]
def en4 (x y : Nat) (q e : Nat) : Value := match q, e with
  | 0, 0 => pt4 x y 0 0 2 0
  | 0, 1 => pt4 x y 1 1 2 0
  | 0, 2 => pt4 x y 0 0 1 1
  | 1, 0 => pt4 x y 2 0 2 2
  | 1, 1 => pt4 x y 1 1 2 0
  | 1, 2 => pt4 x y 1 1 2 2
  | 2, 0 => pt4 x y 0 2 2 2
  | 2, 1 => pt4 x y 0 2 1 1
  | 2, 2 => pt4 x y 1 1 2 2
  | 3, 0 => pt4 x y 0 0 0 2
  | 3, 1 => pt4 x y 0 2 1 1
  | 3, 2 => pt4 x y 0 0 1 1
  | _, _ => vt
def enV (W id e : Nat) : Value := en4 (Nat.mod (Nat.div id 4) W) (Nat.div (Nat.div id 4) W) (Nat.mod id 4) e
def li0 (x y : Nat) : Nat → Value
  | 0 => va [vu 2, vi y]
  | 1 => va [vu 1, vi (Nat.succ x)]
  | 2 => va [vu 2, vi (Nat.succ y)]
  | _ => va [vu 1, vi x]
def li4 (x y : Nat) (q e : Nat) : Value := match e with
  | 0 => li0 x y q
  | 1 => va [vu 3, vi (Nat.succ (Nat.add x y))]
  | _ => va [vu 4, .int .i64 (Int.subNatNat y x)]
def liV (W id e : Nat) : Value := li4 (Nat.mod (Nat.div id 4) W) (Nat.div (Nat.div id 4) W) (Nat.mod id 4) e
/-- Whether an edge of a cell is a unit's name. -/
def isU (W H c e : Nat) : Bool := match nb W H c e with
  | some n => Nat.blt c n
  | none => false
noncomputable def QA (t : Nat → TypeId) : Orc := valOrc (fun _ => false) (tabG t) AU
theorem QA_ok (t : Nat → TypeId) [Syms] : OrcOk Tryd.prog (tabG t) (QA t) := valOrc_ok (base_G t) (AU_ok t)
def keyU (W H j : Nat) : List Value := [va [vi W, vi H], va [vi (Nat.div j 3), vu (Nat.mod j 3)]]
section
attribute [local instance] anySyms
noncomputable def unE (t : Nat → TypeId) (W H j : Nat) : Bool := match isU W H (Nat.div j 3) (Nat.mod j 3) with
  | false => true
  | true => entryOk Tryd.prog (QA t) (tabG t) 21 (keyU W H j, vp [enV W (Nat.div j 3) (Nat.mod j 3), vi 0]) && (entryOk Tryd.prog (QA t) (tabG t) 22 (keyU W H j, vp [liV W (Nat.div j 3) (Nat.mod j 3), vi 0]) && entryOk Tryd.prog (QA t) (tabG t) 23 (keyU W H j, enV W (Nat.div j 3) (Nat.mod j 3)))
end
def inU (W H id e : Nat) : Bool := inB W H id e && isU W H id e
noncomputable def ansU (F : Nat → Nat → Nat → Value) (args : List Value) : Option Value := match args with
  | [.agg ⟨[.int .i64 (.ofNat W), .int .i64 (.ofNat H)]⟩, .agg ⟨[.int .i64 (.ofNat id), .int .u8 (.ofNat e)]⟩] => (match inU W H id e with | true => some (F W id e) | false => none)
  | _ => none

end Go.Proofs.YtaacmbmnlhoghaaDoor
