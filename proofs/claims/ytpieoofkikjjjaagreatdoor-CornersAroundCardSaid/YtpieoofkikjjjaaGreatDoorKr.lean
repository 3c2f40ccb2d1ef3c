/-
  Says: rows that calls are handed or bring, objects of the heap.
-/
import Derived.Test.YtpieoofkikjjjaaGreatDoorKt
import Derived.Test.YtpieoofkikjjjaaGreatDoorKC1
import Derived.KernelRfl
set_option maxRecDepth 1000000
set_option linter.unusedVariables false
set_option linter.unusedSimpArgs false
namespace Go.Proofs.YtpieoofkikjjjaaGreatDoor
open Go Go.Vx
noncomputable def gO (l : List Ent) : FuncId → List Value → Option Value := orAns (fnAns 62 A62) (orcL l)

noncomputable def vr (j o n c : Nat) : Value := .slice (some ⟨Nat.add 11 j,o,none⟩) n c
noncomputable def vQ (b o n c : Nat) : Value := .slice (some ⟨b,o,none⟩) n c
noncomputable def vP (b o : Nat) : Value := .pointer (some ⟨b,o,none⟩)
@[reducible] noncomputable def vfn (f : Nat) : Value := .func (.func f) ⟨[]⟩ ⟨[]⟩
noncomputable def vq (j o : Nat) : Value := .pointer (some ⟨Nat.add 11 j,o,none⟩)
noncomputable def r0 : RowD := ⟨[vi 1,vi 1],64⟩
noncomputable def r1 : RowD := ⟨[vi 1,vi 1,vi 3,vi 1],64⟩
noncomputable def r2 : RowD := ⟨[vi 1,vi 1,vi 3,vi 1,vi 5,vi 1],64⟩
noncomputable def r3 : RowD := ⟨[vi 1,vi 1,vi 3,vi 1,vi 5,vi 1,vi 7,vi 1],64⟩
noncomputable def r4 : RowD := ⟨[vi 1,vi 1,vi 1,vi 3],64⟩
noncomputable def r5 : RowD := ⟨[vi 1,vi 1,vi 3,vi 1,vi 5,vi 1,vi 7,vi 1,vi 9,vi 1],64⟩
noncomputable def r6 : RowD := ⟨[vi 1,vi 1,vi 3,vi 1,vi 2,vi 2,vi 1,vi 3,vi 3,vi 3],64⟩
noncomputable def r7 : RowD := ⟨[vi 1,vi 1,vi 1,vi 3,vi 1,vi 5],64⟩
noncomputable def r8 : RowD := ⟨[vi 1,vi 1,vi 3,vi 1,vi 5,vi 1,vi 2,vi 2,vi 4,vi 2,vi 1,vi 3,vi 3,vi 3,vi 5,vi 3],64⟩
noncomputable def r9 : RowD := ⟨[vi 1,vi 1,vi 1,vi 3,vi 1,vi 5,vi 1,vi 7],64⟩
noncomputable def r10 : RowD := ⟨[vi 1,vi 1,vi 3,vi 1,vi 2,vi 2,vi 1,vi 3,vi 3,vi 3,vi 2,vi 4,vi 1,vi 5,vi 3,vi 5],64⟩
noncomputable def r11 : RowD := ⟨[vi 1,vi 1,vi 3,vi 1,vi 5,vi 1,vi 7,vi 1,vi 2,vi 2,vi 4,vi 2,vi 6,vi 2,vi 1,vi 3,vi 3,vi 3,vi 5,vi 3,vi 7,vi 3],64⟩
noncomputable def r12 : RowD := ⟨[vi 1,vi 1,vi 1,vi 3,vi 1,vi 5,vi 1,vi 7,vi 1,vi 9],64⟩
noncomputable def r13 : RowD := ⟨[vi 1,vi 1,vi 3,vi 1,vi 5,vi 1,vi 7,vi 1,vi 9,vi 1,vi 2,vi 2,vi 4,vi 2,vi 6,vi 2,vi 8,vi 2,vi 1,vi 3,vi 3,vi 3,vi 5,vi 3,vi 7,vi 3,vi 9,vi 3],64⟩
noncomputable def r14 : RowD := ⟨[vi 1,vi 1,vi 3,vi 1,vi 5,vi 1,vi 2,vi 2,vi 4,vi 2,vi 1,vi 3,vi 3,vi 3,vi 5,vi 3,vi 2,vi 4,vi 4,vi 4,vi 1,vi 5,vi 3,vi 5,vi 5,vi 5],64⟩
noncomputable def r15 : RowD := ⟨[vi 1,vi 1,vi 3,vi 1,vi 2,vi 2,vi 1,vi 3,vi 3,vi 3,vi 2,vi 4,vi 1,vi 5,vi 3,vi 5,vi 2,vi 6,vi 1,vi 7,vi 3,vi 7],64⟩
noncomputable def r16 : RowD := ⟨[vi 1,vi 1,vi 3,vi 1,vi 5,vi 1,vi 7,vi 1,vi 2,vi 2,vi 4,vi 2,vi 6,vi 2,vi 1,vi 3,vi 3,vi 3,vi 5,vi 3,vi 7,vi 3,vi 2,vi 4,vi 4,vi 4,vi 6,vi 4,vi 1,vi 5,vi 3,vi 5,vi 5,vi 5,vi 7,vi 5],64⟩
noncomputable def r17 : RowD := ⟨[vi 1,vi 1,vi 3,vi 1,vi 2,vi 2,vi 1,vi 3,vi 3,vi 3,vi 2,vi 4,vi 1,vi 5,vi 3,vi 5,vi 2,vi 6,vi 1,vi 7,vi 3,vi 7,vi 2,vi 8,vi 1,vi 9,vi 3,vi 9],64⟩
noncomputable def r18 : RowD := ⟨[vi 1,vi 1,vi 3,vi 1,vi 5,vi 1,vi 2,vi 2,vi 4,vi 2,vi 1,vi 3,vi 3,vi 3,vi 5,vi 3,vi 2,vi 4,vi 4,vi 4,vi 1,vi 5,vi 3,vi 5,vi 5,vi 5,vi 2,vi 6,vi 4,vi 6,vi 1,vi 7,vi 3,vi 7,vi 5,vi 7],64⟩
noncomputable def r19 : RowD := ⟨[vi 1,vi 1,vi 3,vi 1,vi 5,vi 1,vi 7,vi 1,vi 9,vi 1,vi 2,vi 2,vi 4,vi 2,vi 6,vi 2,vi 8,vi 2,vi 1,vi 3,vi 3,vi 3,vi 5,vi 3,vi 7,vi 3,vi 9,vi 3,vi 2,vi 4,vi 4,vi 4,vi 6,vi 4,vi 8,vi 4,vi 1,vi 5,vi 3,vi 5,vi 5,vi 5,vi 7,vi 5,vi 9,vi 5],64⟩
noncomputable def r20 : RowD := ⟨[vi 1,vi 1,vi 3,vi 1,vi 5,vi 1,vi 7,vi 1,vi 2,vi 2,vi 4,vi 2,vi 6,vi 2,vi 1,vi 3,vi 3,vi 3,vi 5,vi 3,vi 7,vi 3,vi 2,vi 4,vi 4,vi 4,vi 6,vi 4,vi 1,vi 5,vi 3,vi 5,vi 5,vi 5,vi 7,vi 5,vi 2,vi 6,vi 4,vi 6,vi 6,vi 6,vi 1,vi 7,vi 3,vi 7,vi 5,vi 7,vi 7,vi 7],64⟩
noncomputable def r21 : RowD := ⟨[vi 1,vi 1,vi 3,vi 1,vi 5,vi 1,vi 2,vi 2,vi 4,vi 2,vi 1,vi 3,vi 3,vi 3,vi 5,vi 3,vi 2,vi 4,vi 4,vi 4,vi 1,vi 5,vi 3,vi 5,vi 5,vi 5,vi 2,vi 6,vi 4,vi 6,vi 1,vi 7,vi 3,vi 7,vi 5,vi 7,vi 2,vi 8,vi 4,vi 8,vi 1,vi 9,vi 3,vi 9,vi 5,vi 9],64⟩
noncomputable def r22 : RowD := ⟨[vi 1,vi 1,vi 3,vi 1,vi 5,vi 1,vi 7,vi 1,vi 9,vi 1,vi 2,vi 2,vi 4,vi 2,vi 6,vi 2,vi 8,vi 2,vi 1,vi 3,vi 3,vi 3,vi 5,vi 3,vi 7,vi 3,vi 9,vi 3,vi 2,vi 4,vi 4,vi 4,vi 6,vi 4,vi 8,vi 4,vi 1,vi 5,vi 3,vi 5,vi 5,vi 5,vi 7,vi 5,vi 9,vi 5,vi 2,vi 6,vi 4,vi 6,vi 6,vi 6,vi 8,vi 6,vi 1,vi 7,vi 3,vi 7,vi 5,vi 7,vi 7,vi 7,vi 9,vi 7],64⟩
noncomputable def r23 : RowD := ⟨[vi 1,vi 1,vi 3,vi 1,vi 5,vi 1,vi 7,vi 1,vi 2,vi 2,vi 4,vi 2,vi 6,vi 2,vi 1,vi 3,vi 3,vi 3,vi 5,vi 3,vi 7,vi 3,vi 2,vi 4,vi 4,vi 4,vi 6,vi 4,vi 1,vi 5,vi 3,vi 5,vi 5,vi 5,vi 7,vi 5,vi 2,vi 6,vi 4,vi 6,vi 6,vi 6,vi 1,vi 7,vi 3,vi 7,vi 5,vi 7,vi 7,vi 7,vi 2,vi 8,vi 4,vi 8,vi 6,vi 8,vi 1,vi 9,vi 3,vi 9,vi 5,vi 9,vi 7,vi 9],64⟩
noncomputable def r24 : RowD := ⟨[vi 1,vi 1,vi 3,vi 1,vi 5,vi 1,vi 7,vi 1,vi 9,vi 1,vi 2,vi 2,vi 4,vi 2,vi 6,vi 2,vi 8,vi 2,vi 1,vi 3,vi 3,vi 3,vi 5,vi 3,vi 7,vi 3,vi 9,vi 3,vi 2,vi 4,vi 4,vi 4,vi 6,vi 4,vi 8,vi 4,vi 1,vi 5,vi 3,vi 5,vi 5,vi 5,vi 7,vi 5,vi 9,vi 5,vi 2,vi 6,vi 4,vi 6,vi 6,vi 6,vi 8,vi 6,vi 1,vi 7,vi 3,vi 7,vi 5,vi 7,vi 7,vi 7,vi 9,vi 7,vi 2,vi 8,vi 4,vi 8,vi 6,vi 8,vi 8,vi 8,vi 1,vi 9,vi 3,vi 9,vi 5,vi 9,vi 7,vi 9,vi 9,vi 9],64⟩
noncomputable def r25 : RowD := ⟨[vi 2,vi 3,vi 0,vi 1],3⟩
noncomputable def r26 : RowD := ⟨[vi 0,vi 0,vu 0,vi 0,vi 0,vu 1,vi 0,vi 0,vu 2,vi 0,vi 0,vu 3,vi 1,vi 0,vu 0,vi 1,vi 0,vu 1,vi 1,vi 0,vu 2,vi 1,vi 0,vu 3],118⟩
noncomputable def r27 : RowD := ⟨[vi 0,vi 0,vu 0,vi 0,vi 0,vu 1,vi 0,vi 0,vu 2,vi 0,vi 0,vu 3,vi 0,vi 1,vu 0,vi 0,vi 1,vu 1,vi 0,vi 1,vu 2,vi 0,vi 1,vu 3],118⟩
noncomputable def r28 : RowD := ⟨[vi 0,vi 0,vu 0,vi 0,vi 0,vu 1,vi 0,vi 0,vu 2,vi 0,vi 0,vu 3,vi 1,vi 0,vu 0,vi 1,vi 0,vu 1,vi 1,vi 0,vu 2,vi 1,vi 0,vu 3,vi 2,vi 0,vu 0,vi 2,vi 0,vu 1,vi 2,vi 0,vu 2,vi 2,vi 0,vu 3],118⟩
noncomputable def r29 : RowD := ⟨[vi 0,vi 0,vu 0,vi 0,vi 0,vu 1,vi 0,vi 0,vu 2,vi 0,vi 0,vu 3,vi 0,vi 1,vu 0,vi 0,vi 1,vu 1,vi 0,vi 1,vu 2,vi 0,vi 1,vu 3,vi 0,vi 2,vu 0,vi 0,vi 2,vu 1,vi 0,vi 2,vu 2,vi 0,vi 2,vu 3],118⟩
noncomputable def r30 : RowD := ⟨[vi 0,vi 0,vu 0,vi 0,vi 0,vu 1,vi 0,vi 0,vu 2,vi 0,vi 0,vu 3,vi 1,vi 0,vu 0,vi 1,vi 0,vu 1,vi 1,vi 0,vu 2,vi 1,vi 0,vu 3,vi 2,vi 0,vu 0,vi 2,vi 0,vu 1,vi 2,vi 0,vu 2,vi 2,vi 0,vu 3,vi 3,vi 0,vu 0,vi 3,vi 0,vu 1,vi 3,vi 0,vu 2,vi 3,vi 0,vu 3],118⟩
noncomputable def r31 : RowD := ⟨[vi 0,vi 0,vu 0,vi 0,vi 0,vu 1,vi 0,vi 0,vu 2,vi 0,vi 0,vu 3,vi 1,vi 0,vu 0,vi 1,vi 0,vu 1,vi 1,vi 0,vu 2,vi 1,vi 0,vu 3,vi 0,vi 1,vu 0,vi 0,vi 1,vu 1,vi 0,vi 1,vu 2,vi 0,vi 1,vu 3,vi 1,vi 1,vu 0,vi 1,vi 1,vu 1,vi 1,vi 1,vu 2,vi 1,vi 1,vu 3],118⟩
noncomputable def r32 : RowD := ⟨[vi 0,vi 0,vu 0,vi 0,vi 0,vu 1,vi 0,vi 0,vu 2,vi 0,vi 0,vu 3,vi 0,vi 1,vu 0,vi 0,vi 1,vu 1,vi 0,vi 1,vu 2,vi 0,vi 1,vu 3,vi 0,vi 2,vu 0,vi 0,vi 2,vu 1,vi 0,vi 2,vu 2,vi 0,vi 2,vu 3,vi 0,vi 3,vu 0,vi 0,vi 3,vu 1,vi 0,vi 3,vu 2,vi 0,vi 3,vu 3],118⟩
noncomputable def r33 : RowD := ⟨[vi 0,vi 0,vu 0,vi 0,vi 0,vu 1,vi 0,vi 0,vu 2,vi 0,vi 0,vu 3,vi 1,vi 0,vu 0,vi 1,vi 0,vu 1,vi 1,vi 0,vu 2,vi 1,vi 0,vu 3,vi 2,vi 0,vu 0,vi 2,vi 0,vu 1,vi 2,vi 0,vu 2,vi 2,vi 0,vu 3,vi 3,vi 0,vu 0,vi 3,vi 0,vu 1,vi 3,vi 0,vu 2,vi 3,vi 0,vu 3,vi 4,vi 0,vu 0,vi 4,vi 0,vu 1,vi 4,vi 0,vu 2,vi 4,vi 0,vu 3],118⟩
noncomputable def r34 : RowD := ⟨[vi 0,vi 0,vu 0,vi 0,vi 0,vu 1,vi 0,vi 0,vu 2,vi 0,vi 0,vu 3,vi 0,vi 1,vu 0,vi 0,vi 1,vu 1,vi 0,vi 1,vu 2,vi 0,vi 1,vu 3,vi 0,vi 2,vu 0,vi 0,vi 2,vu 1,vi 0,vi 2,vu 2,vi 0,vi 2,vu 3,vi 0,vi 3,vu 0,vi 0,vi 3,vu 1,vi 0,vi 3,vu 2,vi 0,vi 3,vu 3,vi 0,vi 4,vu 0,vi 0,vi 4,vu 1,vi 0,vi 4,vu 2,vi 0,vi 4,vu 3],118⟩
noncomputable def r35 : RowD := ⟨[vi 0,vi 0,vu 0,vi 0,vi 0,vu 1,vi 0,vi 0,vu 2,vi 0,vi 0,vu 3,vi 1,vi 0,vu 0,vi 1,vi 0,vu 1,vi 1,vi 0,vu 2,vi 1,vi 0,vu 3,vi 2,vi 0,vu 0,vi 2,vi 0,vu 1,vi 2,vi 0,vu 2,vi 2,vi 0,vu 3,vi 0,vi 1,vu 0,vi 0,vi 1,vu 1,vi 0,vi 1,vu 2,vi 0,vi 1,vu 3,vi 1,vi 1,vu 0,vi 1,vi 1,vu 1,vi 1,vi 1,vu 2,vi 1,vi 1,vu 3,vi 2,vi 1,vu 0,vi 2,vi 1,vu 1,vi 2,vi 1,vu 2,vi 2,vi 1,vu 3],118⟩
noncomputable def r36 : RowD := ⟨[vi 0,vi 0,vu 0,vi 0,vi 0,vu 1,vi 0,vi 0,vu 2,vi 0,vi 0,vu 3,vi 1,vi 0,vu 0,vi 1,vi 0,vu 1,vi 1,vi 0,vu 2,vi 1,vi 0,vu 3,vi 0,vi 1,vu 0,vi 0,vi 1,vu 1,vi 0,vi 1,vu 2,vi 0,vi 1,vu 3,vi 1,vi 1,vu 0,vi 1,vi 1,vu 1,vi 1,vi 1,vu 2,vi 1,vi 1,vu 3,vi 0,vi 2,vu 0,vi 0,vi 2,vu 1,vi 0,vi 2,vu 2,vi 0,vi 2,vu 3,vi 1,vi 2,vu 0,vi 1,vi 2,vu 1,vi 1,vi 2,vu 2,vi 1,vi 2,vu 3],118⟩
noncomputable def r37 : RowD := ⟨[vi 0,vi 0,vu 0,vi 0,vi 0,vu 1,vi 0,vi 0,vu 2,vi 0,vi 0,vu 3,vi 1,vi 0,vu 0,vi 1,vi 0,vu 1,vi 1,vi 0,vu 2,vi 1,vi 0,vu 3,vi 2,vi 0,vu 0,vi 2,vi 0,vu 1,vi 2,vi 0,vu 2,vi 2,vi 0,vu 3,vi 3,vi 0,vu 0,vi 3,vi 0,vu 1,vi 3,vi 0,vu 2,vi 3,vi 0,vu 3,vi 0,vi 1,vu 0,vi 0,vi 1,vu 1,vi 0,vi 1,vu 2,vi 0,vi 1,vu 3,vi 1,vi 1,vu 0,vi 1,vi 1,vu 1,vi 1,vi 1,vu 2,vi 1,vi 1,vu 3,vi 2,vi 1,vu 0,vi 2,vi 1,vu 1,vi 2,vi 1,vu 2,vi 2,vi 1,vu 3,vi 3,vi 1,vu 0,vi 3,vi 1,vu 1,vi 3,vi 1,vu 2,vi 3,vi 1,vu 3],118⟩
noncomputable def r38 : RowD := ⟨[vi 0,vi 0,vu 0,vi 0,vi 0,vu 1,vi 0,vi 0,vu 2,vi 0,vi 0,vu 3,vi 1,vi 0,vu 0,vi 1,vi 0,vu 1,vi 1,vi 0,vu 2,vi 1,vi 0,vu 3,vi 0,vi 1,vu 0,vi 0,vi 1,vu 1,vi 0,vi 1,vu 2,vi 0,vi 1,vu 3,vi 1,vi 1,vu 0,vi 1,vi 1,vu 1,vi 1,vi 1,vu 2,vi 1,vi 1,vu 3,vi 0,vi 2,vu 0,vi 0,vi 2,vu 1,vi 0,vi 2,vu 2,vi 0,vi 2,vu 3,vi 1,vi 2,vu 0,vi 1,vi 2,vu 1,vi 1,vi 2,vu 2,vi 1,vi 2,vu 3,vi 0,vi 3,vu 0,vi 0,vi 3,vu 1,vi 0,vi 3,vu 2,vi 0,vi 3,vu 3,vi 1,vi 3,vu 0,vi 1,vi 3,vu 1,vi 1,vi 3,vu 2,vi 1,vi 3,vu 3],118⟩
noncomputable def r39 : RowD := ⟨[vi 0,vi 0,vu 0,vi 0,vi 0,vu 1,vi 0,vi 0,vu 2,vi 0,vi 0,vu 3,vi 1,vi 0,vu 0,vi 1,vi 0,vu 1,vi 1,vi 0,vu 2,vi 1,vi 0,vu 3,vi 2,vi 0,vu 0,vi 2,vi 0,vu 1,vi 2,vi 0,vu 2,vi 2,vi 0,vu 3,vi 0,vi 1,vu 0,vi 0,vi 1,vu 1,vi 0,vi 1,vu 2,vi 0,vi 1,vu 3,vi 1,vi 1,vu 0,vi 1,vi 1,vu 1,vi 1,vi 1,vu 2,vi 1,vi 1,vu 3,vi 2,vi 1,vu 0,vi 2,vi 1,vu 1,vi 2,vi 1,vu 2,vi 2,vi 1,vu 3,vi 0,vi 2,vu 0,vi 0,vi 2,vu 1,vi 0,vi 2,vu 2,vi 0,vi 2,vu 3,vi 1,vi 2,vu 0,vi 1,vi 2,vu 1,vi 1,vi 2,vu 2,vi 1,vi 2,vu 3,vi 2,vi 2,vu 0,vi 2,vi 2,vu 1,vi 2,vi 2,vu 2,vi 2,vi 2,vu 3],118⟩
noncomputable def r40 : RowD := ⟨[vi 0,vi 0,vu 0,vi 0,vi 0,vu 1,vi 0,vi 0,vu 2,vi 0,vi 0,vu 3,vi 1,vi 0,vu 0,vi 1,vi 0,vu 1,vi 1,vi 0,vu 2,vi 1,vi 0,vu 3,vi 2,vi 0,vu 0,vi 2,vi 0,vu 1,vi 2,vi 0,vu 2,vi 2,vi 0,vu 3,vi 3,vi 0,vu 0,vi 3,vi 0,vu 1,vi 3,vi 0,vu 2,vi 3,vi 0,vu 3,vi 4,vi 0,vu 0,vi 4,vi 0,vu 1,vi 4,vi 0,vu 2,vi 4,vi 0,vu 3,vi 0,vi 1,vu 0,vi 0,vi 1,vu 1,vi 0,vi 1,vu 2,vi 0,vi 1,vu 3,vi 1,vi 1,vu 0,vi 1,vi 1,vu 1,vi 1,vi 1,vu 2,vi 1,vi 1,vu 3,vi 2,vi 1,vu 0,vi 2,vi 1,vu 1,vi 2,vi 1,vu 2,vi 2,vi 1,vu 3,vi 3,vi 1,vu 0,vi 3,vi 1,vu 1,vi 3,vi 1,vu 2,vi 3,vi 1,vu 3,vi 4,vi 1,vu 0,vi 4,vi 1,vu 1,vi 4,vi 1,vu 2,vi 4,vi 1,vu 3],118⟩
noncomputable def r41 : RowD := ⟨[vi 0,vi 0,vu 0,vi 0,vi 0,vu 1,vi 0,vi 0,vu 2,vi 0,vi 0,vu 3,vi 1,vi 0,vu 0,vi 1,vi 0,vu 1,vi 1,vi 0,vu 2,vi 1,vi 0,vu 3,vi 0,vi 1,vu 0,vi 0,vi 1,vu 1,vi 0,vi 1,vu 2,vi 0,vi 1,vu 3,vi 1,vi 1,vu 0,vi 1,vi 1,vu 1,vi 1,vi 1,vu 2,vi 1,vi 1,vu 3,vi 0,vi 2,vu 0,vi 0,vi 2,vu 1,vi 0,vi 2,vu 2,vi 0,vi 2,vu 3,vi 1,vi 2,vu 0,vi 1,vi 2,vu 1,vi 1,vi 2,vu 2,vi 1,vi 2,vu 3,vi 0,vi 3,vu 0,vi 0,vi 3,vu 1,vi 0,vi 3,vu 2,vi 0,vi 3,vu 3,vi 1,vi 3,vu 0,vi 1,vi 3,vu 1,vi 1,vi 3,vu 2,vi 1,vi 3,vu 3,vi 0,vi 4,vu 0,vi 0,vi 4,vu 1,vi 0,vi 4,vu 2,vi 0,vi 4,vu 3,vi 1,vi 4,vu 0,vi 1,vi 4,vu 1,vi 1,vi 4,vu 2,vi 1,vi 4,vu 3],118⟩
noncomputable def r42 : RowD := ⟨[vi 0,vi 0,vu 0,vi 0,vi 0,vu 1,vi 0,vi 0,vu 2,vi 0,vi 0,vu 3,vi 1,vi 0,vu 0,vi 1,vi 0,vu 1,vi 1,vi 0,vu 2,vi 1,vi 0,vu 3,vi 2,vi 0,vu 0,vi 2,vi 0,vu 1,vi 2,vi 0,vu 2,vi 2,vi 0,vu 3,vi 3,vi 0,vu 0,vi 3,vi 0,vu 1,vi 3,vi 0,vu 2,vi 3,vi 0,vu 3,vi 0,vi 1,vu 0,vi 0,vi 1,vu 1,vi 0,vi 1,vu 2,vi 0,vi 1,vu 3,vi 1,vi 1,vu 0,vi 1,vi 1,vu 1,vi 1,vi 1,vu 2,vi 1,vi 1,vu 3,vi 2,vi 1,vu 0,vi 2,vi 1,vu 1,vi 2,vi 1,vu 2,vi 2,vi 1,vu 3,vi 3,vi 1,vu 0,vi 3,vi 1,vu 1,vi 3,vi 1,vu 2,vi 3,vi 1,vu 3,vi 0,vi 2,vu 0,vi 0,vi 2,vu 1,vi 0,vi 2,vu 2,vi 0,vi 2,vu 3,vi 1,vi 2,vu 0,vi 1,vi 2,vu 1,vi 1,vi 2,vu 2,vi 1,vi 2,vu 3,vi 2,vi 2,vu 0,vi 2,vi 2,vu 1,vi 2,vi 2,vu 2,vi 2,vi 2,vu 3,vi 3,vi 2,vu 0,vi 3,vi 2,vu 1,vi 3,vi 2,vu 2,vi 3,vi 2,vu 3],118⟩
noncomputable def r43 : RowD := ⟨[vi 0,vi 0,vu 0,vi 0,vi 0,vu 1,vi 0,vi 0,vu 2,vi 0,vi 0,vu 3,vi 1,vi 0,vu 0,vi 1,vi 0,vu 1,vi 1,vi 0,vu 2,vi 1,vi 0,vu 3,vi 2,vi 0,vu 0,vi 2,vi 0,vu 1,vi 2,vi 0,vu 2,vi 2,vi 0,vu 3,vi 0,vi 1,vu 0,vi 0,vi 1,vu 1,vi 0,vi 1,vu 2,vi 0,vi 1,vu 3,vi 1,vi 1,vu 0,vi 1,vi 1,vu 1,vi 1,vi 1,vu 2,vi 1,vi 1,vu 3,vi 2,vi 1,vu 0,vi 2,vi 1,vu 1,vi 2,vi 1,vu 2,vi 2,vi 1,vu 3,vi 0,vi 2,vu 0,vi 0,vi 2,vu 1,vi 0,vi 2,vu 2,vi 0,vi 2,vu 3,vi 1,vi 2,vu 0,vi 1,vi 2,vu 1,vi 1,vi 2,vu 2,vi 1,vi 2,vu 3,vi 2,vi 2,vu 0,vi 2,vi 2,vu 1,vi 2,vi 2,vu 2,vi 2,vi 2,vu 3,vi 0,vi 3,vu 0,vi 0,vi 3,vu 1,vi 0,vi 3,vu 2,vi 0,vi 3,vu 3,vi 1,vi 3,vu 0,vi 1,vi 3,vu 1,vi 1,vi 3,vu 2,vi 1,vi 3,vu 3,vi 2,vi 3,vu 0,vi 2,vi 3,vu 1,vi 2,vi 3,vu 2,vi 2,vi 3,vu 3],118⟩
noncomputable def r44 : RowD := ⟨[vi 0,vi 0,vu 0,vi 0,vi 0,vu 1,vi 0,vi 0,vu 2,vi 0,vi 0,vu 3,vi 1,vi 0,vu 0,vi 1,vi 0,vu 1,vi 1,vi 0,vu 2,vi 1,vi 0,vu 3,vi 2,vi 0,vu 0,vi 2,vi 0,vu 1,vi 2,vi 0,vu 2,vi 2,vi 0,vu 3,vi 3,vi 0,vu 0,vi 3,vi 0,vu 1,vi 3,vi 0,vu 2,vi 3,vi 0,vu 3,vi 4,vi 0,vu 0,vi 4,vi 0,vu 1,vi 4,vi 0,vu 2,vi 4,vi 0,vu 3,vi 0,vi 1,vu 0,vi 0,vi 1,vu 1,vi 0,vi 1,vu 2,vi 0,vi 1,vu 3,vi 1,vi 1,vu 0,vi 1,vi 1,vu 1,vi 1,vi 1,vu 2,vi 1,vi 1,vu 3,vi 2,vi 1,vu 0,vi 2,vi 1,vu 1,vi 2,vi 1,vu 2,vi 2,vi 1,vu 3,vi 3,vi 1,vu 0,vi 3,vi 1,vu 1,vi 3,vi 1,vu 2,vi 3,vi 1,vu 3,vi 4,vi 1,vu 0,vi 4,vi 1,vu 1,vi 4,vi 1,vu 2,vi 4,vi 1,vu 3,vi 0,vi 2,vu 0,vi 0,vi 2,vu 1,vi 0,vi 2,vu 2,vi 0,vi 2,vu 3,vi 1,vi 2,vu 0,vi 1,vi 2,vu 1,vi 1,vi 2,vu 2,vi 1,vi 2,vu 3,vi 2,vi 2,vu 0,vi 2,vi 2,vu 1,vi 2,vi 2,vu 2,vi 2,vi 2,vu 3,vi 3,vi 2,vu 0,vi 3,vi 2,vu 1,vi 3,vi 2,vu 2,vi 3,vi 2,vu 3,vi 4,vi 2,vu 0,vi 4,vi 2,vu 1,vi 4,vi 2,vu 2,vi 4,vi 2,vu 3],118⟩
noncomputable def r45 : RowD := ⟨[vi 0,vi 0,vu 0,vi 0,vi 0,vu 1,vi 0,vi 0,vu 2,vi 0,vi 0,vu 3,vi 1,vi 0,vu 0,vi 1,vi 0,vu 1,vi 1,vi 0,vu 2,vi 1,vi 0,vu 3,vi 2,vi 0,vu 0,vi 2,vi 0,vu 1,vi 2,vi 0,vu 2,vi 2,vi 0,vu 3,vi 0,vi 1,vu 0,vi 0,vi 1,vu 1,vi 0,vi 1,vu 2,vi 0,vi 1,vu 3,vi 1,vi 1,vu 0,vi 1,vi 1,vu 1,vi 1,vi 1,vu 2,vi 1,vi 1,vu 3,vi 2,vi 1,vu 0,vi 2,vi 1,vu 1,vi 2,vi 1,vu 2,vi 2,vi 1,vu 3,vi 0,vi 2,vu 0,vi 0,vi 2,vu 1,vi 0,vi 2,vu 2,vi 0,vi 2,vu 3,vi 1,vi 2,vu 0,vi 1,vi 2,vu 1,vi 1,vi 2,vu 2,vi 1,vi 2,vu 3,vi 2,vi 2,vu 0,vi 2,vi 2,vu 1,vi 2,vi 2,vu 2,vi 2,vi 2,vu 3,vi 0,vi 3,vu 0,vi 0,vi 3,vu 1,vi 0,vi 3,vu 2,vi 0,vi 3,vu 3,vi 1,vi 3,vu 0,vi 1,vi 3,vu 1,vi 1,vi 3,vu 2,vi 1,vi 3,vu 3,vi 2,vi 3,vu 0,vi 2,vi 3,vu 1,vi 2,vi 3,vu 2,vi 2,vi 3,vu 3,vi 0,vi 4,vu 0,vi 0,vi 4,vu 1,vi 0,vi 4,vu 2,vi 0,vi 4,vu 3,vi 1,vi 4,vu 0,vi 1,vi 4,vu 1,vi 1,vi 4,vu 2,vi 1,vi 4,vu 3,vi 2,vi 4,vu 0,vi 2,vi 4,vu 1,vi 2,vi 4,vu 2,vi 2,vi 4,vu 3],118⟩
noncomputable def r46 : RowD := ⟨[vi 0,vi 0,vu 0,vi 0,vi 0,vu 1,vi 0,vi 0,vu 2,vi 0,vi 0,vu 3,vi 1,vi 0,vu 0,vi 1,vi 0,vu 1,vi 1,vi 0,vu 2,vi 1,vi 0,vu 3,vi 2,vi 0,vu 0,vi 2,vi 0,vu 1,vi 2,vi 0,vu 2,vi 2,vi 0,vu 3,vi 3,vi 0,vu 0,vi 3,vi 0,vu 1,vi 3,vi 0,vu 2,vi 3,vi 0,vu 3,vi 0,vi 1,vu 0,vi 0,vi 1,vu 1,vi 0,vi 1,vu 2,vi 0,vi 1,vu 3,vi 1,vi 1,vu 0,vi 1,vi 1,vu 1,vi 1,vi 1,vu 2,vi 1,vi 1,vu 3,vi 2,vi 1,vu 0,vi 2,vi 1,vu 1,vi 2,vi 1,vu 2,vi 2,vi 1,vu 3,vi 3,vi 1,vu 0,vi 3,vi 1,vu 1,vi 3,vi 1,vu 2,vi 3,vi 1,vu 3,vi 0,vi 2,vu 0,vi 0,vi 2,vu 1,vi 0,vi 2,vu 2,vi 0,vi 2,vu 3,vi 1,vi 2,vu 0,vi 1,vi 2,vu 1,vi 1,vi 2,vu 2,vi 1,vi 2,vu 3,vi 2,vi 2,vu 0,vi 2,vi 2,vu 1,vi 2,vi 2,vu 2,vi 2,vi 2,vu 3,vi 3,vi 2,vu 0,vi 3,vi 2,vu 1,vi 3,vi 2,vu 2,vi 3,vi 2,vu 3,vi 0,vi 3,vu 0,vi 0,vi 3,vu 1,vi 0,vi 3,vu 2,vi 0,vi 3,vu 3,vi 1,vi 3,vu 0,vi 1,vi 3,vu 1,vi 1,vi 3,vu 2,vi 1,vi 3,vu 3,vi 2,vi 3,vu 0,vi 2,vi 3,vu 1,vi 2,vi 3,vu 2,vi 2,vi 3,vu 3,vi 3,vi 3,vu 0,vi 3,vi 3,vu 1,vi 3,vi 3,vu 2,vi 3,vi 3,vu 3],118⟩
noncomputable def r47 : RowD := ⟨[vi 0,vi 0,vu 0,vi 0,vi 0,vu 1,vi 0,vi 0,vu 2,vi 0,vi 0,vu 3,vi 1,vi 0,vu 0,vi 1,vi 0,vu 1,vi 1,vi 0,vu 2,vi 1,vi 0,vu 3,vi 2,vi 0,vu 0,vi 2,vi 0,vu 1,vi 2,vi 0,vu 2,vi 2,vi 0,vu 3,vi 3,vi 0,vu 0,vi 3,vi 0,vu 1,vi 3,vi 0,vu 2,vi 3,vi 0,vu 3,vi 4,vi 0,vu 0,vi 4,vi 0,vu 1,vi 4,vi 0,vu 2,vi 4,vi 0,vu 3,vi 0,vi 1,vu 0,vi 0,vi 1,vu 1,vi 0,vi 1,vu 2,vi 0,vi 1,vu 3,vi 1,vi 1,vu 0,vi 1,vi 1,vu 1,vi 1,vi 1,vu 2,vi 1,vi 1,vu 3,vi 2,vi 1,vu 0,vi 2,vi 1,vu 1,vi 2,vi 1,vu 2,vi 2,vi 1,vu 3,vi 3,vi 1,vu 0,vi 3,vi 1,vu 1,vi 3,vi 1,vu 2,vi 3,vi 1,vu 3,vi 4,vi 1,vu 0,vi 4,vi 1,vu 1,vi 4,vi 1,vu 2,vi 4,vi 1,vu 3,vi 0,vi 2,vu 0,vi 0,vi 2,vu 1,vi 0,vi 2,vu 2,vi 0,vi 2,vu 3,vi 1,vi 2,vu 0,vi 1,vi 2,vu 1,vi 1,vi 2,vu 2,vi 1,vi 2,vu 3,vi 2,vi 2,vu 0,vi 2,vi 2,vu 1,vi 2,vi 2,vu 2,vi 2,vi 2,vu 3,vi 3,vi 2,vu 0,vi 3,vi 2,vu 1,vi 3,vi 2,vu 2,vi 3,vi 2,vu 3,vi 4,vi 2,vu 0,vi 4,vi 2,vu 1,vi 4,vi 2,vu 2,vi 4,vi 2,vu 3,vi 0,vi 3,vu 0,vi 0,vi 3,vu 1,vi 0,vi 3,vu 2,vi 0,vi 3,vu 3,vi 1,vi 3,vu 0,vi 1,vi 3,vu 1,vi 1,vi 3,vu 2,vi 1,vi 3,vu 3,vi 2,vi 3,vu 0,vi 2,vi 3,vu 1,vi 2,vi 3,vu 2,vi 2,vi 3,vu 3,vi 3,vi 3,vu 0,vi 3,vi 3,vu 1,vi 3,vi 3,vu 2,vi 3,vi 3,vu 3,vi 4,vi 3,vu 0,vi 4,vi 3,vu 1,vi 4,vi 3,vu 2,vi 4,vi 3,vu 3],118⟩
noncomputable def r48 : RowD := ⟨[vi 0,vi 0,vu 0,vi 0,vi 0,vu 1,vi 0,vi 0,vu 2,vi 0,vi 0,vu 3,vi 1,vi 0,vu 0,vi 1,vi 0,vu 1,vi 1,vi 0,vu 2,vi 1,vi 0,vu 3,vi 2,vi 0,vu 0,vi 2,vi 0,vu 1,vi 2,vi 0,vu 2,vi 2,vi 0,vu 3,vi 3,vi 0,vu 0,vi 3,vi 0,vu 1,vi 3,vi 0,vu 2,vi 3,vi 0,vu 3,vi 0,vi 1,vu 0,vi 0,vi 1,vu 1,vi 0,vi 1,vu 2,vi 0,vi 1,vu 3,vi 1,vi 1,vu 0,vi 1,vi 1,vu 1,vi 1,vi 1,vu 2,vi 1,vi 1,vu 3,vi 2,vi 1,vu 0,vi 2,vi 1,vu 1,vi 2,vi 1,vu 2,vi 2,vi 1,vu 3,vi 3,vi 1,vu 0,vi 3,vi 1,vu 1,vi 3,vi 1,vu 2,vi 3,vi 1,vu 3,vi 0,vi 2,vu 0,vi 0,vi 2,vu 1,vi 0,vi 2,vu 2,vi 0,vi 2,vu 3,vi 1,vi 2,vu 0,vi 1,vi 2,vu 1,vi 1,vi 2,vu 2,vi 1,vi 2,vu 3,vi 2,vi 2,vu 0,vi 2,vi 2,vu 1,vi 2,vi 2,vu 2,vi 2,vi 2,vu 3,vi 3,vi 2,vu 0,vi 3,vi 2,vu 1,vi 3,vi 2,vu 2,vi 3,vi 2,vu 3,vi 0,vi 3,vu 0,vi 0,vi 3,vu 1,vi 0,vi 3,vu 2,vi 0,vi 3,vu 3,vi 1,vi 3,vu 0,vi 1,vi 3,vu 1,vi 1,vi 3,vu 2,vi 1,vi 3,vu 3,vi 2,vi 3,vu 0,vi 2,vi 3,vu 1,vi 2,vi 3,vu 2,vi 2,vi 3,vu 3,vi 3,vi 3,vu 0,vi 3,vi 3,vu 1,vi 3,vi 3,vu 2,vi 3,vi 3,vu 3,vi 0,vi 4,vu 0,vi 0,vi 4,vu 1,vi 0,vi 4,vu 2,vi 0,vi 4,vu 3,vi 1,vi 4,vu 0,vi 1,vi 4,vu 1,vi 1,vi 4,vu 2,vi 1,vi 4,vu 3,vi 2,vi 4,vu 0,vi 2,vi 4,vu 1,vi 2,vi 4,vu 2,vi 2,vi 4,vu 3,vi 3,vi 4,vu 0,vi 3,vi 4,vu 1,vi 3,vi 4,vu 2,vi 3,vi 4,vu 3],118⟩
noncomputable def r49 : RowD := ⟨[vi 0,vi 0,vu 0,vi 0,vi 0,vu 1,vi 0,vi 0,vu 2,vi 0,vi 0,vu 3,vi 1,vi 0,vu 0,vi 1,vi 0,vu 1,vi 1,vi 0,vu 2,vi 1,vi 0,vu 3,vi 2,vi 0,vu 0,vi 2,vi 0,vu 1,vi 2,vi 0,vu 2,vi 2,vi 0,vu 3,vi 3,vi 0,vu 0,vi 3,vi 0,vu 1,vi 3,vi 0,vu 2,vi 3,vi 0,vu 3,vi 4,vi 0,vu 0,vi 4,vi 0,vu 1,vi 4,vi 0,vu 2,vi 4,vi 0,vu 3,vi 0,vi 1,vu 0,vi 0,vi 1,vu 1,vi 0,vi 1,vu 2,vi 0,vi 1,vu 3,vi 1,vi 1,vu 0,vi 1,vi 1,vu 1,vi 1,vi 1,vu 2,vi 1,vi 1,vu 3,vi 2,vi 1,vu 0,vi 2,vi 1,vu 1,vi 2,vi 1,vu 2,vi 2,vi 1,vu 3,vi 3,vi 1,vu 0,vi 3,vi 1,vu 1,vi 3,vi 1,vu 2,vi 3,vi 1,vu 3,vi 4,vi 1,vu 0,vi 4,vi 1,vu 1,vi 4,vi 1,vu 2,vi 4,vi 1,vu 3,vi 0,vi 2,vu 0,vi 0,vi 2,vu 1,vi 0,vi 2,vu 2,vi 0,vi 2,vu 3,vi 1,vi 2,vu 0,vi 1,vi 2,vu 1,vi 1,vi 2,vu 2,vi 1,vi 2,vu 3,vi 2,vi 2,vu 0,vi 2,vi 2,vu 1,vi 2,vi 2,vu 2,vi 2,vi 2,vu 3,vi 3,vi 2,vu 0,vi 3,vi 2,vu 1,vi 3,vi 2,vu 2,vi 3,vi 2,vu 3,vi 4,vi 2,vu 0,vi 4,vi 2,vu 1,vi 4,vi 2,vu 2,vi 4,vi 2,vu 3,vi 0,vi 3,vu 0,vi 0,vi 3,vu 1,vi 0,vi 3,vu 2,vi 0,vi 3,vu 3,vi 1,vi 3,vu 0,vi 1,vi 3,vu 1,vi 1,vi 3,vu 2,vi 1,vi 3,vu 3,vi 2,vi 3,vu 0,vi 2,vi 3,vu 1,vi 2,vi 3,vu 2,vi 2,vi 3,vu 3,vi 3,vi 3,vu 0,vi 3,vi 3,vu 1,vi 3,vi 3,vu 2,vi 3,vi 3,vu 3,vi 4,vi 3,vu 0,vi 4,vi 3,vu 1,vi 4,vi 3,vu 2,vi 4,vi 3,vu 3,vi 0,vi 4,vu 0,vi 0,vi 4,vu 1,vi 0,vi 4,vu 2,vi 0,vi 4,vu 3,vi 1,vi 4,vu 0,vi 1,vi 4,vu 1,vi 1,vi 4,vu 2,vi 1,vi 4,vu 3,vi 2,vi 4,vu 0,vi 2,vi 4,vu 1,vi 2,vi 4,vu 2,vi 2,vi 4,vu 3,vi 3,vi 4,vu 0,vi 3,vi 4,vu 1,vi 3,vi 4,vu 2,vi 3,vi 4,vu 3,vi 4,vi 4,vu 0,vi 4,vi 4,vu 1,vi 4,vi 4,vu 2,vi 4,vi 4,vu 3],118⟩
noncomputable def r50 : RowD := ⟨[vi 6,vi 7,vi 4,vi 5],3⟩
noncomputable def r51 : RowD := ⟨[vi 18,vi 19,vi 16,vi 17],3⟩
noncomputable def r52 : RowD := ⟨[vi 22,vi 23,vi 20,vi 21],3⟩
noncomputable def r53 : RowD := ⟨[vi 10,vi 11,vi 8,vi 9],3⟩
noncomputable def r54 : RowD := ⟨[vi 26,vi 27,vi 24,vi 25],3⟩
noncomputable def r55 : RowD := ⟨[vi 14,vi 15,vi 12,vi 13],3⟩
noncomputable def r56 : RowD := ⟨[vi 30,vi 31,vi 28,vi 29],3⟩
noncomputable def r57 : RowD := ⟨[vi 34,vi 35,vi 32,vi 33],3⟩
noncomputable def r58 : RowD := ⟨[vi 38,vi 39,vi 36,vi 37],3⟩
noncomputable def r59 : RowD := ⟨[vi 42,vi 43,vi 40,vi 41],3⟩
noncomputable def r60 : RowD := ⟨[vi 46,vi 47,vi 44,vi 45],3⟩
noncomputable def r61 : RowD := ⟨[vi 50,vi 51,vi 48,vi 49],3⟩
noncomputable def r62 : RowD := ⟨[vi 54,vi 55,vi 52,vi 53],3⟩
noncomputable def r63 : RowD := ⟨[vi 58,vi 59,vi 56,vi 57],3⟩
noncomputable def r64 : RowD := ⟨[vi 12,vi 15,vi 9,vi 8,vi 2,vi 1,vi 7,vi 6],3⟩
noncomputable def r65 : RowD := ⟨[vi 16,vi 19,vi 13,vi 12,vi 2,vi 1,vi 7,vi 6],3⟩
noncomputable def r66 : RowD := ⟨[vi 20,vi 23,vi 17,vi 16,vi 6,vi 5,vi 11,vi 10],3⟩
noncomputable def r67 : RowD := ⟨[vi 20,vi 23,vi 17,vi 16,vi 2,vi 1,vi 7,vi 6],3⟩
noncomputable def r68 : RowD := ⟨[vi 20,vi 23,vi 17,vi 16,vi 10,vi 9,vi 15,vi 14],3⟩
noncomputable def r69 : RowD := ⟨[vi 24,vi 27,vi 21,vi 20,vi 6,vi 5,vi 11,vi 10],3⟩
noncomputable def r70 : RowD := ⟨[vi 24,vi 27,vi 21,vi 20,vi 2,vi 1,vi 7,vi 6],3⟩
noncomputable def r71 : RowD := ⟨[vi 28,vi 31,vi 25,vi 24,vi 10,vi 9,vi 15,vi 14],3⟩
noncomputable def r72 : RowD := ⟨[vi 28,vi 31,vi 25,vi 24,vi 6,vi 5,vi 11,vi 10],3⟩
noncomputable def r73 : RowD := ⟨[vi 62,vi 63,vi 60,vi 61],3⟩
noncomputable def r74 : RowD := ⟨[vi 32,vi 35,vi 29,vi 28,vi 10,vi 9,vi 15,vi 14],3⟩
noncomputable def r75 : RowD := ⟨[vi 28,vi 31,vi 25,vi 24,vi 18,vi 17,vi 23,vi 22],3⟩
noncomputable def r76 : RowD := ⟨[vi 28,vi 31,vi 25,vi 24,vi 14,vi 13,vi 19,vi 18],3⟩
noncomputable def r77 : RowD := ⟨[vi 36,vi 39,vi 33,vi 32,vi 14,vi 13,vi 19,vi 18],3⟩
noncomputable def r78 : RowD := ⟨[vi 32,vi 35,vi 29,vi 28,vi 18,vi 17,vi 23,vi 22],3⟩
noncomputable def r79 : RowD := ⟨[vi 36,vi 39,vi 33,vi 32,vi 26,vi 25,vi 31,vi 30],3⟩
noncomputable def r80 : RowD := ⟨[vi 36,vi 39,vi 33,vi 32,vi 18,vi 17,vi 23,vi 22],3⟩
noncomputable def r81 : RowD := ⟨[vi 40,vi 43,vi 37,vi 36,vi 22,vi 21,vi 27,vi 26],3⟩
noncomputable def r82 : RowD := ⟨[vi 40,vi 43,vi 37,vi 36,vi 26,vi 25,vi 31,vi 30],3⟩
noncomputable def r83 : RowD := ⟨[vi 44,vi 47,vi 41,vi 40,vi 26,vi 25,vi 31,vi 30],3⟩
noncomputable def r84 : RowD := ⟨[vi 44,vi 47,vi 41,vi 40,vi 30,vi 29,vi 35,vi 34],3⟩
noncomputable def r85 : RowD := ⟨[vi 44,vi 47,vi 41,vi 40,vi 22,vi 21,vi 27,vi 26],3⟩
noncomputable def r86 : RowD := ⟨[vi 48,vi 51,vi 45,vi 44,vi 26,vi 25,vi 31,vi 30],3⟩
noncomputable def r87 : RowD := ⟨[vi 52,vi 55,vi 49,vi 48,vi 30,vi 29,vi 35,vi 34],3⟩
noncomputable def r88 : RowD := ⟨[vi 56,vi 59,vi 53,vi 52,vi 34,vi 33,vi 39,vi 38],3⟩
noncomputable def r89 : RowD := ⟨[vi 52,vi 55,vi 49,vi 48,vi 38,vi 37,vi 43,vi 42],3⟩
noncomputable def r90 : RowD := ⟨[vi 52,vi 55,vi 49,vi 48,vi 34,vi 33,vi 39,vi 38],3⟩
noncomputable def r91 : RowD := ⟨[vi 56,vi 59,vi 53,vi 52,vi 42,vi 41,vi 47,vi 46],3⟩
noncomputable def r92 : RowD := ⟨[vi 56,vi 59,vi 53,vi 52,vi 38,vi 37,vi 43,vi 42],3⟩
noncomputable def r93 : RowD := ⟨[vi 60,vi 63,vi 57,vi 56,vi 42,vi 41,vi 47,vi 46],3⟩
noncomputable def r94 : RowD := ⟨[vi 64,vi 67,vi 61,vi 60,vi 42,vi 41,vi 47,vi 46],3⟩
noncomputable def r95 : RowD := ⟨[vi 68,vi 71,vi 65,vi 64,vi 46,vi 45,vi 51,vi 50],3⟩
noncomputable def r96 : RowD := ⟨[vi 68,vi 71,vi 65,vi 64,vi 50,vi 49,vi 55,vi 54],3⟩
noncomputable def r97 : RowD := ⟨[vi 72,vi 75,vi 69,vi 68,vi 50,vi 49,vi 55,vi 54],3⟩
noncomputable def r98 : RowD := ⟨[vi 72,vi 75,vi 69,vi 68,vi 54,vi 53,vi 59,vi 58],3⟩
noncomputable def r99 : RowD := ⟨[vi 76,vi 79,vi 73,vi 72,vi 58,vi 57,vi 63,vi 62],3⟩
noncomputable def r100 : RowD := ⟨[vi 76,vi 79,vi 73,vi 72,vi 54,vi 53,vi 59,vi 58],3⟩
noncomputable def r101 : RowD := ⟨[vi 66,vi 67,vi 64,vi 65],3⟩
noncomputable def r102 : RowD := ⟨[vi 70,vi 71,vi 68,vi 69],3⟩
noncomputable def r103 : RowD := ⟨[vi 74,vi 75,vi 72,vi 73],3⟩
noncomputable def r104 : RowD := ⟨[vi 78,vi 79,vi 76,vi 77],3⟩
noncomputable def r105 : RowD := ⟨[vi 84,vi 87,vi 81,vi 80,vi 62,vi 61,vi 67,vi 66],3⟩
noncomputable def r106 : RowD := ⟨[vi 88,vi 91,vi 85,vi 84,vi 66,vi 65,vi 71,vi 70],3⟩
noncomputable def r107 : RowD := ⟨[vi 92,vi 95,vi 89,vi 88,vi 70,vi 69,vi 75,vi 74],3⟩
noncomputable def r108 : RowD := ⟨[vi 96,vi 99,vi 93,vi 92,vi 74,vi 73,vi 79,vi 78],3⟩
noncomputable def r109 : RowD := ⟨[vi 82,vi 83,vi 80,vi 81],3⟩
noncomputable def r110 : RowD := ⟨[vi 86,vi 87,vi 84,vi 85],3⟩
noncomputable def r111 : RowD := ⟨[vi 90,vi 91,vi 88,vi 89],3⟩
noncomputable def r112 : RowD := ⟨[vi 94,vi 95,vi 92,vi 93],3⟩
noncomputable def r113 : RowD := ⟨[vi 98,vi 99,vi 96,vi 97],3⟩
noncomputable def r114 : RowD := ⟨[vi 6,vu 1,vi 4,vu 1],58⟩
noncomputable def r115 : RowD := ⟨[vi 0,vu 2,vu 3,vi 1,vu 0,vu 1,vi 4,vu 1,vu 2,vi 6,vu 1,vu 2,vi 9,vu 0,vu 1],42⟩
noncomputable def r116 : RowD := ⟨[vu 1,vu 1,vi 1,vi 0,vi 4,vu 2,vu 3,vi 2,vi 2,vi 4,vu 3,vu 4,vi 0,vi 0,vi 1],49⟩
noncomputable def r117 : RowD := ⟨[vi 2,vu 1,vi 6,vu 1,vi 7,vu 2],135⟩

end Go.Proofs.YtpieoofkikjjjaaGreatDoor
