/-
  Says: what calls answer, as the kernel runs them (level 2).
-/
import Derived.Test.YtppjogagimflpaaGreatDoorKt
import Derived.Test.YtppjogagimflpaaGreatDoorKa0
import Derived.Test.YtppjogagimflpaaGreatDoorKa1
import Derived.Test.YtppjogagimflpaaGreatDoorKa2
import Derived.Test.YtppjogagimflpaaGreatDoorKa3
import Derived.KernelRfl
set_option maxRecDepth 1000000
set_option linter.unusedVariables false
set_option linter.unusedSimpArgs false
namespace Go.Proofs.YtppjogagimflpaaGreatDoor
open Go Go.Vx
attribute [local instance] anySyms

noncomputable def e28 : List Ent := [(19, [va [vu 0,vi 0,vi 0], va [vu 7,vi 0,vi 0]], vp [va [vu 7,vi 0,vi 0],vi 0]), (19, [va [vu 2,vi 0,vi 0], va [vu 5,vi 0,vi 0]], vp [va [vu 7,vi 0,vi 0],vi 0]), (20, [va [vu 3,vi 0]], va [vu 5,vi 0,vi 0]), (28, [va [vu 3,vi 1,vi 1]], va [vu 1,vi 1,vn 0]), (28, [va [vu 3,vi 20,vn 51]], va [vu 1,vn 51,vn 19]), (28, [va [vu 3,vi 21,vn 2]], va [vu 1,vn 2,vn 20]), (28, [va [vu 3,vi 25,vn 28]], va [vu 1,vn 28,vn 24]), (28, [va [vu 3,vi 40,vn 19]], va [vu 1,vn 19,vn 39]), (28, [va [vu 3,vi 52,vn 45]], va [vu 1,vn 45,vn 51]), (28, [va [vu 2,vi 0,vi 0]], va [vu 2,vi 0,vi 0]), (28, [va [vu 2,vi 0,vn 23]], va [vu 2,vi 0,vn 23]), (28, [va [vu 2,vi 17,vn 2]], va [vu 2,vi 17,vn 2]), (28, [va [vu 2,vi 18,vn 49]], va [vu 2,vi 18,vn 49]), (28, [va [vu 2,vi 41,vn 30]], va [vu 2,vi 41,vn 30]), (28, [va [vu 2,vi 43,vn 54]], va [vu 2,vi 43,vn 54])]
theorem e28_run (t : Nat → TypeId) : allL (entOk Tryz.prog (valOrc (fun _ => false) (tabG t) (orcL (e5 ++ e7 ++ e11 ++ e25))) (tabG t)) e28 = true := by kernel_rfl

noncomputable def e29 : List Ent := [(28, [va [vu 1,vi 54,vn 57]], va [vu 3,vi 58,vi 54]), (28, [va [vu 1,vi 55,vn 10]], va [vu 3,vi 11,vi 55]), (28, [va [vu 1,vi 11,vn 48]], va [vu 3,vi 49,vi 11]), (28, [va [vu 1,vi 30,vn 29]], va [vu 3,vi 30,vi 30]), (28, [va [vu 1,vi 39,vn 54]], va [vu 3,vi 55,vi 39]), (28, [va [vu 1,vi 42,vn 7]], va [vu 3,vi 8,vi 42]), (28, [va [vu 5,vi 54,vn 57]], va [vu 5,vn 57,vi 54])]
theorem e29_run (t : Nat → TypeId) : allL (entOk Tryz.prog (valOrc (fun _ => false) (tabG t) (orcL (e7 ++ e25))) (tabG t)) e29 = true := by kernel_rfl

noncomputable def e30 : List Ent := [(28, [va [vu 5,vi 55,vn 10]], va [vu 5,vn 10,vi 55]), (28, [va [vu 5,vi 11,vn 36]], va [vu 5,vn 36,vi 11]), (28, [va [vu 5,vi 48,vn 43]], va [vu 5,vn 43,vi 48]), (28, [va [vu 5,vi 51,vn 20]], va [vu 5,vn 20,vi 51]), (28, [va [vu 5,vi 57,vn 58]], va [vu 5,vn 58,vi 57]), (28, [va [vu 4,vi 15,vn 50]], va [vu 4,vi 15,vi 51])]
theorem e30_run (t : Nat → TypeId) : allL (entOk Tryz.prog (valOrc (fun _ => false) (tabG t) (orcL (e7 ++ e25))) (tabG t)) e30 = true := by kernel_rfl

noncomputable def e31 : List Ent := [(28, [va [vu 4,vi 24,vn 51]], va [vu 4,vi 24,vi 52]), (28, [va [vu 4,vi 29,vn 28]], va [vu 4,vi 29,vi 29]), (28, [va [vu 4,vi 37,vn 18]], va [vu 4,vi 37,vi 19]), (28, [va [vu 4,vi 47,vn 56]], va [vu 4,vi 47,vi 57]), (28, [va [vu 4,vi 51,vn 56]], va [vu 4,vi 51,vi 57])]
theorem e31_run (t : Nat → TypeId) : allL (entOk Tryz.prog (valOrc (fun _ => false) (tabG t) (orcL (e7 ++ e25))) (tabG t)) e31 = true := by kernel_rfl

noncomputable def e32 : List Ent := [(28, [va [vu 6,vi 11,vn 0]], va [vu 6,vn 10,vn 0]), (28, [va [vu 6,vi 13,vn 12]], va [vu 6,vn 12,vn 12]), (28, [va [vu 6,vi 17,vn 14]], va [vu 6,vn 16,vn 14]), (28, [va [vu 6,vi 19,vn 14]], va [vu 6,vn 18,vn 14])]
theorem e32_run (t : Nat → TypeId) : allL (entOk Tryz.prog (valOrc (fun _ => false) (tabG t) (orcL (e7 ++ e25))) (tabG t)) e32 = true := by kernel_rfl

noncomputable def e33 : List Ent := [(28, [va [vu 6,vi 26,vn 39]], va [vu 6,vn 25,vn 39]), (28, [va [vu 6,vi 58,vn 45]], va [vu 6,vn 57,vn 45]), (28, [va [vu 7,vi 13,vn 0]], va [vu 7,vi 1,vn 12]), (28, [va [vu 7,vi 14,vn 49]], va [vu 7,vi 50,vn 13])]
theorem e33_run (t : Nat → TypeId) : allL (entOk Tryz.prog (valOrc (fun _ => false) (tabG t) (orcL (e7 ++ e25))) (tabG t)) e33 = true := by kernel_rfl

noncomputable def e34 : List Ent := [(28, [va [vu 7,vi 17,vn 38]], va [vu 7,vi 39,vn 16]), (28, [va [vu 7,vi 32,vn 53]], va [vu 7,vi 54,vn 31]), (28, [va [vu 7,vi 52,vn 33]], va [vu 7,vi 34,vn 51])]
theorem e34_run (t : Nat → TypeId) : allL (entOk Tryz.prog (valOrc (fun _ => false) (tabG t) (orcL (e7 ++ e25))) (tabG t)) e34 = true := by kernel_rfl

noncomputable def e35 : List Ent := [(28, [va [vu 7,vi 9,vn 0]], va [vu 7,vi 1,vn 8]), (31, [va [vu 4,vi 47,vn 56], va [vu 1,vi 7]], vp [va [vu 1,vi 40],vi 0]), (31, [va [vu 4,vi 51,vn 56], va [vu 1,vi 11]], vp [va [vu 1,vi 40],vi 0]), (31, [va [vu 1,vi 11,vn 48], va [vu 2,vi 11]], vp [va [vu 1,vi 0],vi 0]), (31, [va [vu 4,vi 15,vn 50], va [vu 1,vi 15]], vp [va [vu 1,vi 0],vi 0]), (31, [va [vu 4,vi 24,vn 51], va [vu 1,vi 24]], vp [va [vu 1,vi 0],vi 0]), (31, [va [vu 4,vi 29,vn 28], va [vu 1,vi 29]], vp [va [vu 1,vi 0],vi 0]), (31, [va [vu 5,vi 11,vn 36], va [vu 2,vi 11]], vp [va [vu 1,vi 0],vi 0]), (31, [va [vu 0,vi 11,vn 12], va [vu 1,vi 31]], vp [va [vu 1,vi 42],vi 0]), (31, [va [vu 0,vi 22,vn 27], va [vu 1,vi 2]], vp [va [vu 1,vi 24],vi 0]), (31, [va [vu 0,vi 42,vn 7], va [vu 1,vi 2]], vp [va [vu 1,vi 44],vi 0]), (31, [va [vu 0,vi 43,vn 42], va [vu 1,vi 23]], vp [va [vu 1,vi 66],vi 0]), (31, [va [vu 0,vi 44,vn 43], va [vu 1,vi 4]], vp [va [vu 1,vi 48],vi 0]), (31, [va [vu 1,vi 30,vn 29], va [vu 2,vi 10]], vp [va [vu 1,vi 20],vi 0]), (31, [va [vu 1,vi 39,vn 54], va [vu 2,vi 19]], vp [va [vu 1,vi 20],vi 0]), (31, [va [vu 1,vi 42,vn 7], va [vu 2,vi 2]], vp [va [vu 1,vi 40],vi 0]), (31, [va [vu 1,vi 54,vn 57], va [vu 2,vi 14]], vp [va [vu 1,vi 40],vi 0]), (31, [va [vu 1,vi 55,vn 10], va [vu 2,vi 15]], vp [va [vu 1,vi 40],vi 0]), (31, [va [vu 4,vi 37,vn 18], va [vu 1,vi 17]], vp [va [vu 1,vi 20],vi 0]), (31, [va [vu 5,vi 48,vn 43], va [vu 2,vi 8]], vp [va [vu 1,vi 40],vi 0]), (31, [va [vu 5,vi 51,vn 20], va [vu 2,vi 31]], vp [va [vu 1,vi 20],vi 0])]
theorem e35_run (t : Nat → TypeId) : allL (entOk Tryz.prog (valOrc (fun _ => false) (tabG t) (orcL (e7 ++ e11 ++ e25 ++ e26))) (tabG t)) e35 = true := by kernel_rfl

noncomputable def e36 : List Ent := [(31, [va [vu 5,vi 54,vn 57], va [vu 2,vi 34]], vp [va [vu 1,vi 20],vi 0]), (31, [va [vu 5,vi 55,vn 10], va [vu 2,vi 35]], vp [va [vu 1,vi 20],vi 0]), (31, [va [vu 5,vi 57,vn 58], va [vu 2,vi 37]], vp [va [vu 1,vi 20],vi 0]), (31, [va [vu 3,vi 1,vi 1], va [vu 4,vi 1]], vp [va [vu 3,vi 3],vi 0]), (31, [va [vu 2,vi 0,vi 0], va [vu 3,vi 0]], vp [va [vu 3,vi 0],vi 0]), (31, [va [vu 2,vi 0,vn 23], va [vu 3,vi 0]], vp [va [vu 3,vn 23],vi 0]), (31, [va [vu 2,vi 17,vn 2], va [vu 3,vi 37]], vp [va [vu 3,vn 22],vi 0]), (31, [va [vu 2,vi 41,vn 30], va [vu 3,vi 1]], vp [va [vu 3,vi 9],vi 0]), (31, [va [vu 3,vi 20,vn 51], va [vu 4,vi 20]], vp [va [vu 3,vn 11],vi 0]), (31, [va [vu 3,vi 21,vn 2], va [vu 4,vi 21]], vp [va [vu 3,vi 39],vi 0]), (31, [va [vu 3,vi 40,vn 19], va [vu 4,vi 20]], vp [va [vu 3,vi 40],vi 0]), (31, [va [vu 3,vi 52,vn 45], va [vu 4,vi 12]], vp [va [vu 3,vi 18],vi 0]), (31, [va [vu 6,vi 17,vn 14], va [vu 3,vi 37]], vp [va [vu 4,vn 68],vi 0])]
theorem e36_run (t : Nat → TypeId) : allL (entOk Tryz.prog (valOrc (fun _ => false) (tabG t) (orcL (e7 ++ e11 ++ e26 ++ e27))) (tabG t)) e36 = true := by kernel_rfl

noncomputable def e37 : List Ent := [(31, [va [vu 7,vi 13,vn 0], va [vu 4,vi 13]], vp [va [vu 4,vn 26],vi 0]), (31, [va [vu 7,vi 14,vn 49], va [vu 4,vi 14]], vp [va [vu 4,vn 77],vi 0]), (31, [va [vu 7,vi 17,vn 38], va [vu 4,vi 37]], vp [va [vu 4,vn 92],vi 0]), (31, [va [vu 7,vi 32,vn 53], va [vu 4,vi 12]], vp [va [vu 4,vn 97],vi 0]), (31, [va [vu 7,vi 52,vn 33], va [vu 4,vi 32]], vp [va [vu 4,vn 117],vi 0]), (31, [va [vu 7,vi 9,vn 0], va [vu 4,vi 9]], vp [va [vu 4,vn 18],vi 0]), (37, [vu 1, vi 0], va [vu 4,vi 0,vi 0])]
theorem e37_run (t : Nat → TypeId) : allL (entOk Tryz.prog (valOrc (fun _ => false) (tabG t) (orcL (e12 ++ e26))) (tabG t)) e37 = true := by kernel_rfl

end Go.Proofs.YtppjogagimflpaaGreatDoor
